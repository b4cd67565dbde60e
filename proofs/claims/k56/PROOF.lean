import PyProof.Rows.All
import Wide.All
import OpenK.AllK
import PySem.Challenge.RW_blotsure_k56_whole_no_two_nearer
abbrev Qb:=@PySem.wpAny_bind
abbrev Qr:=@List.length_map
abbrev Za:=@List.mem_singleton
abbrev Zb:=@List.mem_map
abbrev Zc:=@PySem.wpAny_pure
abbrev Zd:=@List.getElem?_eq_getElem
abbrev Ze:=@List.mem_of_getElem?
abbrev Zf:=@PySem.Heap.get?_push_of_some
abbrev Zg:=@List.length_append
abbrev Zh:=@List.map_append
abbrev Zi:=@List.mem_append
abbrev Zj:=@List.getElem?_map
abbrev Zk:=@Nat.le_refl
abbrev Zl:=@List.map_cons
abbrev Zm:=@List.mem_cons
abbrev Zn:=@List.getD_eq_getElem?_getD
abbrev Zo:=@List.getElem?_eq_some_iff
abbrev Zp:=@PySem.Heap.lt_size
abbrev Zq:=@List.map_map
abbrev Zr:=@Bool.false_ne_true
abbrev Zs:=@List.mem_cons_self
abbrev Zt:=@PySem.Heap.get?_push_size
abbrev Zu:=@List.size_toArray
abbrev Zv:=@List.mem_cons_of_mem
abbrev Zw:=@List.mem_append_right
abbrev Zx:=@List.eq_nil_of_length_eq_zero
abbrev Zy:=@PyProof.Rows.wpS_bind
abbrev Zz:=@List.mem_append_left
abbrev Yb:=@Nat.lt_of_le_of_lt
abbrev Yc:=@Nat.lt_of_lt_of_le
abbrev Yd:=@List.length_take
abbrev Ye:=@PyProof.Rows.wpS_pure
abbrev Yf:=@decide_eq_false
abbrev Yg:=@Nat.le_trans
abbrev Yh:=@Int.toNat_natCast
abbrev Yi:=@List.pairwise_append
abbrev Yj:=@decide_eq_true
abbrev Yk:=@List.append_assoc
abbrev Yl:=@Bool.false_eq_true
abbrev Ym:=@Option.some.inj
abbrev Yn:=@List.length_singleton
abbrev Yo:=@Nat.ne_of_lt
abbrev Yp:=@Option.map_eq_some_iff
abbrev Yq:=@List.not_mem_nil
abbrev Yr:=@List.exists_cons_of_length_pos
abbrev Ys:=@List.take_add_one
abbrev Yt:=@congrArg
abbrev Yu:=@List.length_cons
abbrev Yv:=@PySem.wpAny_call_entry
abbrev Yw:=@List.mem_range
abbrev Yx:=@List.length_drop
abbrev Yy:=@List.getElem_mem
abbrev Yz:=@Nat.zero_le
abbrev Xa:=@List.append_nil
abbrev Xb:=@List.take_of_length_le
abbrev Xc:=@List.nodup_append
abbrev Xd:=@List.forIn_cons
abbrev Xe:=@PySem.wpAny_newObj_type
abbrev Xf:=@Array.getElem?_toList
abbrev Xg:=@PySem.wpAny_holding
abbrev Xh:=@List.take_length
abbrev Xi:=@List.length_range
abbrev Xj:=@Nat.lt_irrefl
abbrev Xk:=@PySem.wpAny_setField_rec
abbrev Xl:=@PySem.wpAny_field
abbrev Xm:=@Array.length_toList
abbrev Xn:=@PySem.Heap.SameBut.update
abbrev Xo:=@Bool.and_eq_true
abbrev Xp:=@List.drop_eq_getElem_cons
abbrev Xq:=@List.map_nil
abbrev Xr:=@if_false
abbrev Xs:=@PySem.wpAny_seqItems
abbrev Xu:=@List.mem_flatMap
abbrev Xv:=@List.mem_iff_getElem?
abbrev Xw:=@Nat.le_of_lt
abbrev Xx:=@of_decide_eq_true
abbrev Xy:=@PySem.wpAny_dictEntries
abbrev Xz:=@or_false
abbrev Wo:=@Nat.pos_of_ne_zero
abbrev Wp:=@PySem.Paired.length
abbrev Wq:=@PySem.W.kia_one
abbrev Wr:=@List.nodup_cons
abbrev Ws:=@Nat.le_add_right
abbrev Wt:=@Array.getElem?_eq_getElem
abbrev Wu:=@beq_eq_false_iff_ne
abbrev Wv:=@PySem.wpAny_mono
abbrev Ww:=@PySem.Heap.get?_update_self
abbrev Wx:=@List.getElem?_toArray
abbrev Wy:=@List.take_append_drop
set_option Elab.async false
set_option linter.all false
set_option maxRecDepth 100000
noncomputable section
local macro_rules | `(tactic| ac_rfl) => `(tactic| exact ⟨rfl,rfl,rfl,by decide+kernel,rfl,by decide+kernel,by decide+kernel⟩)
local macro_rules | `(tactic| ac_nf) => `(tactic| decide+kernel)
set_option maxHeartbeats 4000000
local macro_rules | `(tactic| rfl') => `(tactic| first | lia | omega)
namespace L2
open PySem
def dR (s:Stmt):Arguments:=match s with
 | .FunctionDef _ a _ _ _ _ _ _ _ _=>a
 | _=>{ posonlyargs:=[],args:=[],vararg:=none,kwonlyargs:=[],kw_defaults:=[],kwarg:=none,defaults:=[] }
def dh (s:Stmt):List Stmt:=match s with
 | .FunctionDef _ _ b _ _ _ _ _ _ _=>b
 | _=>[]
def aF (s:Stmt):Scope:=match s with
 | .FunctionDef _ _ _ _ _ _ sc _ _ _=>sc
 | _=>{ kind:= .function,names:=[],isGenerator:=false,isCoroutine:=false }
end L2
abbrev pWo:=PySem.Challenge.pw_blotsure_k56_whole_no_two_nearer
namespace Pg
open PySem L2 PySem.W
set_option maxHeartbeats 0
def top (i:Nat):Stmt:=pWo.main.body.getD i (.Pass ⟨0,0,0,0⟩)
def Jd (as:List Addr) (h:Heap):Frag:=as.filterMap λ a=>(h.get? a).map λ o=>(a,o)
theorem nZ {h:Heap}: ∀ {as:List Addr},(Jd as h).In h
 | [],_,_,e=>nomatch e
 | a::as,b,o,e=>by
  unfold Jd at e;rw [List.filterMap_cons] at e
  cases q:h.get? a with
  | none=>rw [q] at e;exact nZ (as:=as) b o e
  | some o'=>
   rw [q] at e;simp only [Option.map_some,List.lookup_cons] at e;split at e
   .rename_i z;rw [eq_of_beq z,q];exact e
   .exact nZ (as:=as) b o e
abbrev DO:=Str×Str×Arguments×FuncBody×Scope×Addr×List (Str×Addr)×Addr×Bool×Bool
def Oh (K:Frag) (n:Str):Option (Option Addr×DO):=match nsIn K mainGlobals n with
 | some (some (.ref f))=>match K.lookup f with
  | some ⟨_,_, .func d,_⟩=>(match d.defaults with | .none=>some none | .ref t=>some (some t) | _=>none).map λ t=>(t,d.name,d.qualname,d.params,d.body,d.scope,d.globals,d.closure,d.builtins,codeIn K d.code n,keepIn K (.ref f))
  | _=>none
 | _=>none
def Oi (t:Option Addr) (n:Str) (i:Nat):Option (Option Addr×DO):=some (t,n,n,dR (top i), .stmts (dh (top i)),aF (top i),mainGlobals,[],builtinsNs,true,true)
def Tg (K:Frag) (C:Addr):Bool×List (Option (Option Value))×List (Option Bool):=
 (excIn K C [.type "ValueError", .type "Exception", .type "BaseException", .type "object"] "ValueError.__new__",[findIn K (.ref C) "__getattribute__",findIn K (.ref C) "__getattr__",findIn K (.ref C) "__class__",specialIn K (.builtin "object.__class__") "__get__"],[takesIn K (.builtin "object.__class__"),mroIn K C (.type "object"),subIn K (.ref C) (.type "BaseException")])
def S8:Bool×List (Option (Option Value))×List (Option Bool):=(true,[some (some (.builtin "BaseException.__getattribute__")),some none,some (some (.builtin "object.__class__")),some (some (.builtin "getset_descriptor.__get__"))],[some true,some true,some true])
def nms:List Str:=(["len","sum","zip","dict","min","enumerate","max","isinstance","bool","int","range","tuple","sorted","list","all","BlotError","NotAlike"]:List String).map Str.ofString
def UT:List (Option (Option Value)):=[some none,some none,some none,some none,some none,some none,some none,some none,some none,some none,some none,some none,some none,some none,some none,some (some (.ref 38)),some (some (.ref 51))]
def Oj:List (Str×Nat):=((["inked","apart","check_alike","gap","lettered","ways_of","costs_over","texts_to_rooms","stand_behind","forks","steps_by","all_steps","steps_back","is_even","let_wait","rests","grown","texts_of_fork","step_on","led_on","farness","mends","_law_cell_at","_law_whole","_law_signs","_law_letters","_law_shape","_law_font","_law_drawn","_law_house","_law_spots","_law_way","_law_meetings","law"]:List String).map Str.ofString).zip [1,2,8,7,11,10,15,14,16,13,17,18,22,23,21,20,26,25,28,27,24,29,31,32,33,34,35,36,37,38,39,40,41,42]
def obs (K:Frag):=(nms.map (nsIn K mainGlobals),Oj.map (λ d=>Oh K d.1),[38,51].map (Tg K))
def ans:List (Option (Option Value))×List (Option (Option Addr×DO))×List (Bool×List (Option (Option Value))×List (Option Bool)):=(UT,Oj.map (λ d=>Oi none d.1 d.2),[S8,S8])
def vw:Program:={ pWo with main:={ pWo.main with body:=[1,2,4,5,7,8,10,11,13,14,15,16,17,18,20,21,22,23,24,25,26,27,28,29,31,32,33,34,35,36,37,38,39,40,41,42].filterMap (pWo.main.body[·]?) } }
theorem said:PySem.Challenge.rw_blotsure_k56_whole_no_two_nearer.wellSaid=true:=by kernel_rfl
theorem left:LeftO pWo vw [] (λ s=>xlAt vw [] s&&recOk [] s) (λ s=>obs (Jd [2,3,15,17,18,20,21,22,24,25,27,28,29,36,37,38,39,42,49,50,51,54,57,58,59,61,62,64,65,66,69,70,71,74,75,76,78,79,81,82,83,85,86,88,89,90,92,93,95,96,97,99,100,102,103,104,107,108,109,112,113,114,117,118,119,121,122,124,125,126,128,129,131,132,133,135,136,138,139,140,143,144,145,147,148,150,151,152,154,155,157,158,159,161,162,164,165,166,168,169,171,172,173,175,176,178,179,180,182,183,185,186,187,189,190,192,193,194,196,197,199,200,201,204,205,206,208,209,211,212,213,216,217,218,221,222,223,225,226,228,229,230,232,233,235,236,237,240,241,242,244,245,247,248,249,252,253] s.heap)) (λ _=>ans) 3136:=λ w=>by kernel_rfl
end Pg
set_option Elab.async false
set_option linter.all false
set_option maxRecDepth 100000
namespace L2
open PySem PySem.Spec PyProof.Rows
variable {lo:Int} {M:Model} {w:World} {A:Around} {d':Drawn} {op:CmpOp} {cd u:Value} {p:Addr×Obj} {qual x:Str} {c e tg:Expr} {fd:FuncData} {es:List Expr} {pos pos':Pos} {s' s1:Shared} {a b dx it:Addr} {an:Option Addr} {i j k n t':Nat} {outer:List Env} {sc scope:Scope} {ch fp:List Addr} {g:Int->Int->Int} {C:Int->Int->Prop} {params:Arguments} {body st:List Stmt} {g':Array GenState} {its us:List Value} {E Q:Value->Shared->Prop} {mA mg:Str->Option Value} {osl:Array (Option Value)} {f:Value->Value->Sem Value} {pins pins':List (Addr×Obj)}
abbrev Key:=Sum Int Str
def iM:Key->Value->Bool
 | .inl k,v=>Value.isInt k v
 | .inr x,v=>Value.isStrOf x v
def Th (w:World):Key->Int
 | .inl k=>hashInt k
 | .inr x=>hashStr w x
theorem bG: ∀ {k:Key} {v:Value},iM k v=true->(∃i t,k=Sum.inl i/\v=Value.int i t)\/(∃x t,k=Sum.inr x/\v=Value.str x t)
 | .inl i,v,h=>by
  obtain ⟨t,e⟩:=Value.isInt_shape (k:=i) (v:=v) h;exact .inl ⟨i,t,rfl,e⟩
 | .inr x,v,h=>by
  obtain ⟨t,e⟩:=Value.isStrOf_shape (x:=x) (v:=v) h;exact .inr ⟨x,t,rfl,e⟩
theorem wQ (i:Int) (t:Tok):iM (.inl i) (.int i t)=true:=by simp [iM,Value.isInt]
theorem mD (x:Str) (t:Tok):iM (.inr x) (.str x t)=true:=by simp [iM,Value.isStrOf]
theorem Je (a b:Int):decide ((Sum.inl a:Key)=Sum.inl b)=(a==b):=by
 by_cases e:a=b
 .subst e;simp
 .have h: ¬ (Sum.inl a:Key)=Sum.inl b:=λ q=>e (Sum.inl.inj q)
  rw [Yf h];exact (Wu.mpr e).symm
theorem Jf (a b:Str):decide ((Sum.inr a:Key)=Sum.inr b)=decide (a=b):=by
 by_cases e:a=b
 .subst e;simp
 .have h: ¬ (Sum.inr a:Key)=Sum.inr b:=λ q=>e (Sum.inr.inj q)
  rw [Yf h,Yf e]
theorem Jg (a:Int) (b:Str):decide ((Sum.inl a:Key)=Sum.inr b)=false:=Yf (λ q=>nomatch q)
theorem Jh (a:Str) (b:Int):decide ((Sum.inr a:Key)=Sum.inl b)=false:=Yf (λ q=>nomatch q)
def bD (prog:Program) (w:World):PySem.KeyKind prog w Key where
 is:=iM
 hash:=Th w
 inj:=λ v a b ha hb=>by
  rcases bG ha with ⟨i,t,rfl,rfl⟩ | ⟨x,t,rfl,rfl⟩
  .rcases bG hb with ⟨j,u,rfl,e⟩ | ⟨y,u,rfl,e⟩
   .injection e with e1 _;rw [e1]
   .exact nomatch e
  .rcases bG hb with ⟨j,u,rfl,e⟩ | ⟨y,u,rfl,e⟩
   .exact nomatch e
   .injection e with e1 _;rw [e1]
 byValue:=λ k v h=>by
  rcases bG h with ⟨i,t,rfl,rfl⟩ | ⟨x,t,rfl,rfl⟩<;>rfl
 pyHash:=λ hv h=>by
  rcases bG hv with ⟨i,t,rfl,rfl⟩ | ⟨x,t,rfl,rfl⟩
  .exact wpAny_pyHash_int h
  .exact wpAny_pyHash_str h
 eqBool:=λ hu hv h=>by
  rcases bG hu with ⟨i,t,rfl,rfl⟩ | ⟨x,t,rfl,rfl⟩
  .rcases bG hv with ⟨j,u,rfl,rfl⟩ | ⟨y,u,rfl,rfl⟩
   .rw [Je] at h;exact wpAny_eqBool_int h
   .rw [Jg] at h;exact SeqAt.EqAt.int_str i t y u _ _ _ _ h
  .rcases bG hv with ⟨j,u,rfl,rfl⟩ | ⟨y,u,rfl,rfl⟩
   .rw [Jh] at h;exact SeqAt.EqAt.str_int x t j u _ _ _ _ h
   .rw [Jf] at h;exact wpAny_eqBool_str h
 «strs»:=λ k x t v h=>by
  rcases bG h with ⟨i,u,rfl,e⟩ | ⟨y,u,rfl,e⟩
  .exact nomatch e
  .injection e with e1 _
   subst e1
   cases v<;>rfl
theorem sV (prog:Program) (w:World) (k:Key) (v:Value):(bD prog w).is k v=iM k v:=rfl
theorem qi (prog:Program) (w:World) (i:Int) (t:Tok):(bD prog w).is (.inl i) (.int i t)=true:=wQ i t
theorem qj (prog:Program) (w:World) (x:Str) (t:Tok):(bD prog w).is (.inr x) (.str x t)=true:=mD x t
inductive V where
 | non | bl (b:Bool) | int (i:Int) | str (x:Str) | byt (b:Array UInt8) | flt (b:UInt64) | ref (a:Addr) | ty (n:String)
 deriving DecidableEq
variable {v y:V} {xs:List V} {Z':List (Option V)}
def RelV:V->Value->Prop
 | .non,u=>u=Value.none
 | .bl b,u=>u=Value.bool b
 | .int i,u=> ∃t,u=Value.int i t
 | .str x,u=> ∃t,u=Value.str x t
 | .byt b,u=> ∃t,u=Value.bytes b t
 | .flt b,u=> ∃t,u=Value.float b t
 | .ref a,u=>u=Value.ref a
 | .ty n,u=>u=Value.type n
abbrev Vals:List V->List Value->Prop:=Paired RelV
theorem Vals.length (r:Vals xs us):xs.length=us.length:=Wp r
theorem Vals.get: ∀ {xs:List V} {us:List Value} {i:Nat} {x:V},Vals xs us->xs[i]? =some x-> ∃u,us[i]? =some u/\RelV x u
 | _,_,_,_, .nil,e=>by simp at e
 | _,_,0,_, .cons r _,e=>by simp at e;subst e;exact ⟨_,rfl,r⟩
 | _,_,i+1,x, .cons _ t,e=>by
  obtain ⟨u,h1,h2⟩:=Vals.get (i:=i) (x:=x) t (by simpa using e);exact ⟨u,by simpa using h1,h2⟩
theorem Vals.set {x:V} (r:RelV x u): ∀ {xs:List V} {us:List Value} (i:Nat),Vals xs us->Vals (xs.set i x) (us.set i u)
 | _,_,_, .nil=> .nil
 | _,_,0, .cons _ t=> .cons r t
 | _,_,i+1, .cons q t=> .cons q (Vals.set r i t)
theorem Vals.append: ∀ {xs ys:List V} {us ws:List Value},Vals xs us->Vals ys ws->Vals (xs++ys) (us++ws)
 | _,_,_,_, .nil,s=>s
 | _,_,_,_, .cons r t,s=> .cons r (Vals.append t s)
theorem Vals.take: ∀ {xs:List V} {us:List Value} (n:Nat),Vals xs us->Vals (xs.take n) (us.take n)
 | _,_,0,_=> .nil
 | _,_,_+1, .nil=> .nil
 | _,_,n+1, .cons r t=> .cons r (Vals.take n t)
theorem Vals.drop: ∀ {xs:List V} {us:List Value} (n:Nat),Vals xs us->Vals (xs.drop n) (us.drop n)
 | _,_,0,r=>r
 | _,_,_+1, .nil=> .nil
 | _,_,n+1, .cons _ t=>Vals.drop n t
def RelO:Option V->Option Value->Prop
 | some v,some u=>RelV v u
 | none,none=>True
 | _,_=>False
def KV {κ:Type}:List (κ×V)->List (κ×Value)->Prop:=Paired λ (p:κ×V) (q:κ×Value)=>p.1=q.1/\RelV p.2 q.2
def kV:Key->V
 | .inl i=> .int i
 | .inr x=> .str x
inductive HO where
 | lst (xs:List V)
 | tup (xs:List V)
 | dK (kvs:List (Key×V)) | dT (kvs:List (List Key×V))
 | set (S:Int->Bool) (n:Nat)
 | ins (C dx:Addr) (fs:List (Str×V))
 | own (x:Addr)
 | xd (fs:List (Str×V))
 | met (f x:Addr)
 | rng (lo hi:Int)
 | frz (o:Obj) (u:HO)
 | tbl (ps:Array Value)
 | ext (φ:Heap->Prop)
abbrev Hp:=Addr->Option HO
variable {H:Hp} {R:V->V->Hp->Prop}
def upd (H:Hp) (a:Addr) (o:HO):Hp:=λ b=>if b=a then some o else H b
theorem aa {o:HO}:upd H a o a=some o:=by unfold upd;rw [if_pos rfl]
theorem au {o:HO} (h:b≠a):upd H a o b=H b:=by unfold upd;rw [if_neg h]
theorem bx {o u:HO} (h:H a=some o) (h':H b=some u) (d:o≠u):a≠b:=by
 intro e;subst e;rw [h] at h';exact d (Ym h')
theorem aO {o:HO} (h:H a=some o) (h':H b=none):a≠b:=by
 intro e;subst e;rw [h] at h';cases h'
section
variable (P:Program) (w:World)
def ObjOk (H:Hp) (h:Heap) (a:Addr):HO->Prop
 | .lst xs=>xs.length<=sizeLine/\ ∃ (its:List Value) (n:Nat),Vals xs its/\h.get? a=some { cls:= .type "list",data:= .seq its.toArray n }
 | .tup xs=>xs.length<=sizeLine/\ ∃its:List Value,Vals xs its/\IsTup h a its.toArray
 | .dK kvs=>kvs.length<=sizeLine/\(a==sysModules)=false/\ ∃vs,KV kvs vs/\h.DictOf (bD P w) a vs
 | .dT kvs=>kvs.length<=sizeLine/\(a==sysModules)=false/\ ∃xs:List (List Key×Addr×Value),
   Paired (λ (p:List Key×V) (q:List Key×Addr×Value)=>p.1=q.1/\H q.2.1=some (.tup (p.1.map kV))/\RelV p.2 q.2.2) kvs xs/\
   ∃o es ep,h.get? a=some o/\o.ExactDict/\o.data= .dict es ep/\es.toList=xs.map (entryOfKey (tupleKind (bD P w)))/\(xs.map (·.1)).Nodup
 | .set S n=>h.SetOf (intKind P w) a S n
 | .ins C dx fs=>H dx=some (.own a)/\fs.length<=1000/\dx≠a/\h.get? a=some (PySem.W.instObj C dx)/\
   ∃mA,h.Ns1 dx mA/\(∀f,RelO (fs.lookup f) (mA f))/\PySem.Within mA (fs.map (·.1))
 | .own _=> ∃o,h.get? a=some o
 | .xd fs=> ∃mA,h.Ns1 a mA/\ ∀f,RelO (fs.lookup f) (mA f)
 | .rng lo hi=> ∃t u v,h.get? a=some { cls:= .type "range",data:= .fields #[.int lo t, .int hi u, .int 1 v] }
 | .frz o u=>h.get? a=some o/\ObjOk H h a u
 | .tbl ps=>h.get? a=some { cls:= .none,data:= .fields ps }
 | .met f x=>h.get? a=some (PySem.W.methodObj (.ref f) (.ref x))
 | .ext φ=>φ h/\(∃o,h.get? a=some o)/\ ∀h1 h2:Heap,φ h1->(∀o,h1.get? a=some o->h2.get? a=some o)->φ h2
def HOk (H:Hp) (h:Heap):Prop:= ∀a o,H a=some o->ObjOk P w H h a o
end
section
variable {P:Program} {w:World} {H H':Hp} {h h':Heap} {a:Addr} {o:HO}
theorem ObjOk.lt (x:ObjOk P w H h a o):a<h.objs.size:=by
 cases o with
 | lst xs=>obtain ⟨_,_,_,_,e⟩:=x;exact Zp e
 | tup xs=>obtain ⟨_,_,_,p⟩:=x;exact p.lt
 | dK kvs=>obtain ⟨_,_,_,_,o,_,_,e,_⟩:=x;exact Zp e
 | dT kvs=>obtain ⟨_,_,_,_,o,_,_,e,_⟩:=x;exact Zp e
 | set S n=>obtain ⟨o,_,_,_,e,_⟩:=x;exact Zp e
 | ins C dx fs=>obtain ⟨_,_,_,e,_⟩:=x;exact Zp e
 | own y=>obtain ⟨_,e⟩:=x;exact Zp e
 | xd fs=>obtain ⟨_,⟨_,_,_,e,_⟩,_⟩:=x;exact Zp e
 | rng lo hi=>obtain ⟨_,_,_,e⟩:=x;exact Zp e
 | frz ob u=>obtain ⟨e,_⟩:=x;exact Zp e
 | tbl ps=>exact Zp (show h.get? a=some _ from x)
 | met f y=>exact Zp (show h.get? a=some _ from x)
 | ext φ=>obtain ⟨_,⟨_,e⟩,_⟩:=x;exact Zp e
theorem Paired.mapP {α β:Type} {F G:α->β->Prop}: ∀ {l₁:List α} {l₂:List β},Paired F l₁ l₂->(∀a b,F a b->G a b)->Paired G l₁ l₂
 | _,_, .nil,_=> .nil
 | _,_, .cons r t,f=> .cons (f _ _ r) (Paired.mapP t f)
theorem ObjOk.stay (x:ObjOk P w H h a o) (k: ∀b u,(b=a\/H b=some (.own a))->h.get? b=some u->h'.get? b=some u)
  (ho: ∀b,H b=some (.own a)->H' b=some (.own a)) (ht: ∀b xs,H b=some (.tup xs)->H' b=some (.tup xs)):ObjOk P w H' h' a o:=by
 induction o with
 | lst xs=>obtain ⟨z,its,n,r,e⟩:=x;exact ⟨z,its,n,r,k _ _ (.inl rfl) e⟩
 | tup xs=>obtain ⟨z,its,r,ob,e,c⟩:=x;exact ⟨z,its,r,ob,k _ _ (.inl rfl) e,c⟩
 | dK kvs=>obtain ⟨z,y,vs,r,ob,es,ep,e,c⟩:=x;exact ⟨z,y,vs,r,ob,es,ep,k _ _ (.inl rfl) e,c⟩
 | dT kvs=>
  obtain ⟨z,y,xs,r,ob,es,ep,e,c⟩:=x;exact ⟨z,y,xs,Paired.mapP r λ p q z=>⟨z.1,ht _ _ z.2.1,z.2.2⟩,ob,es,ep,k _ _ (.inl rfl) e,c⟩
 | set S n=>obtain ⟨ob,es,ep,t,e,c⟩:=x;exact ⟨ob,es,ep,t,k _ _ (.inl rfl) e,c⟩
 | ins C dx fs=>
  obtain ⟨d,z,ne,e,mA,⟨od,es,ep,e2,c⟩,r⟩:=x;exact ⟨ho _ d,z,ne,k _ _ (.inl rfl) e,mA,⟨od,es,ep,k _ _ (.inr d) e2,c⟩,r⟩
 | own y=>obtain ⟨ob,e⟩:=x;exact ⟨ob,k _ _ (.inl rfl) e⟩
 | xd fs=>obtain ⟨mA,⟨od,es,ep,e,c⟩,r⟩:=x;exact ⟨mA,⟨od,es,ep,k _ _ (.inl rfl) e,c⟩,r⟩
 | rng lo hi=>obtain ⟨t,u,v,e⟩:=x;exact ⟨t,u,v,k _ _ (.inl rfl) e⟩
 | frz ob u ih=>obtain ⟨e,q⟩:=x;exact ⟨k _ _ (.inl rfl) e,ih q⟩
 | tbl ps=>
  have e:h.get? a=some { cls:= .none,data:= .fields ps }:=x;show h'.get? a=some { cls:= .none,data:= .fields ps };exact k a _ (.inl rfl) e
 | met f y=>
  have e:h.get? a=some (PySem.W.methodObj (.ref f) (.ref y)):=x;show h'.get? a=some (PySem.W.methodObj (.ref f) (.ref y));exact k a _ (.inl rfl) e
 | ext φ=>obtain ⟨p,⟨o,e⟩,st⟩:=x;exact ⟨st _ _ p λ o q=>k _ _ (.inl rfl) q,⟨o,k _ _ (.inl rfl) e⟩,st⟩
theorem HOk.lt (x:HOk P w H h) (e:H a=some o):a<h.objs.size:=(x a o e).lt
theorem HOk.fresh (x:HOk P w H h) (e:h.objs.size<=a):H a=none:=by
 cases q:H a with
 | none=>rfl
 | some u=>exact absurd (Yc (x.lt q) e) (Xj _)
theorem HOk.kept (x:HOk P w H h) (k: ∀b u,h.get? b=some u->h'.get? b=some u):HOk P w H h':=λ a o e=>
 (x a o e).stay (λ b u _ q=>k b u q) (λ _ q=>q) λ _ _ q=>q
theorem HOk.laid (x:HOk P w H h) (k: ∀b u,h.get? b=some u->h'.get? b=some u) (hp:h.objs.size<=a) (new:ObjOk P w (upd H a o) h' a o):HOk P w (upd H a o) h':=λ b u e=>by
 have hn:=x.fresh hp;by_cases hb:b=a
 .subst hb;rw [aa] at e;cases e;exact new
 .rw [au hb] at e;exact (x b u e).stay (λ c v _ q=>k c v q) (λ c q=>by rw [au (aO q hn)];exact q) λ c xs q=>by rw [au (aO q hn)];exact q
end
def Rd (H:Hp) (a:Addr) (u:HO):Prop:=H a=some u\/ ∃o,H a=some (.frz o u)
theorem Rd.ok {P:Program} {h:Heap} {u:HO} (r:Rd H a u) (x:HOk P w H h):ObjOk P w H h a u:=by
 rcases r with r | ⟨o,r⟩
 .exact x a u r
 .obtain ⟨_,q⟩:=x a _ r;exact q
def Oz:Option HO->Prop
 | some (.lst _)=>True
 | some (.dK _)=>True
 | some (.dT _)=>True
 | some (.set _ _)=>True
 | some (.ins _ _ _)=>True
 | some (.ext _)=>True
 | _=>False
section
variable {P:Program} {w:World} {H:Hp} {h h':Heap} {x e:Addr} {o':HO}
theorem HOk.write (ok:HOk P w H h) (mu:Oz (H x)) (he:e=x\/H e=some (.own x)) (k: ∀b u,b≠e->h.get? b=some u->h'.get? b=some u) (heo: ∃u,h'.get? e=some u)
  (new:ObjOk P w (upd H x o') h' x o'):HOk P w (upd H x o') h':=λ b u q=>by
 have nown: ∀c y,H c=some (.own y)->c≠x:=λ c y r z=>by subst z;rw [r] at mu;exact mu
 have ntup: ∀c xs,H c=some (.tup xs)->c≠x:=λ c xs r z=>by subst z;rw [r] at mu;exact mu
 by_cases hb:b=x
 .subst hb;rw [aa] at q;cases q;exact new
 .rw [au hb] at q;by_cases hbe:b=e
  .have q':H b=some (.own x):=by
    rcases he with z | z
    .exact absurd (hbe.trans z) hb
    .rw [hbe];exact z
   rw [q] at q';cases q';obtain ⟨v,hv⟩:=heo;exact ⟨v,by rw [hbe];exact hv⟩
  .refine (ok b u q).stay (λ c v hc r=>k c v ?_ r) (λ c r=>by rw [au (nown c b r)];exact r) λ c xs r=>by rw [au (ntup c xs r)];exact r
   rcases hc with rfl | hc
   .exact hbe
   .rintro rfl;rcases he with z | z
    .exact nown c b hc z
    .rw [hc] at z;cases z;exact hb rfl
end
structure Un (fs ex:List Addr) (H H':Hp) (h h':Heap):Prop where
 keep: ∀b o,h.get? b=some o->H b=none->b∉fs->b∉ex->h'.get? b=some o
 slot: ∀b o,h.get? b=some o->H b=none->b∈fs->b∉ex-> ∃sl,h'.get? b=some { o with slots:=sl }
 free: ∀b o,h.get? b=some o->H b=none->b∉ex->H' b=none
 there: ∀b o,h.get? b=some o->b∉ex-> ∃o',h'.get? b=some o'
 tups: ∀b xs,H b=some (.tup xs)->H' b=some (.tup xs)
 frzs: ∀b o u,H b=some (.frz o u)->H' b=some (.frz o u)
 tbls: ∀b ps,H b=some (.tbl ps)-> ∃more,H' b=some (.tbl (ps++more))
section
variable {fs fs' ex ex':List Addr} {H H1 H2:Hp} {h h1 h2 h':Heap} {a x e:Addr} {o:HO}
theorem Un.any (u:Un fs ex H H1 h h1) {ob:Obj} (q:h.get? b=some ob) (n:H b=none) (hx:b∉ex): ∃sl,h1.get? b=some { ob with slots:=sl }:=by
 by_cases hb:b∈fs
 .exact u.slot b ob q n hb hx
 .exact ⟨ob.slots,u.keep b ob q n hb hx⟩
theorem Un.kept (k: ∀b u,h.get? b=some u->h'.get? b=some u):Un fs ex H H h h':=
 ⟨λ b ob q _ _ _=>k b ob q,λ b ob q _ _ _=>⟨ob.slots,k b ob q⟩,λ _ _ _ n _=>n,λ b ob q _=>⟨ob,k b ob q⟩,λ _ _ q=>q,λ _ _ _ q=>q,λ _ ps q=>⟨#[],by rw [q];simp⟩⟩
theorem Un.refl:Un fs ex H H h h:=Un.kept λ _ _ q=>q
theorem Un.laid (k: ∀b u,h.get? b=some u->h'.get? b=some u) (hp:h.objs.size<=a) (hn:H a=none):Un fs ex H (upd H a o) h h' where
 keep:=λ b u q _ _ _=>k b u q
 slot:=λ b u q _ _ _=>⟨u.slots,k b u q⟩
 free:=λ b u q n _=>by rw [au (Yo (Yc (Zp q) hp))];exact n
 there:=λ b u q _=>⟨u,k b u q⟩
 tups:=λ b xs q=>by rw [au (aO q hn)];exact q
 frzs:=λ b u xs q=>by rw [au (aO q hn)];exact q
 tbls:=λ b ps q=>⟨#[],by rw [au (aO q hn),q];simp⟩
theorem Un.write (mu:Oz (H x)) (he:e=x\/H e=some (.own x)) (k: ∀b u,b≠e->h.get? b=some u->h'.get? b=some u) (heo: ∃u,h'.get? e=some u):Un fs ex H (upd H x o) h h':=by
 have hx: ∀b,H b=none->b≠x:=λ b n z=>by subst z;rw [n] at mu;exact mu
 have hb: ∀b,H b=none->b≠e:=λ b n z=>by
  subst z;rcases he with r | r
  .exact hx b n r
  .rw [n] at r;cases r
 have hm: ∀b u,H b=some u-> ¬Oz (some u)->b≠x:=λ b u q nm z=>by subst z;rw [q] at mu;exact nm mu
 refine ⟨λ b u q n _ _=>k b u (hb b n) q,λ b u q n _ _=>⟨u.slots,k b u (hb b n) q⟩,λ b u q n _=>by rw [au (hx b n)];exact n,λ b u q _=> ?_,
  λ b xs q=>by rw [au (hm b _ q λ z=>z)];exact q,λ b u xs q=>by rw [au (hm b _ q λ z=>z)];exact q,λ b ps q=>⟨#[],by rw [au (hm b _ q λ z=>z),q];simp⟩⟩
 by_cases hbe:b=e
 .subst hbe;exact heo
 .exact ⟨u,k b u hbe q⟩
end
def S9 (h:Heap) (H:Hp):List Addr:=(List.range h.objs.size).filter λ a=>(H a).isSome
def oh (h:Heap) (H:Hp):Heap:=PySem.W.hideAll h (S9 h H)
theorem wR (h:Heap) (H:Hp):(oh h H).objs.size=h.objs.size:=PySem.W.hideAll_size _ _
theorem yu {h:Heap} {o:Obj} (e:h.get? b=some o) (n:H b=none):(oh h H).get? b=some o:=
 PySem.W.hideAll_get _ e λ hm=>by
  have q:(H b).isSome=true:=(List.mem_filter.mp hm).2;rw [n] at q;simp at q
theorem Em {h:Heap} {o:Obj} (e:(oh h H).get? b=some o):h.get? b=some o/\H b=none:=by
 have e':h.get? b=some o:=PySem.W.of_hideAll (S9 h H) e;refine ⟨e',?_⟩
 cases q:H b with
 | none=>rfl
 | some x=>
  have hm:b∈S9 h H:=List.mem_filter.mpr ⟨List.mem_range.mpr (Zp e'),by simp [q]⟩;have z:(oh h H).get? b=none:=PySem.W.hideAll_none (S9 h H) hm;rw [z] at e;cases e
def En (g h:Heap) (L:Addr):List (Addr×Obj):=(List.range h.objs.size).filterMap λ a=>if a=L\/(g.get? a).isSome=true then none else (h.get? a).map λ o=>(a,o)
def rest (g h:Heap) (L d:Addr):List (Addr×Obj):=(En g h L).filter λ p=>decide (p.1≠d)
structure Mod (K:W.Frag) (mg:Str->Option Value) (base:Heap):Prop where
 kin:K.In base
 glob:base.Ns mainGlobals mg
 blt: ∃mb,base.Ns builtinsNs mb/\ ∀x:Str,x≠"__name__"->mb x=bootBuiltins x
 nolimit:base.NoLimit
structure Cx where
 prog:Program
 w:World
 K:W.Frag
 mg:Str->Option Value
 base:Heap
 A:Around
 N:List Str
 s₀:Shared
 H₀:Hp
 env:Env
 outer:List Env
 stack:List Env
 ex:List Addr
 fn:Str->Bool
 calm:Bool
 pn:List (Addr×Obj)
 xe:Value->Shared->Prop
def frs (l:List Env):List Addr:=l.filterMap (·.frame)
abbrev Cx.fs (X:Cx):List Addr:=frs X.outer
def Ss (sc:Scope) (x:Str):Prop:=sc.names.lookup x=some .local\/sc.names.lookup x=some .cell\/sc.names.lookup x=some .free
def Loc (sc:Scope) (x:Str):Prop:=sc.names.lookup x=some .local\/sc.names.lookup x=some .cell
def Look (env:Env) (h:Heap) (m:Str->Option Value) (x:Str) (u:Value):Prop:=
 (env.kindOf x=some .local/\m x=some u)\/((env.kindOf x=some .cell\/env.kindOf x=some .free)/\ ∃c,env.cells.lookup x=some c/\h.IsCell c (some u))
structure Cx.Ok (X:Cx):Prop where
 mod:Mod X.K X.mg X.base
 kind:X.env.scope.kind= .function
 glob:X.env.globals=mainGlobals
 blt:X.env.builtins=builtinsNs
 above:X.s₀.heap.objs.size<=X.env.locals
 inj: ∀x y c,X.env.cells.lookup x=some c->X.env.cells.lookup y=some c->x=y
 has: ∀x,(X.env.kindOf x=some .cell\/X.env.kindOf x=some .free)-> ∃c,X.env.cells.lookup x=some c
 cab: ∀x c,X.fn x=true->X.env.cells.lookup x=some c->X.s₀.heap.objs.size<=c
 hd:X.calm=true->X.A.handled=none
 frames:X.A.frames=some X.stack
 stk:X.stack=X.outer\/(X.stack=X.env::X.outer/\X.env.frame=some X.env.locals)
 exf: ∀b∈X.ex,b≠X.env.locals/\ ∀x c,X.env.cells.lookup x=some c->c≠b
 bs: ∀b o,X.base.get? b=some o->X.s₀.heap.get? b=some o/\X.H₀ b=none
 bsz:X.base.objs.size<=X.s₀.heap.objs.size
 noex: ∀b o,X.base.get? b=some o->b∉X.ex
 exfs: ∀b∈X.ex,b∉X.fs
 funs:X.s₀.heap.FunFrames X.base X.outer
 frf: ∀b∈X.fs,X.H₀ b=none
structure Inv (X:Cx) (pins:List (Addr×Obj)) (Z:List (Option V)) (H:Hp) (s:Shared):Prop where
 ok:X.Ok
 os:s.os=X.s₀.os
 bare:AllBare s.gens
 base:Un X.fs X.ex X.H₀ H X.s₀.heap s.heap
 loc: ∃m,s.heap.Ns X.env.locals m/\ ∀ (i:Nat) (x:Str) (v:V),X.N[i]? =some x->Z[i]? =some (some v)->Ss X.env.scope x-> ∃u,RelV v u/\Look X.env s.heap m x u
 cell: ∀x c,X.env.cells.lookup x=some c-> ∃v,s.heap.IsCell c v
 free:H X.env.locals=none
 freeC: ∀x c,X.env.cells.lookup x=some c->H c=none
 pin: ∀p∈X.pn++pins,s.heap.get? p.1=some p.2/\H p.1=none/\p.1≠X.env.locals/\p.1∉X.fs/\ ∀v,p.2.data≠ .cell v
 hok:HOk X.prog X.w H s.heap
 len:Z.length=X.N.length
section
variable {X:Cx} {pins:List (Addr×Obj)} {Z:List (Option V)} {H H':Hp} {s:Shared} {h':Heap}
theorem Cx.Ok.nofr (ok:X.Ok) {o:Obj} (e:X.base.get? b=some o):b∉X.fs:=λ hb=>by
 have:=(ok.funs.mem hb).1;rw [e] at this;cases this
theorem Inv.bs (I:Inv X pins Z H s): ∀b o,X.base.get? b=some o->s.heap.get? b=some o/\H b=none:=λ b o e=>
 ⟨I.base.keep b o (I.ok.bs b o e).1 (I.ok.bs b o e).2 (I.ok.nofr e) (I.ok.noex b o e),I.base.free b o (I.ok.bs b o e).1 (I.ok.bs b o e).2 (I.ok.noex b o e)⟩
theorem Inv.bk (I:Inv X pins Z H s): ∀b o,X.base.get? b=some o->s.heap.get? b=some o:=λ b o e=>(I.bs b o e).1
theorem Inv.mod (I:Inv X pins Z H s):Mod X.K X.mg X.base:=I.ok.mod
theorem Inv.kIn (I:Inv X pins Z H s):X.K.In s.heap:=I.ok.mod.kin.keeps I.bk
theorem Inv.lt (I:Inv X pins Z H s):X.env.locals<s.heap.objs.size:=let ⟨_,hn,_⟩:=I.loc;hn.lt
theorem Inv.sz (I:Inv X pins Z H s):X.s₀.heap.objs.size<=s.heap.objs.size:=Yg I.ok.above (Xw I.lt)
theorem Inv.nofs (I:Inv X pins Z H s) (h:s.heap.objs.size<=a):a∉X.fs:=λ hb=>by
 obtain ⟨_,o,ho,_⟩:=I.ok.funs.mem hb;exact absurd (Yc (Zp ho) (Yg I.sz h)) (Xj _)
theorem Inv.cne (I:Inv X pins Z H s): ∀x c,X.env.cells.lookup x=some c->c≠X.env.locals:=λ x c e z=>by
 obtain ⟨v,o,ho,hd⟩:=I.cell x c e;obtain ⟨m,⟨o',es,ep,ho',hd',_⟩,_⟩:=I.loc;rw [z,ho'] at ho;cases ho;rw [hd'] at hd;cases hd
theorem Inv.funs (I:Inv X pins Z H s):s.heap.FunFrames X.base X.outer:=by
 have all: ∀ (l:List Env),(∀b∈frs l,b∈X.fs)->X.s₀.heap.FunFrames X.base l->s.heap.FunFrames X.base l:=by
  intro l;induction l with
  | nil=>intro _ _;trivial
  | cons env r ih=>
   intro hs hl;obtain ⟨hk,⟨L,o,hf,hn,ho,hd⟩,hr⟩:=hl;have hL:L∈X.fs:=hs L (by unfold frs;rw [List.filterMap_cons,hf];exact Zs);obtain ⟨sl,e⟩:=I.base.slot L o ho (I.ok.frf L hL) hL λ z=>I.ok.exfs L z hL
   exact ⟨hk,⟨L,_,hf,hn,e,hd⟩,ih (λ b hb=>hs b (by unfold frs;rw [List.filterMap_cons,hf];exact Zv _ hb)) hr⟩
 exact all X.outer (λ _ hb=>hb) I.ok.funs
theorem Inv.stack (I:Inv X pins Z H s):s.heap.FunFrames X.base X.stack:=by
 rcases I.ok.stk with e | ⟨e,hf⟩
 .rw [e];exact I.funs
 .rw [e];obtain ⟨m,hn,_⟩:=I.loc;refine .cons (by rw [I.ok.kind];decide) hf hn ?_ I.funs;exact Heap.get?_none_of_le (Yg I.ok.bsz I.ok.above)
theorem Inv.stkSub (I:Inv X pins Z H s): ∀b∈frs X.stack,b∈X.env.locals::X.fs:=λ b hb=>by
 rcases I.ok.stk with e | ⟨e,hf⟩
 .rw [e] at hb;exact Zv _ hb
 .rw [e] at hb;unfold frs at hb;rw [List.filterMap_cons,hf] at hb;exact hb
theorem Inv.stkFree (I:Inv X pins Z H s): ∀b∈frs X.stack,H b=none:=λ b hb=>by
 rcases Zm.mp (I.stkSub b hb) with e | hb
 .rw [e];exact I.free
 .obtain ⟨_,o,ho,_⟩:=I.ok.funs.mem hb;exact I.base.free b o ho (I.ok.frf b hb) λ z=>I.ok.exfs b z hb
theorem Inv.step (I:Inv X pins Z H s)
  (hch: ∀b∈ch,(b∈X.ex\/X.s₀.heap.objs.size<=b)/\b≠X.env.locals/\(∀x c,X.env.cells.lookup x=some c->c≠b)/\ ∀p∈X.pn++pins,p.1≠b)
  (keep: ∀b o,b≠X.env.locals->b∉X.fs->b∉ch->s.heap.get? b=some o->H b=none->h'.get? b=some o)
  (slot: ∀b o,b≠X.env.locals->b∈X.fs->b∉ch->s.heap.get? b=some o->H b=none-> ∃sl,h'.get? b=some { o with slots:=sl }) (free: ∀b o,b∉ch->s.heap.get? b=some o->H b=none->H' b=none)
  (there: ∀b o,b∉ch->s.heap.get? b=some o-> ∃o',h'.get? b=some o')
  (tups: ∀b xs,H b=some (.tup xs)->H' b=some (.tup xs)) (frzs: ∀b o u,H b=some (.frz o u)->H' b=some (.frz o u)) (tbls: ∀b ps,H b=some (.tbl ps)-> ∃more,H' b=some (.tbl (ps++more)))
  (ns: ∀m,s.heap.Ns X.env.locals m->h'.Ns X.env.locals m) (hok:HOk X.prog X.w H' h') (hg:AllBare g'):
  Inv X pins Z H' { s with heap:=h',gens:=g',drawn:=d',toks:=t' }:=by
 have neL: ∀b o,X.s₀.heap.get? b=some o->b≠X.env.locals:=λ b o e=>Yo (Yc (Zp e) I.ok.above)
 have neC: ∀b o,X.s₀.heap.get? b=some o->b∉X.ex->b∉ch:=λ b o e hx hb=>by
  rcases (hch b hb).1 with z | z
  .exact hx z
  .exact absurd (Yc (Zp e) z) (Xj _)
 have cellK: ∀x c,X.env.cells.lookup x=some c-> ∀v,s.heap.IsCell c v->h'.IsCell c v:=λ x c e v ⟨o,ho,hd⟩=>by
  have nch:c∉ch:=λ z=>(hch c z).2.2.1 x c e rfl
  by_cases hc:c∈X.fs
  .obtain ⟨sl,q⟩:=slot c o (I.cne x c e) hc nch ho (I.freeC x c e);exact ⟨_,q,hd⟩
  .exact ⟨o,keep c o (I.cne x c e) hc nch ho (I.freeC x c e),hd⟩
 refine ⟨I.ok,I.os,hg,⟨λ b o e n hb hx=> ?_,λ b o e n hb hx=> ?_,λ b o e n hx=> ?_,λ b o e hx=> ?_,λ b xs e=>tups b xs (I.base.tups b xs e),λ b o xs e=>frzs b o xs (I.base.frzs b o xs e),λ b ps e=> ?_⟩,?_,λ x c e=> ?_,?_,λ x c e=> ?_,λ p hp=> ?_,hok,I.len⟩
 .exact keep b o (neL b o e) hb (neC b o e hx) (I.base.keep b o e n hb hx) (I.base.free b o e n hx)
 .obtain ⟨sl,e1⟩:=I.base.slot b o e n hb hx;obtain ⟨sl',e2⟩:=slot b _ (neL b o e) hb (neC b o e hx) e1 (I.base.free b o e n hx);exact ⟨sl',e2⟩
 .obtain ⟨o',e1⟩:=I.base.there b o e hx;exact free b o' (neC b o e hx) e1 (I.base.free b o e n hx)
 .obtain ⟨o',e1⟩:=I.base.there b o e hx;exact there b o' (neC b o e hx) e1
 .obtain ⟨m1,e1⟩:=I.base.tbls b ps e;obtain ⟨m2,e2⟩:=tbls b _ e1;exact ⟨m1++m2,by rw [e2,Array.append_assoc]⟩
 .obtain ⟨m,hn,hl⟩:=I.loc;refine ⟨m,ns m hn,λ i x v e1 e2 e3=> ?_⟩;obtain ⟨u,r,l⟩:=hl i x v e1 e2 e3;refine ⟨u,r,?_⟩;rcases l with l | ⟨k,c,e,z⟩
  .exact .inl l
  .exact .inr ⟨k,c,e,cellK x c e _ z⟩
 .obtain ⟨v,z⟩:=I.cell x c e;exact ⟨v,cellK x c e v z⟩
 .obtain ⟨m,⟨o,_,_,ho,_⟩,_⟩:=I.loc;exact free _ o (λ z=>(hch _ z).2.1 rfl) ho I.free
 .obtain ⟨v,o,ho,hd⟩:=I.cell x c e;exact free c o (λ z=>(hch c z).2.2.1 x c e rfl) ho (I.freeC x c e)
 .obtain ⟨e,n,ne,nf,d⟩:=I.pin p hp;have nch:p.1∉ch:=λ z=>(hch p.1 z).2.2.2 p hp rfl
  exact ⟨keep p.1 p.2 ne nf nch e n,free p.1 p.2 nch e n,ne,nf,d⟩
theorem Inv.un (I:Inv X pins Z H s) (u:Un X.fs [] H H' s.heap h') (hok:HOk X.prog X.w H' h'):Inv X pins Z H' { s with heap:=h',toks:=t' }:=by
 obtain ⟨m,⟨o,es,ep,ho,r⟩,_⟩:=id I.loc;obtain ⟨sl,hL⟩:=u.any ho I.free (by simp);exact I.step (g':=s.gens) (d':=s.drawn) (ch:=[]) (λ _ z=>nomatch z) (λ b o _ hb _ e n=>u.keep b o e n hb (by simp)) (λ b o _ hb _ e n=>u.slot b o e n hb (by simp)) (λ b o _ e n=>u.free b o e n (by simp)) (λ b o _ e=>u.there b o e (by simp)) u.tups u.frzs u.tbls (λ m' hm=>by
  obtain ⟨o',es',ep',ho',r'⟩:=hm;rw [ho] at ho';cases ho';exact ⟨_,es',ep',hL,r'⟩) hok I.bare
theorem Inv.call (I:Inv X pins Z H s) (u:Un (frs X.stack) ch H H' s.heap h') (hok:HOk X.prog X.w H' h') (hg:AllBare g')
  (hch: ∀b∈ch,(b∈X.ex\/X.s₀.heap.objs.size<=b)/\b≠X.env.locals/\(∀x c,X.env.cells.lookup x=some c->c≠b)/\ ∀p∈X.pn++pins,p.1≠b):
  Inv X pins Z H' { s with heap:=h',gens:=g',drawn:=d',toks:=t' }:=by
 obtain ⟨m,⟨o,es,ep,ho,r⟩,_⟩:=id I.loc;obtain ⟨sl,hL⟩:=u.any ho I.free λ z=>(hch _ z).2.1 rfl
 exact I.step (ch:=ch) hch (λ b o hL hb hc e n=>u.keep b o e n (λ z=>(Zm.mp (I.stkSub b z)).elim hL hb) hc) (λ b o _ _ hc e n=>u.any e n hc) (λ b o hc e n=>u.free b o e n hc) (λ b o hc e=>u.there b o e hc) u.tups u.frzs u.tbls (λ m' hm=>by
  obtain ⟨o',es',ep',ho',r'⟩:=hm;rw [ho] at ho';cases ho';exact ⟨_,es',ep',hL,r'⟩) hok hg
theorem Inv.turned (I:Inv X pins Z H s) (k: ∀b o,b≠it->s.heap.get? b=some o->h'.get? b=some o) (hn:H it=none) (hL:it≠X.env.locals)
  (h1:it∈X.ex\/X.s₀.heap.objs.size<=it) (h2: ∀x c,X.env.cells.lookup x=some c->c≠it) (h3: ∀p∈X.pn++pins,p.1≠it):Inv X pins Z H { s with heap:=h',toks:=t' }:=by
 have nit: ∀b u,H b=some u->b≠it:=λ b u e z=>by rw [z,hn] at e;cases e
 refine I.step (g':=s.gens) (d':=s.drawn) (ch:=[it]) (λ b hb=> ?_) (λ b o _ _ hc e _=>k b o (λ z=>hc (by simp [z])) e) (λ b o _ _ hc e _=>⟨o.slots,k b o (λ z=>hc (by simp [z])) e⟩) (λ _ _ _ _ n=>n)
  (λ b o hc e=>⟨o,k b o (λ z=>hc (by simp [z])) e⟩) (λ _ _ e=>e) (λ _ _ _ e=>e) (λ b ps e=>⟨#[],by rw [e];simp⟩) (λ m hm=> ?_) (λ b u e=> ?_) I.bare
 .have e:b=it:=by simpa using hb
  subst e;exact ⟨h1,hL,h2,h3⟩
 .obtain ⟨o,es,ep,ho,r⟩:=hm;exact ⟨o,es,ep,k _ o (Ne.symm hL) ho,r⟩
 .refine (I.hok b u e).stay (λ c v hc q=>k c v ?_ q) (λ _ q=>q) λ _ _ q=>q
  rcases hc with z | z
  .rw [z];exact nit b u e
  .exact nit c _ z
theorem Inv.tok (I:Inv X pins Z H s) (t:Nat):Inv X pins Z H { s with toks:=t }:=I.un (h':=s.heap) (t':=t) Un.refl I.hok
theorem Inv.kept (I:Inv X pins Z H s) (k: ∀b u,s.heap.get? b=some u->h'.get? b=some u):Inv X pins Z H { s with heap:=h',toks:=t' }:=I.un (Un.kept k) (I.hok.kept k)
theorem Inv.laid {o:HO} (I:Inv X pins Z H s) (k: ∀b u,s.heap.get? b=some u->h'.get? b=some u) (hp:s.heap.objs.size<=a) (new:ObjOk X.prog X.w (upd H a o) h' a o):
  Inv X pins Z (upd H a o) { s with heap:=h',toks:=t' }:=I.un (Un.laid k hp (I.hok.fresh hp)) (I.hok.laid k hp new)
theorem Inv.write {x e:Addr} {o:HO} (I:Inv X pins Z H s) (mu:Oz (H x)) (he:e=x\/H e=some (.own x)) (k: ∀b u,b≠e->s.heap.get? b=some u->h'.get? b=some u) (heo: ∃u,h'.get? e=some u)
  (new:ObjOk X.prog X.w (upd H x o) h' x o):Inv X pins Z (upd H x o) { s with heap:=h',toks:=t' }:=I.un (Un.write mu he k heo) (I.hok.write mu he k heo new)
theorem Inv.weak (I:Inv X pins Z H s) (hl:Z'.length=Z.length) (w: ∀ (i:Nat) v,Z'[i]? =some (some v)->Z[i]? =some (some v)):Inv X pins Z' H s:=
 ⟨I.ok,I.os,I.bare,I.base,let ⟨m,hn,hl'⟩:=I.loc;⟨m,hn,λ i x v e1 e2 e3=>hl' i x v e1 (w i v e2) e3⟩,I.cell,I.free,I.freeC,I.pin,I.hok,hl.trans I.len⟩
theorem Inv.pins_of (I:Inv X pins Z H s) (h: ∀p∈pins',s.heap.get? p.1=some p.2/\H p.1=none/\p.1≠X.env.locals/\p.1∉X.fs/\ ∀v,p.2.data≠ .cell v):Inv X pins' Z H s:=
 ⟨I.ok,I.os,I.bare,I.base,I.loc,I.cell,I.free,I.freeC,λ p hp=>(Zi.mp hp).elim (λ z=>I.pin p (Zz _ z)) (h p),I.hok,I.len⟩
theorem ql {N:List Str} (hN:N.Nodup) (a:N[i]? =some x) (b:N[j]? =some x):i=j:=by
 obtain ⟨h1,e1⟩:=Zo.mp a;obtain ⟨h2,e2⟩:=Zo.mp b;exact (List.getElem_inj hN).mp (e1.trans e2.symm)
theorem mF {Q:Unit->Shared->Prop} (I:Inv X pins Z H s) (hN:X.N.Nodup) (hi:X.N[i]? =some x) (hx:Loc X.env.scope x) (r:RelV v u)
  (h: ∀s',Inv X pins (Z.set i (some v)) H s'->(∃a,Heap.SameBut a s.heap s'.heap/\(a=X.env.locals\/X.env.cells.lookup x=some a))->Q () s') (hf:X.fn x=true\/X.env.scope.names.lookup x=some .local:=by first | exact .inl rfl | exact .inr rfl | assumption):wpAny M A (storeName X.env x u) Q E s:=by
 obtain ⟨m,hn,hl⟩:=id I.loc;have hcls:(X.env.scope.kind== .class||(X.env.scope.kind== .module&&X.env.locals !=X.env.globals))=false:=by rw [I.ok.kind];rfl
 have hiZ:i<Z.length:=by rw [I.len];exact (Zo.mp hi).1
 have cne:=I.cne;have tracked: ∀ {a:Addr} {h':Heap},(∃o,s.heap.get? a=some o/\H a=none)->Heap.SameBut a s.heap h'->HOk X.prog X.w H h':=λ {a h'} ha hs b ob e=>by
  obtain ⟨_,_,hfree⟩:=ha;refine (I.hok b ob e).stay (λ c w' hc q=>(hs.2 c ?_).trans q) (λ _ q=>q) λ _ _ q=>q
  rintro rfl;rcases hc with rfl | hc
  .rw [hfree] at e;cases e
  .rw [hfree] at hc;cases hc
 rcases hx with hk | hk
 .refine wpAny_storeName_local hk hn (λ h' hn' hs=> ?_) hcls;obtain ⟨oL,_,_,hoL,_⟩:=id hn;refine h _ ⟨I.ok,I.os,I.bare,⟨λ b o e n hb hx=> ?_,λ b o e n hb hx=> ?_,I.base.free,λ b o e hx=> ?_,I.base.tups,I.base.frzs,I.base.tbls⟩,⟨_,hn',λ j y v' e1 e2 e3=> ?_⟩,λ y c e=> ?_,I.free,I.freeC,λ p hp=> ?_,tracked ⟨oL,hoL,I.free⟩ hs,by simpa using I.len⟩ ⟨_,hs, .inl rfl⟩
  .exact (hs.2 b (Yo (Yc (Zp e) I.ok.above))).trans (I.base.keep b o e n hb hx)
  .obtain ⟨sl,e1⟩:=I.base.slot b o e n hb hx;exact ⟨sl,(hs.2 b (Yo (Yc (Zp e) I.ok.above))).trans e1⟩
  .obtain ⟨o',e1⟩:=I.base.there b o e hx;exact ⟨o',(hs.2 b (Yo (Yc (Zp e) I.ok.above))).trans e1⟩
  .by_cases hj:j=i
   .subst hj;rw [hi] at e1;cases e1;rw [List.getElem?_set_self hiZ] at e2
    cases e2;exact ⟨u,r, .inl ⟨hk,by simp⟩⟩
   .rw [List.getElem?_set_ne (Ne.symm hj)] at e2;obtain ⟨u',r',q⟩:=hl j y v' e1 e2 e3;refine ⟨u',r',?_⟩;rcases q with ⟨k,e⟩ | ⟨k,c,e,z⟩
    .refine .inl ⟨k,?_⟩;have:y≠x:=λ e=>hj (ql hN e1 (e▸hi))
     simp [this,e]
    .exact .inr ⟨k,c,e,z.sameBut hs (cne y c e)⟩
  .obtain ⟨w',z⟩:=I.cell y c e;exact ⟨w',z.sameBut hs (cne y c e)⟩
  .obtain ⟨e,n,ne,nf,d⟩:=I.pin p hp;exact ⟨(hs.2 p.1 ne).trans e,n,ne,nf,d⟩
 .have hfn:X.fn x=true:=by
   rcases hf with z | z
   .exact z
   .rw [z] at hk;cases hk
  obtain ⟨c,hc⟩:=I.ok.has x (.inl hk);obtain ⟨w',z⟩:=I.cell x c hc;refine wpAny_storeName_cell I.ok.kind hk hc z (λ h' hc' hs=> ?_);obtain ⟨oc,hoc,hocd⟩:=id z;refine h { s with heap:=h' } ⟨I.ok,I.os,I.bare,⟨λ b o e n hb hx=> ?_,λ b o e n hb hx=> ?_,I.base.free,λ b o e hx=> ?_,I.base.tups,I.base.frzs,I.base.tbls⟩,⟨m,hn.sameBut hs (Ne.symm (cne x c hc)),λ j y v' e1 e2 e3=> ?_⟩,λ y c' e=> ?_,I.free,I.freeC,λ p hp=> ?_,tracked ⟨oc,hoc,I.freeC x c hc⟩ hs,by simpa using I.len⟩ ⟨c,hs, .inr hc⟩
  .exact (hs.2 b (Yo (Yc (Zp e) (I.ok.cab x c hfn hc)))).trans (I.base.keep b o e n hb hx)
  .obtain ⟨sl,e1⟩:=I.base.slot b o e n hb hx;exact ⟨sl,(hs.2 b (Yo (Yc (Zp e) (I.ok.cab x c hfn hc)))).trans e1⟩
  .obtain ⟨o',e1⟩:=I.base.there b o e hx;exact ⟨o',(hs.2 b (Yo (Yc (Zp e) (I.ok.cab x c hfn hc)))).trans e1⟩
  .by_cases hj:j=i
   .subst hj;rw [hi] at e1;cases e1;rw [List.getElem?_set_self hiZ] at e2
    cases e2;exact ⟨u,r, .inr ⟨.inl hk,c,hc,hc'⟩⟩
   .rw [List.getElem?_set_ne (Ne.symm hj)] at e2;obtain ⟨u',r',q⟩:=hl j y v' e1 e2 e3;refine ⟨u',r',?_⟩;rcases q with q | ⟨k,c',e,z'⟩
    .exact .inl q
    .refine .inr ⟨k,c',e,z'.sameBut hs ?_⟩;rintro rfl;exact hj (ql hN e1 (I.ok.inj _ _ _ e hc▸hi))
  .by_cases hcc:c'=c
   .subst hcc;exact ⟨_,hc'⟩
   .obtain ⟨w2,z2⟩:=I.cell y c' e;exact ⟨w2,z2.sameBut hs hcc⟩
  .obtain ⟨e,n,ne,nf,d⟩:=I.pin p hp;refine ⟨(hs.2 p.1 ?_).trans e,n,ne,nf,d⟩;intro q;rw [q,hoc] at e;have q':oc=p.2:=Ym e;exact d w' (by rw [<- q'];exact hocd)
theorem jY {Q:Unit->Shared->Prop} (I:Inv X pins Z H s) (hN:X.N.Nodup) (hi:X.N[i]? =some x) (hx:Loc X.env.scope x) (r:RelV v u)
  (h: ∀s',Inv X pins (Z.set i (some v)) H s'->Q () s') (hf:X.fn x=true\/X.env.scope.names.lookup x=some .local:=by first | exact .inl rfl | exact .inr rfl | assumption):wpAny M A (storeName X.env x u) Q E s:=
 mF I hN hi hx r (λ s' I' _=>h s' I') hf
theorem Inv.call' (I:Inv X pins Z H s) (ho:s'.os=s.os) (u:Un (frs X.stack) ch H H' s.heap s'.heap) (hok:HOk X.prog X.w H' s'.heap) (hg:AllBare s'.gens)
  (hch: ∀b∈ch,(b∈X.ex\/X.s₀.heap.objs.size<=b)/\b≠X.env.locals/\(∀x c,X.env.cells.lookup x=some c->c≠b)/\ ∀p∈X.pn++pins,p.1≠b):Inv X pins Z H' s':=by
 obtain ⟨h',g',d',t',o'⟩:=s';have e:o'=s.os:=ho;subst e;exact I.call (g':=g') (t':=t') (d':=d') u hok hg hch
end
abbrev XK:=Value->Option Addr->Hp->Prop
abbrev St:=List (Option V)
variable {Z:St}
abbrev VK:=V->Hp->Prop
abbrev TE:=St->Hp->VK->Prop
variable {t te:TE}
abbrev TT:=St->Hp->(Bool->Hp->Prop)->Prop
variable {tc:TT}
abbrev TA:=St->Hp->(List V->Hp->Prop)->Prop
structure Ends where
 nx:St->Hp->Prop
 rt:VK
 bk:St->Hp->Prop:=λ _ _=>False
 ct:St->Hp->Prop:=λ _ _=>False
abbrev TS:=Ends->St->Hp->Prop
variable {tb:TS}
def EP (X:Cx) (pins:List (Addr×Obj)) (Z:St) (Q:VK) (u:Value) (s':Shared):Prop:= ∃v H',Inv X pins Z H' s'/\RelV v u/\Q v H'
def TP (X:Cx) (pins:List (Addr×Obj)) (Z:St) (Q:Bool->Hp->Prop) (b:Bool) (s':Shared):Prop:= ∃H',Inv X pins Z H' s'/\Q b H'
def AP (X:Cx) (pins:List (Addr×Obj)) (Z:St) (Q:List V->Hp->Prop) (us:List Value) (s':Shared):Prop:= ∃vs H',Inv X pins Z H' s'/\Vals vs us/\Q vs H'
def SP (X:Cx) (pins:List (Addr×Obj)) (D:Ends) (f:Flow) (s':Shared):Prop:=
 match f with
 | .next=> ∃Z' H',Inv X pins Z' H' s'/\D.nx Z' H'
 | .brk=> ∃Z' H',Inv X pins Z' H' s'/\D.bk Z' H'
 | .cont=> ∃Z' H',Inv X pins Z' H' s'/\D.ct Z' H'
 | .ret u=> ∃v Z' H',Inv X pins Z' H' s'/\RelV v u/\D.rt v H'
def PE (X:Cx) (e:Expr) (t:TE):Prop:=
 ∀ (pins:List (Addr×Obj)) (s:Shared) (Z:St) (H:Hp) (Q:VK),Inv X pins Z H s->t Z H Q->wpAny (model X.prog X.w) X.A (eval e X.env) (EP X pins Z Q) X.xe s
def PT (X:Cx) (e:Expr) (t:TT):Prop:=
 ∀ (pins:List (Addr×Obj)) (s:Shared) (Z:St) (H:Hp) (Q:Bool->Hp->Prop),Inv X pins Z H s->t Z H Q->wpAny (model X.prog X.w) X.A (isTrue e X.env (eval e X.env)) (TP X pins Z Q) X.xe s
def PW (X:Cx) (e:Expr) (t:TT):Prop:=
 ∀ (whole:Sem Value) (pins:List (Addr×Obj)) (s:Shared) (Z:St) (H:Hp) (Q:Bool->Hp->Prop),Inv X pins Z H s->t Z H Q->wpAny (model X.prog X.w) X.A (isTrue e X.env whole) (TP X pins Z Q) X.xe s
theorem PW.pt {X:Cx} {t:TT} (h:PW X e t):PT X e t:=h _
def PA (X:Cx) (es:List Expr) (t:TA):Prop:=
 ∀ (pos:Pos) (pins:List (Addr×Obj)) (s:Shared) (Z:St) (H:Hp) (Q:List V->Hp->Prop),Inv X pins Z H s->t Z H Q->wpAny (model X.prog X.w) X.A (spliced (backTo pos (starEach es X.env))) (AP X pins Z Q) X.xe s
def PS (X:Cx) (st:Stmt) (t:TS):Prop:=
 ∀ (pins:List (Addr×Obj)) (s:Shared) (Z:St) (H:Hp) (D:Ends),Inv X pins Z H s->t D Z H->wpAny (model X.prog X.w) X.A (exec st X.env) (SP X pins D) X.xe s
def PSs (X:Cx) (st:List Stmt) (t:TS):Prop:=
 ∀ (pins:List (Addr×Obj)) (s:Shared) (Z:St) (H:Hp) (D:Ends),Inv X pins Z H s->t D Z H->wpAny (model X.prog X.w) X.A (execs st X.env) (SP X pins D) X.xe s
theorem bB {α:Type} {t:Sem α} {Q Q':α->Shared->Prop} {s:Shared} (h:wpAny M A t Q E s) (hQ: ∀a s,Q a s->Q' a s):wpAny M A t Q' E s:=Wv h hQ λ _ _ x=>x
section
variable {X:Cx}
def aj (i:Nat):TE:=λ Z H Q=> ∃v,Z[i]? =some (some v)/\Q v H
def tC (v:V):TE:=λ _ H Q=>Q v H
theorem Ji (hN:X.N[i]? =some x) (hv:Ss X.env.scope x) (hd:(x==("__debug__":Str))=false:=by decide) (hcd:(x==("__classdict__":Str))=false:=by decide):PE X (.Name x pos) (aj i):=by
 intro pins s Z H Q I h;obtain ⟨v,e,h⟩:=h;obtain ⟨m,hn,hl⟩:=I.loc;obtain ⟨u,r,l⟩:=hl i x v hN e hv;have fin:EP X pins Z Q u s:=⟨v,H,I,r,h⟩;rcases l with ⟨hk,hm⟩ | ⟨hk,c,hc,hcell⟩
 .exact wpAny_Name (wpAny_loadName_local I.ok.kind hk hn hm fin) hd
 .rcases hk with hk | hk
  .exact wpAny_Name (wpAny_loadName_cell I.ok.kind hk hc hcell fin) hd
  .exact wpAny_Name (wpAny_loadName_free I.ok.kind hk hc hcell fin hcd) hd
theorem aq {i j pos}:PE X (.Constant (.int i) j pos) (tC (.int i)):=λ _ _ _ H _ I h=>wpAny_Constant_int ⟨.int i,H,I.tok _,⟨_,rfl⟩,h⟩
theorem yw {b j pos}:PE X (.Constant (.bool b) j pos) (tC (.bl b)):=λ _ _ _ H _ I h=>Constant_bool ⟨.bl b,H,I,rfl,h⟩
theorem jg {j pos}:PE X (.Constant .none j pos) (tC .non):=λ _ _ _ H _ I h=>Constant_none ⟨.non,H,I,rfl,h⟩
theorem iG {x j pos}:PE X (.Constant (.str x) j pos) (tC (.str x)):=λ _ _ _ H _ I h=>Calls.Constant_str ⟨.str x,H,I.tok _,⟨_,rfl⟩,h⟩
def Gl (X:Cx) (x:Str):Prop:=X.env.kindOf x=some .globalImplicit
theorem Eo {s:Shared} (I:Inv X pins Z H s) (hg:Gl X x) (hm:X.mg x=some u) (h:Q u s)
  (hd:(x==("__debug__":Str))=false:=by decide):wpAny (model X.prog X.w) X.A (eval (.Name x pos) X.env) Q E s:=
 Calls.Name_function_global I.ok.kind hg (Calls.loadGlobal_global (by rw [I.ok.glob];exact I.mod.glob.keeps I.bk) hm h) hd
theorem jh {s:Shared} (I:Inv X pins Z H s) (hg:Gl X x) (hm:X.mg x=none) (hv:bootBuiltins x=some u) (h:Q u s)
  (hn:x≠"__name__":=by decide) (hd:(x==("__debug__":Str))=false:=by decide):wpAny (model X.prog X.w) X.A (eval (.Name x pos) X.env) Q E s:=by
 obtain ⟨mb,h1,h2⟩:=I.mod.blt;exact Calls.Name_function_global I.ok.kind hg (Calls.loadGlobal_builtin (by rw [I.ok.glob];exact I.mod.glob.keeps I.bk) hm (by rw [I.ok.blt];exact h1.keeps I.bk) ((h2 x hn).trans hv) h) hd
theorem ou (hg:Gl X x) (hm:X.mg x=none) (hv:bootBuiltins x=some u) (r:RelV v u) (hn:x≠"__name__":=by decide) (hd:(x==("__debug__":Str))=false:=by decide):PE X (.Name x pos) (tC v):=
 λ _ _ _ H _ I h=>jh I hg hm hv ⟨v,H,I,r,h⟩ hn hd
variable {a b:Expr} {ta tb:TE} {pos:Pos}
def PC (X:Cx) (op:CmpOp) (a b:Expr) (t:TE):Prop:=
 ∀ (pins:List (Addr×Obj)) (s:Shared) (Z:St) (H:Hp) (Q:VK),Inv X pins Z H s->t Z H Q->
  wpAny (model X.prog X.w) X.A (eval a X.env) (λ v s₁=>wpAny (model X.prog X.w) X.A (eval b X.env) (λ u s₂=>wpAny (model X.prog X.w) X.A (compareOp op v u) (EP X pins Z Q) X.xe s₂) X.xe s₁) X.xe s
def tB (t:TE):TT:=λ Z H Q=>t Z H λ x H1=> ∃c,x= .bl c/\Q c H1
theorem iH (h:PC X op a b t) (h1:behindInMarks op b=false:=by first | exact nobehind _ (by decide) (by decide) | rfl):PT X (.Compare a [op] [b] pos) (tB t):=by
 intro pins s Z H Q I hw;refine wpAny_isTrue_Compare1 (bB (h pins s Z H _ I hw) λ v s1 h1=>bB h1 λ u s2 h2=>bB h2 λ c s3 ⟨x,H1,I1,r1,q1⟩=> ?_) h1;obtain ⟨d,rfl,q⟩:=q1
 cases r1;exact wpAny_truthy_bool ⟨H1,I1,q⟩
variable {tA tB':TT} {rest:List Expr}
def jG (t u:TT):TT:=λ Z H Q=>t Z H λ c H1=>if c=true then u Z H1 Q else Q false H1
def OD (t u:TT):TT:=λ Z H Q=>t Z H λ c H1=>if c=true then Q true H1 else u Z H1 Q
def yx (t:TT):TT:=λ Z H Q=>t Z H λ c H1=>Q (!c) H1
theorem gR (ha:PT X a tA):PW X (.BoolOp .And [a] pos) tA:=by
 intro wh pins s Z H Q I h;refine isTrue_and (bB (ha pins s Z H Q I h) λ c s1 e=> ?_)
 cases c with
 | true=>exact isTrue_and_nil e
 | false=>exact e
theorem yz (ha:PT X a tA):PW X (.BoolOp .Or [a] pos) tA:=by
 intro wh pins s Z H Q I h;refine isTrue_or (bB (ha pins s Z H Q I h) λ c s1 e=> ?_)
 cases c with
 | false=>exact isTrue_or_nil e
 | true=>exact e
theorem gB (ha:PT X a tA) (hb:PW X (.BoolOp .And (b::rest) pos) tB'):PW X (.BoolOp .And (a::b::rest) pos) (jG tA tB'):=by
 intro wh pins s Z H Q I h;refine isTrue_and (bB (ha pins s Z H _ I h) λ c s1 ⟨H1,I1,q1⟩=> ?_)
 cases c with
 | true=>exact hb wh pins s1 Z H1 Q I1 q1
 | false=>exact ⟨H1,I1,q1⟩
theorem yC (ha:PT X a tA) (hb:PW X (.BoolOp .Or (b::rest) pos) tB'):PW X (.BoolOp .Or (a::b::rest) pos) (OD tA tB'):=by
 intro wh pins s Z H Q I h;refine isTrue_or (bB (ha pins s Z H _ I h) λ c s1 ⟨H1,I1,q1⟩=> ?_)
 cases c with
 | true=>exact ⟨H1,I1,q1⟩
 | false=>exact hb wh pins s1 Z H1 Q I1 q1
theorem sW (ha:PT X a tA):PT X (.UnaryOp .Not a pos) (yx tA):=by
 intro pins s Z H Q I h;exact isTrue_not (ha pins s Z H (λ c H1=>Q (!c) H1) I h)
def jA (ta tb:TE):TE:=λ Z H Q=>ta Z H λ x H1=> ∃c,x= .bl c/\if c=true then tb Z H1 Q else Q (.bl false) H1
def Vs (ta tb:TE):TE:=λ Z H Q=>ta Z H λ x H1=> ∃c,x= .bl c/\if c=true then Q (.bl true) H1 else tb Z H1 Q
def yD (ta:TE):TE:=λ Z H Q=>ta Z H λ x H1=> ∃c,x= .bl c/\Q (.bl (!c)) H1
theorem oA {op} (h:PE X a t):PE X (.BoolOp op [a] pos) t:=λ pins s Z H Q I hw=>BoolOp_one (h pins s Z H Q I hw)
theorem jZ (ha:PE X a ta) (hb:PE X (.BoolOp .And (b::rest) pos) tb):PE X (.BoolOp .And (a::b::rest) pos) (jA ta tb):=by
 intro pins s Z H Q I h;refine BoolOp_and (bB (ha pins s Z H _ I h) λ v s1 ⟨x,H1,I1,r1,q1⟩=> ?_);obtain ⟨c,rfl,q1⟩:=q1
 cases r1;refine wpAny_truthy_bool ?_
 cases c with
 | true=>exact hb pins s1 Z H1 Q I1 q1
 | false=>exact ⟨.bl false,H1,I1,rfl,q1⟩
theorem Jj (ha:PE X a ta):PE X (.UnaryOp .Not a pos) (yD ta):=by
 intro pins s Z H Q I h;refine UnaryOp_ (bB (ha pins s Z H _ I h) λ v s1 ⟨x,H1,I1,r1,q1⟩=> ?_);obtain ⟨c,rfl,q1⟩:=q1
 cases r1;exact not_of (wpAny_truthy_bool ⟨.bl (!c),H1,I1,rfl,q1⟩)
def Ti (t:TT) (ta tb:TE):TE:=λ Z H Q=>t Z H λ c H1=>if c=true then ta Z H1 Q else tb Z H1 Q
theorem yE (hc:PT X c tA) (ha:PE X a ta) (hb:PE X b tb):PE X (.IfExp c a b pos) (Ti tA ta tb):=by
 intro pins s Z H Q I h;refine wpAny_IfExp (bB (hc pins s Z H _ I h) λ d s1 ⟨H1,I1,q1⟩=> ?_)
 cases d with
 | true=>exact ha pins s1 Z H1 Q I1 q1
 | false=>exact hb pins s1 Z H1 Q I1 q1
end
def SqL (K:W.Frag) (H:Hp) (a:Addr) (xs:List V):Prop:=
 Rd H a (.lst xs)\/
  ∃ (o:Obj) (its:Array Value) (n:Nat),K.lookup a=some o/\o.cls= .type "list"/\o.dict=none/\o.data= .seq its n/\its.size<=sizeLine/\Vals xs its.toList
def SqT (K:W.Frag) (H:Hp) (a:Addr) (xs:List V):Prop:=
 Rd H a (.tup xs)\/
  ∃ (o:Obj) (its:Array Value) (n:Nat),K.lookup a=some o/\o.cls= .type "tuple"/\o.data= .seq its n/\its.size<=sizeLine/\Vals xs its.toList
def Tj:Value->Option V
 | .none=>some .non
 | .bool b=>some (.bl b)
 | .int i _=>some (.int i)
 | .str x _=>some (.str x)
 | .bytes b _=>some (.byt b)
 | .float b _=>some (.flt b)
 | .ref a=>some (.ref a)
 | .type n=>some (.ty n)
 | _=>none
theorem RelV.abs {x:V} (r:RelV x u):Tj u=some x:=by
 cases x with
 | non=>cases r;rfl
 | bl _=>cases r;rfl
 | int _=>obtain ⟨t,rfl⟩:=r;rfl
 | str _=>obtain ⟨t,rfl⟩:=r;rfl
 | byt _=>obtain ⟨t,rfl⟩:=r;rfl
 | flt _=>obtain ⟨t,rfl⟩:=r;rfl
 | ref _=>cases r;rfl
 | ty _=>cases r;rfl
theorem RelV.inj {x:V} (r:RelV x u) (q:RelV y u):x=y:=Ym (r.abs.symm.trans q.abs)
theorem Vals.inj: ∀ {xs ys:List V} {us:List Value},Vals xs us->Vals ys us->xs=ys
 | _,_,_, .nil, .nil=>rfl
 | _,_,_, .cons r t, .cons r' t'=>by rw [r.inj r',Vals.inj t t']
section
variable {X:Cx} {pins:List (Addr×Obj)} {Z:St} {H:Hp} {s:Shared} {a:Addr} {xs ys:List V}
theorem SqL.of {K:W.Frag} (h:H a=some (.lst xs)):SqL K H a xs:= .inl (.inl h)
theorem SqT.of {K:W.Frag} (h:H a=some (.tup xs)):SqT K H a xs:= .inl (.inl h)
theorem Inv.list (I:Inv X pins Z H s) (h:SqL X.K H a xs): ∃its:List Value,Vals xs its/\PlainL s.heap a its.toArray/\xs.length<=sizeLine:=by
 rcases h with h | ⟨o,its,n,hk,hc,hd,hs,hz,r⟩
 .obtain ⟨z,its,n,r,e⟩:=h.ok I.hok;exact ⟨its,r,⟨_,n,e,rfl,rfl,rfl⟩,z⟩
 .refine ⟨its.toList,r,⟨o,n,I.kIn a o hk,hc,hd,by simpa using hs⟩,?_⟩;have e:=r.length;simp only [Xm] at e;rfl'
theorem Inv.tuple (I:Inv X pins Z H s) (h:SqT X.K H a xs): ∃its:List Value,Vals xs its/\IsTup s.heap a its.toArray/\xs.length<=sizeLine:=by
 rcases h with h | ⟨o,its,n,hk,hc,hs,hz,r⟩
 .obtain ⟨z,its,r,p⟩:=h.ok I.hok;exact ⟨its,r,p,z⟩
 .refine ⟨its.toList,r,⟨o,I.kIn a o hk,hc,n,by simpa using hs⟩,?_⟩;have e:=r.length;simp only [Xm] at e;rfl'
theorem Inv.list_inj (I:Inv X pins Z H s) (h:SqL X.K H a xs) (h':SqL X.K H a ys):xs=ys:=by
 obtain ⟨its,r,⟨o,n,e,_,_,d⟩,_⟩:=I.list h;obtain ⟨its',r',⟨o',n',e',_,_,d'⟩,_⟩:=I.list h';rw [e] at e';cases e';rw [d] at d';injection d' with d1 _
 have:its=its':=by simpa using Yt Array.toList d1
 subst this;exact r.inj r'
theorem Inv.tuple_inj (I:Inv X pins Z H s) (h:SqT X.K H a xs) (h':SqT X.K H a ys):xs=ys:=by
 obtain ⟨its,r,⟨o,e,_,n,d⟩,_⟩:=I.tuple h;obtain ⟨its',r',⟨o',e',_,n',d'⟩,_⟩:=I.tuple h';rw [e] at e';cases e';rw [d] at d';injection d' with d1 _
 have:its=its':=by simpa using Yt Array.toList d1
 subst this;exact r.inj r'
end
abbrev Cx.wish (X:Cx) (E:Value->Shared->Prop):Cx:={ X with xe:=E }
abbrev Cx.nox (X:Cx):Cx:=X.wish λ _ _=>False
theorem Cx.Ok.wish {X:Cx} (ok:X.Ok) (E:Value->Shared->Prop):(X.wish E).Ok:=
 ⟨ok.mod,ok.kind,ok.glob,ok.blt,ok.above,ok.inj,ok.has,ok.cab,ok.hd,ok.frames,ok.stk,ok.exf,ok.bs,ok.bsz,ok.noex,ok.exfs,ok.funs,ok.frf⟩
theorem Cx.Ok.unwish {X:Cx} (ok:(X.wish E).Ok):X.Ok:=
 ⟨ok.mod,ok.kind,ok.glob,ok.blt,ok.above,ok.inj,ok.has,ok.cab,ok.hd,ok.frames,ok.stk,ok.exf,ok.bs,ok.bsz,ok.noex,ok.exfs,ok.funs,ok.frf⟩
section
variable {X:Cx} {pins:List (Addr×Obj)} {Z:St} {H:Hp} {s:Shared} {E:Value->Shared->Prop}
theorem Inv.wish (I:Inv X pins Z H s) (E:Value->Shared->Prop):Inv (X.wish E) pins Z H s:=⟨I.ok.wish E,I.os,I.bare,I.base,I.loc,I.cell,I.free,I.freeC,I.pin,I.hok,I.len⟩
theorem Inv.unwish (I:Inv (X.wish E) pins Z H s):Inv X pins Z H s:=⟨I.ok.unwish,I.os,I.bare,I.base,I.loc,I.cell,I.free,I.freeC,I.pin,I.hok,I.len⟩
theorem SP.unwish {D:Ends} {f:Flow} (h:SP (X.wish E) pins D f s'):SP X pins D f s':=by
 cases f with
 | next=>obtain ⟨Z',H',I,q⟩:=h;exact ⟨Z',H',I.unwish,q⟩
 | brk=>obtain ⟨Z',H',I,q⟩:=h;exact ⟨Z',H',I.unwish,q⟩
 | cont=>obtain ⟨Z',H',I,q⟩:=h;exact ⟨Z',H',I.unwish,q⟩
 | ret u=>obtain ⟨v,Z',H',I,r,q⟩:=h;exact ⟨v,Z',H',I.unwish,r,q⟩
theorem PSs.nox {t:TS} (h:PSs X.nox st t):PSs X st t:=λ pins s Z H D I hw=>
 Wv (h pins s Z H D (I.wish _) hw) (λ _ _ q=>q.unwish) λ _ _ z=>False.elim z
end
section
variable {X:Cx} {st:Stmt} {rest:List Stmt} {t u:TS} {e:Expr} {te:TE} {pos:Pos}
def bT:TS:=λ D Z H=>D.nx Z H
def aG (t u:TS):TS:=λ D Z H=>t { D with nx:=u D } Z H
theorem aX:PSs X [] bT:=λ _ _ Z H _ I h=>wpAny_execs_nil ⟨Z,H,I,h⟩
theorem qm (h1:PS X st t) (h2:PSs X rest u):PSs X (st::rest) (aG t u):=by
 intro pins s Z H D I h;refine wpAny_execs_cons (bB (h1 pins s Z H { D with nx:=u D } I h) λ f s1 q=> ?_)
 cases f with
 | next=>
  obtain ⟨Z',H',I',q⟩:=q;exact h2 pins s1 Z' H' D I' q
 | ret v=>exact q
 | brk=>exact q
 | cont=>exact q
theorem aL (h1:PS X st t):PSs X [st] t:=by
 intro pins s Z H D I h;refine wpAny_execs_cons (bB (h1 pins s Z H D I h) λ f s1 q=> ?_)
 cases f with
 | next=>exact wpAny_execs_nil q
 | ret v=>exact q
 | brk=>exact q
 | cont=>exact q
def Tp:TS:=λ D Z H=>D.bk Z H
def UV:TS:=λ D Z H=>D.ct Z H
theorem Inv.quiet {s:Shared} (I:Inv X pins Z H s):interactive X.env=false:=by simp [interactive,I.ok.kind]
def dF (te:TE):TS:=λ D Z H=>te Z H λ _ H1=>D.nx Z H1
theorem bV (he:PE X e te) (hs:swapsWith e none pos.line X.env=pure false:=by rfl):PS X (.Expr e pos) (dF te):=by
 intro pins s Z H D I h;exact wpAny_Expr_any (bB (he pins s Z H _ I h) λ v s1 ⟨x,H1,I1,r1,q1⟩=>⟨Z,H1,I1,q1⟩) I.quiet hs
def bJ (te:TE):TS:=λ D Z H=>te Z H D.rt
theorem aP (he:PE X e te):PS X (.Return (some e) pos) (bJ te):=by
 intro pins s Z H D I h;exact wpAny_Return_some (bB (he pins s Z H _ I h) λ v s1 ⟨x,H1,I1,r1,q1⟩=>⟨x,Z,H1,I1,r1,q1⟩)
def UW:TS:=λ D _ H=>D.rt .non H
def cI (c:TT) (t u:TS):TS:=λ D Z H=>c Z H λ b H1=>if b=true then t D Z H1 else u D Z H1
theorem bO {a b:List Stmt} (hc:PT X c tc) (ha:PSs X a t) (hb:PSs X b u):PS X (.If c a b pos) (cI tc t u):=by
 intro pins s Z H D I h;refine wpAny_If (bB (hc pins s Z H _ I h) λ d s1 ⟨H1,I1,q1⟩=> ?_)
 cases d with
 | true=>exact ha pins s1 Z H1 D I1 q1
 | false=>exact hb pins s1 Z H1 D I1 q1
def yF:TS:=λ _ _ _=>False
theorem yG:PS X st yF:=λ _ _ _ _ _ _ h=>h.elim
end
abbrev TG:=V->St->Hp->(St->Hp->Prop)->Prop
abbrev El:=List V->St->Hp->(St->Hp->Prop)->Prop
def PG (X:Cx) (target:Expr) (t:TG):Prop:=
 ∀ (pins:List (Addr×Obj)) (s:Shared) (Z:St) (H:Hp) (v:V) (u:Value) (Q:St->Hp->Prop),Inv X pins Z H s->RelV v u->t v Z H Q->
  wpAny (model X.prog X.w) X.A (assign target X.env u) (λ _ s'=> ∃Z' H',Inv X pins Z' H' s'/\Q Z' H') X.xe s
def OJ (X:Cx) (ts:List Expr) (t:El):Prop:=
 ∀ (pins:List (Addr×Obj)) (s:Shared) (Z:St) (H:Hp) (vs:List V) (us:List Value) (Q:St->Hp->Prop),Inv X pins Z H s->Vals vs us->t vs Z H Q->
  wpAny (model X.prog X.w) X.A (assignInOrder ((assignEach ts X.env).map (·.2)) us) (λ _ s'=> ∃Z' H',Inv X pins Z' H' s'/\Q Z' H') X.xe s
abbrev yH:=V->V->V->Hp->(Hp->Prop)->Prop
def P0 (X:Cx) (t:yH):Prop:=
 ∀ (pins:List (Addr×Obj)) (s:Shared) (Z:St) (H:Hp) (o i v:V) (ov iv u:Value) (Q:Hp->Prop),Inv X pins Z H s->RelV o ov->RelV i iv->RelV v u->t o i v H Q->
  wpAny (model X.prog X.w) X.A (setItem ov iv u) (λ _ s'=> ∃H',Inv X pins Z H' s'/\Q H') X.xe s
abbrev Jk:=V->V->Hp->VK->Prop
def V0 (X:Cx) (op:Operator) (t:Jk):Prop:=
 ∀ (pins:List (Addr×Obj)) (s:Shared) (Z:St) (H:Hp) (x y:V) (v u:Value) (Q:VK),Inv X pins Z H s->RelV x v->RelV y u->t x y H Q->
  wpAny (model X.prog X.w) X.A (inplaceOp op v u) (EP X pins Z Q) X.xe s
section
variable {X:Cx} {pos:Pos}
def az (i:Nat):TG:=λ v Z H Q=>Q (Z.set i (some v)) H
theorem vB (hN:X.N.Nodup) (hi:X.N[i]? =some x) (hx:Loc X.env.scope x) (hf:X.fn x=true\/X.env.scope.names.lookup x=some .local:=by first | exact .inl rfl | exact .inr rfl | assumption):PG X (.Name x pos) (az i):=by
 intro pins s Z H v u Q I r h;exact wpAny_assign_Name (jY I hN hi hx r (λ s' I'=>⟨_,H,I',h⟩) hf)
def jH:El:=λ vs Z H Q=>vs=[]/\Q Z H
def bY (t:TG) (u:El):El:=λ vs Z H Q=> ∃v r,vs=v::r/\t v Z H λ Z' H'=>u r Z' H' Q
theorem di:OJ X [] jH:=by
 intro pins s Z H vs us Q I r h;obtain ⟨e,h⟩:=h;subst e
 cases r;exact assignInOrder_nil ⟨Z,H,I,h⟩
theorem aW {t:TG} {u:El} (h1:PG X e t) (h2:OJ X es u)
  (hs:(assignEach (e::es) X.env).map (·.2)=assign e X.env::(assignEach es X.env).map (·.2):=by rfl):OJ X (e::es) (bY t u):=by
 intro pins s Z H vs us Q I r h;obtain ⟨v,vr,e1,h⟩:=h;subst e1
 cases r with
 | cons r rr=>
  rw [hs];refine assignInOrder_cons (bB (h1 pins s Z H _ _ _ I r h) λ _ s1 ⟨Z1,H1,I1,q1⟩=> ?_);exact h2 pins s1 Z1 H1 _ _ Q I1 rr q1
def ji (K:W.Frag) (n:Nat) (t:El):TG:=λ v Z H Q=> ∃a xs,v= .ref a/\SqT K H a xs/\xs.length=n/\t xs Z H Q
theorem Jl {t:El} (hc:X.calm=true) (h:OJ X es t)
  (hn:(assignEach es X.env).length=n:=by rfl) (hst:(assignEach es X.env).findIdx? (·.1)=none:=by rfl):PG X (.Tuple es k pos) (ji X.K n t):=by
 intro pins s Z H v u Q I r hw;obtain ⟨a,xs,e1,hq,hl,hw⟩:=hw;subst e1
 cases r;obtain ⟨its,rv,ht,hz⟩:=I.tuple hq;refine assign_Tuple_tuple (I.ok.hd hc) ht (by simp [hn,<- hl,rv.length]) hst λ h' hx=> ?_
 have I1:Inv X pins Z H { s with heap:=h' }:=I.kept (t':=s.toks) λ b o e=>hx b o (Yo (Zp e)) e
 exact h pins _ Z H xs _ Q I1 (by simpa using rv) hw
def Ep (to ti:TE) (t:yH):TG:=λ v Z H Q=>to Z H λ o H1=>ti Z H1 λ i H2=>t o i v H2 λ H3=>Q Z H3
theorem yI {o i:Expr} {to ti:TE} {t:yH} (ho:PE X o to) (hi:PE X i ti) (hs:P0 X t)
  (ha: ∀v,assign (.Subscript o i pos) X.env v=(do
   let ov <- holding [v] (eval o X.env)
   let iv <- holding [v,ov] (eval i X.env)
   standAt pos
   holding [v,ov,iv] (setItem ov iv v)
   release [v,ov,iv] []):=by intro _;rfl):PG X (.Subscript o i pos) (Ep to ti t):=by
 intro pins s Z H v u Q I r h;rw [ha];refine Qb (Xg (bB (ho pins s Z H _ I h) λ ov s1 ⟨x,H1,I1,r1,q1⟩=> ?_));refine Qb (Xg (bB (hi pins s1 Z H1 _ I1 q1) λ iv s2 ⟨y,H2,I2,r2,q2⟩=> ?_));refine Qb (wpAny_standAt (Qb (Xg (bB (hs pins s2 Z H2 x y v ov iv u _ I2 r1 r2 r q2) λ _ s3 ⟨H3,I3,q3⟩=> ?_))));exact wpAny_release ⟨Z,H3,I3,q3⟩
def aJ (te:TE) (g:TG):TS:=λ D Z H=>te Z H λ x H1=>g x Z H1 D.nx
theorem sX {g:TG} (he:PE X e te) (hg:PG X tg g) (hs:swapsWithSole [tg] e pos.line X.env=pure false:=by rfl) (hw:swappedStores [tg] e X.env=pure none:=by rfl)
  (h1:(assignEach [tg] X.env).map (·.2)=[assign tg X.env]:=by rfl):PS X (.Assign [tg] e pos) (aJ te g):=by
 intro pins s Z H D I h;refine wpAny_Assign_stores (bB (he pins s Z H _ I h) λ v s1 ⟨x,H1,I1,r1,q1⟩=> ?_) hs hw;rw [h1];exact bB (hg pins s1 Z H1 x v _ I1 r1 q1) λ _ s2 q=>q
theorem iI (hN:X.N.Nodup) (hi:X.N[i]? =some x) (hx:Loc X.env.scope x) (he:PE X e te) (hs:swapsWith e (some (.Name x pos')) pos.line X.env=pure false:=by rfl) (hf:X.fn x=true\/X.env.scope.names.lookup x=some .local:=by first | exact .inl rfl | exact .inr rfl | assumption):
  PS X (.Assign [.Name x pos'] e pos) (aJ te (az i)):=by
 intro pins s Z H D I h;refine wpAny_Assign_Name (bB (he pins s Z H _ I h) λ v s1 ⟨y,H1,I1,r1,q1⟩=> ?_) hs;exact jY I1 hN hi hx r1 (λ s2 I2=>⟨_,H1,I2,q1⟩) hf
def Jm (i:Nat) (te:TE) (ti:Jk):TS:=λ D Z H=> ∃x,Z[i]? =some (some x)/\te Z H λ y H1=>ti x y H1 λ z H2=>D.nx (Z.set i (some z)) H2
theorem Jo {op:Operator} {ti:Jk} (hN:X.N.Nodup) (hi:X.N[i]? =some x) (hx:Loc X.env.scope x) (he:PE X e te) (ho:V0 X op ti) (hf:X.fn x=true\/X.env.scope.names.lookup x=some .local:=by first | exact .inl rfl | exact .inr rfl | assumption):
  PS X (.AugAssign (.Name x pos') op e pos) (Jm i te ti):=by
 intro pins s Z H D I h;obtain ⟨v,e1,h⟩:=h;obtain ⟨m,hn,hl⟩:=I.loc;have vis:Ss X.env.scope x:=by rcases hx with k | k;exact .inl k;exact .inr (.inl k)
 obtain ⟨u,r,l⟩:=hl i x v hi e1 vis;refine wpAny_AugAssign_Name ?_;have go:wpAny (model X.prog X.w) X.A (eval e X.env) (λ w s₂=>wpAny (model X.prog X.w) X.A (inplaceOp op u w) (λ r s₃=>wpAny (model X.prog X.w) X.A (storeName X.env x r) (λ _=>SP X pins D .next) X.xe s₃) X.xe s₂) X.xe s:=by
  refine bB (he pins s Z H _ I h) λ w s1 ⟨y,H1,I1,r1,q1⟩=> ?_
  refine bB (ho pins s1 Z H1 v y u w _ I1 r r1 q1) λ z s2 ⟨zv,H2,I2,r2,q2⟩=> ?_
  exact jY I2 hN hi hx r2 (λ s3 I3=>⟨_,H2,I3,q2⟩) hf
 rcases l with ⟨hk,hm⟩ | ⟨hk,c,hc,hcell⟩
 .exact wpAny_loadName_local I.ok.kind hk hn hm go
 .rcases hk with hk | hk
  .exact wpAny_loadName_cell I.ok.kind hk hc hcell go
  .rcases hx with k | k
   .have:X.env.scope.names.lookup x=some .free:=hk;rw [k] at this;cases this
   .have:X.env.scope.names.lookup x=some .free:=hk;rw [k] at this;cases this
def V1 (to ti te:TE) (tget:V->V->Hp->VK->Prop) (tip:Jk) (tset:yH):TS:=λ D Z H=>to Z H λ o H1=>ti Z H1 λ i H2=>tget o i H2 λ x H3=>te Z H3 λ y H4=>tip x y H4 λ z H5=>tset o i z H5 λ H6=>D.nx Z H6
def Tq (f:Int->Int->Int):Jk:=λ x y H Q=> ∃i j,x= .int i/\y= .int j/\Q (.int (f i j)) H
theorem Jp:V0 X .Add (Tq λ i j=>i+j):=by
 intro pins s Z H x y v u Q I r1 r2 h;obtain ⟨i,j,e1,e2,q⟩:=h;subst e1;subst e2;obtain ⟨t,rfl⟩:=r1;obtain ⟨t',rfl⟩:=r2;exact iadd_int ⟨.int _,H,I.tok _,⟨_,rfl⟩,q⟩
end
section
variable {X:Cx} {pos:Pos}
def eF (c:TT) (tb:TS):TS:=λ D Z H=> ∃W:Nat->St->Hp->Prop,(∃m,W m Z H)/\ ∀m Z H,W m Z H->
 c Z H λ b H1=>if b=true then ∃N:St->Hp->Prop,(∀Z' H',N Z' H'-> ∃m',m'<m/\W m' Z' H')/\tb { D with nx:=N,ct:=N,bk:=D.nx } Z H1 else D.nx Z H1
theorem eG (hp:PassesOwn (model X.prog X.w) X.A X.env X.xe) (hc:PT X c tc) (hb:PSs X body tb):PS X (.While c body [] pos) (eF tc tb):=by
 intro pins s Z H D I h;obtain ⟨W,⟨m0,w0⟩,turn⟩:=h;refine wpAny_While (codeAny_whileLoop (λ n s'=> ∃Z' H',Inv X pins Z' H' s'/\W n Z' H') ?_ m0 ⟨Z,H,I,w0⟩);rintro n s1 ⟨Z1,H1,I1,w1⟩;refine wpAny_passesOwn hp (bB (hc pins s1 Z1 H1 _ I1 (turn n Z1 H1 w1)) λ b s2 ⟨H2,I2,q2⟩=> ?_)
 cases b with
 | true=>
  obtain ⟨N,hN,q2⟩:=q2;rw [if_pos rfl];refine wpAny_passesOwn hp (bB (hb pins s2 Z1 H2 _ I2 q2) λ f s3 q3=> ?_)
  cases f with
  | next=>
   obtain ⟨Z3,H3,I3,n3⟩:=q3;obtain ⟨m',hm,w3⟩:=hN Z3 H3 n3;exact ⟨m',hm,Z3,H3,I3,w3⟩
  | cont=>
   obtain ⟨Z3,H3,I3,n3⟩:=q3;obtain ⟨m',hm,w3⟩:=hN Z3 H3 n3;exact ⟨m',hm,Z3,H3,I3,w3⟩
  | brk=>exact q3
  | ret v=>exact q3
 | false=>
  rw [if_neg Zr];exact wpAny_execs_nil ⟨Z1,H2,I2,q2⟩
end
structure It where
 go:Nat->Hp->Prop
 yld:Nat->Hp->V->Hp->Prop
 stop:Nat->Hp->Prop
def kh (X:Cx) (pins:List (Addr×Obj)) (H:Hp) (b:Addr):Prop:=
 H b=none/\b≠X.env.locals/\b∉X.fs/\(b∈X.ex\/X.s₀.heap.objs.size<=b)/\(∀x c,X.env.cells.lookup x=some c->c≠b)/\ ∀p∈X.pn++pins,p.1≠b
theorem Inv.fpOk {X:Cx} {H':Hp} {s:Shared} (I:Inv X pins Z H s) (hb:s.heap.objs.size<=b) (hn:H' b=none):kh X pins H' b:=by
 refine ⟨hn,Nat.ne_of_gt (Yc I.lt hb),I.nofs hb, .inr (Yg I.sz hb),λ x c e z=> ?_,λ p hp z=> ?_⟩
 .obtain ⟨v,q⟩:=I.cell x c e;exact absurd (Yc q.lt (by rw [z];exact hb)) (Xj _)
 .exact absurd (Yc (Zp (I.pin p hp).1) (by rw [z];exact hb)) (Xj _)
structure Turn (P:Program) (w:World) (K:W.Frag) (tg:Expr) (J:It) (fp:List Addr) (it:Addr) (tn:Nat->Heap->Prop):Prop where
 mem:it∈fp
 obj: ∀i h,tn i h-> ∀b∈fp,∃o,h.get? b=some o/\ ∀v,o.data≠ .cell v
 keep: ∀i h h',tn i h->(∀b∈fp,∀o,h.get? b=some o->h'.get? b=some o)->tn i h'
 item: ∀ (X:Cx),X.prog=P->X.w=w->X.K=K->X.calm=true-> ∀ (i:Nat) (pins:List (Addr×Obj)) (s:Shared) (Z:St) (H:Hp) (E:Value->Shared->Prop),Inv X pins Z H s->(∀b∈fp,kh X pins H b)->tn i s.heap->J.go i H->
  wpAny (model P w) X.A (pyNext (.ref it)) (λ r s1=> ∃u,r=some u/\
   wpAny (model P w) X.A (letOwnedTupleGo tg (.ref it) u) (λ _ s2=> ∃x H',Inv X pins Z H' s2/\RelV x u/\J.yld i H x H'/\tn (i+1) s2.heap/\ ∀b∈fp,H' b=none) E s1) E s
 done: ∀ (X:Cx),X.prog=P->X.w=w->X.K=K->X.calm=true-> ∀ (i:Nat) (pins:List (Addr×Obj)) (s:Shared) (Z:St) (H:Hp) (E:Value->Shared->Prop),Inv X pins Z H s->(∀b∈fp,kh X pins H b)->tn i s.heap->J.stop i H->
  wpAny (model P w) X.A (pyNext (.ref it)) (λ r s1=>r=none/\Inv X pins Z H s1) E s
 self: ∀ (A:Around) (i:Nat) (s:Shared) (Q:Value->Shared->Prop) (E:Value->Shared->Prop),tn i s.heap->Q (.ref it) s->wpAny (model P w) A (pyIter (.ref it)) Q E s
abbrev TI:=St->Hp->(It->Hp->Prop)->Prop
def PIE (X:Cx) (pins:List (Addr×Obj)) (Z:St) (tg:Expr) (R:It->Hp->Prop) (itv:Value) (s2:Shared):Prop:=
 ∃ (it:Addr) (fp:List Addr) (tn:Nat->Heap->Prop) (J:It) (H':Hp),itv= .ref it/\Inv X pins Z H' s2/\Turn X.prog X.w X.K tg J fp it tn/\tn 0 s2.heap/\(∀b∈fp,kh X pins H' b)/\R J H'
def PI (X:Cx) (tg iter:Expr) (wi:TI):Prop:=
 ∀ (pins:List (Addr×Obj)) (s:Shared) (Z:St) (H:Hp) (R:It->Hp->Prop),Inv X pins Z H s->wi Z H R->
  wpAny (model X.prog X.w) X.A (eval iter X.env) (λ v s1=>wpAny (model X.prog X.w) X.A (pyIter v) (PIE X pins Z tg R) X.xe s1) X.xe s
theorem qp {s:Shared} {o:Obj} {n:String} {vs:Array Value} {Q:Unit->Shared->Prop} (ho:s.heap.get? it=some o) (hc:o.cls= .type n) (hd:o.data= .fields vs)
  (hn:["enumerate","zip","dict_itemiterator","dict_reverseitemiterator","odict_iterator","itertools.zip_longest","itertools.pairwise"].contains n=false) (hQ:Q () s):wpAny M A (letOwnedTupleGo tg (.ref it) u) Q E s:=by
 unfold letOwnedTupleGo
 cases tg <;> first
  | exact Zc hQ
  | (cases u<;>first
    | exact Zc hQ
    | (refine Qb (wpAny_load ho ?_)
       rw [hc,hd];show wpAny M A (if (["enumerate","zip","dict_itemiterator","dict_reverseitemiterator","odict_iterator","itertools.zip_longest","itertools.pairwise"].contains n&&vs[0]? ==some (rawInt _))=true then _ else _) Q E s;rw [if_neg (by intro h;rw [hn,Bool.false_and] at h;cases h)];exact Zc hQ))
def Er (K:W.Frag) (a:Addr):It:=
 ⟨λ i H=> ∃xs x,SqL K H a xs/\xs[i]? =some x,λ i H x H'=>H'=H/\ ∀xs,SqL K H a xs->xs[i]? =some x,λ i H=> ∃xs,SqL K H a xs/\xs.length<=i⟩
def Ol (K:W.Frag) (a:Addr):It:=
 ⟨λ i H=> ∃xs x,SqT K H a xs/\xs[i]? =some x,λ i H x H'=>H'=H/\ ∀xs,SqT K H a xs->xs[i]? =some x,λ i H=> ∃xs,SqT K H a xs/\xs.length<=i⟩
def wU (lo:Int) (n:Nat):It:=⟨λ i _=>i<n,λ i H x H'=>H'=H/\x= .int (lo+i),λ i _=>n<=i⟩
theorem wV {P:Program} {K:W.Frag} (a it:Addr):Turn P w K tg (Er K a) [it] it (λ i h=>h.IsListIter it a i) where
 mem:=by simp
 obj:=λ i h st b hb=>by
  have e:b=it:=by simpa using hb
  subst e;obtain ⟨o,e,c,d⟩:=st;exact ⟨o,e,λ v z=>by rw [d] at z;cases z⟩
 keep:=λ i h h' st k=>st.at λ o e=>k it (by simp) o e
 item:=by
  intro X hP hw hK hc i pins s Z H E I hf st hg;subst hP hw hK;obtain ⟨xs,x,hq,hx⟩:=hg;obtain ⟨its,rv,p,hz⟩:=I.list hq;obtain ⟨u,hu,ru⟩:=rv.get hx;obtain ⟨f0,f1,f2,f3,f4,f5⟩:=hf it (by simp);refine wpAny_pyNext_list_item st p.isList (x:=u) (by simpa using hu) λ h' st' sb=> ?_
  have I1:Inv X pins Z H { s with heap:=h' }:=I.turned (t':=s.toks) (λ b o hb e=>(sb.2 b hb).trans e) f0 f1 f3 f4 f5;obtain ⟨o,e,c,d⟩:=id st';exact ⟨u,rfl,qp (s:={ s with heap:=h' }) e c d (by decide) ⟨x,H,I1,ru,⟨rfl,λ ys hy=>by rw [I.list_inj hy hq];exact hx⟩,st',λ b hb=>(hf b hb).1⟩⟩
 done:=by
  intro X hP hw hK hc i pins s Z H E I hf st hg;subst hP hw hK;obtain ⟨xs,hq,hx⟩:=hg;obtain ⟨its,rv,p,hz⟩:=I.list hq;obtain ⟨f0,f1,f2,f3,f4,f5⟩:=hf it (by simp);have hl:=rv.length;exact wpAny_pyNext_list_end (I.ok.hd hc) st p.isList (by simp;rfl') λ h' eb=>⟨rfl,I.turned (t':=s.toks) (λ b o hb e=>eb b o hb e) f0 f1 f3 f4 f5⟩
 self:=λ _ _ _ _ _ st h=>wpAny_pyIter_listiter st h
theorem sY {P:Program} {K:W.Frag} (a it:Addr):Turn P w K tg (Ol K a) [it] it (λ i h=>h.IsTupleIter it a i) where
 mem:=by simp
 obj:=λ i h st b hb=>by
  have e:b=it:=by simpa using hb
  subst e;obtain ⟨o,e,c,d⟩:=st;exact ⟨o,e,λ v z=>by rw [d] at z;cases z⟩
 keep:=λ i h h' st k=>st.at λ o e=>k it (by simp) o e
 item:=by
  intro X hP hw hK hc i pins s Z H E I hf st hg;subst hP hw hK;obtain ⟨xs,x,hq,hx⟩:=hg;obtain ⟨its,rv,p,hz⟩:=I.tuple hq;obtain ⟨u,hu,ru⟩:=rv.get hx;obtain ⟨f0,f1,f2,f3,f4,f5⟩:=hf it (by simp);refine wpAny_pyNext_tuple_item st (show s.heap.IsTuple a its.toArray from p) (x:=u) (by simpa using hu) λ h' st' sb=> ?_
  have I1:Inv X pins Z H { s with heap:=h' }:=I.turned (t':=s.toks) (λ b o hb e=>(sb.2 b hb).trans e) f0 f1 f3 f4 f5;obtain ⟨o,e,c,d⟩:=id st';exact ⟨u,rfl,qp (s:={ s with heap:=h' }) e c d (by decide) ⟨x,H,I1,ru,⟨rfl,λ ys hy=>by rw [I.tuple_inj hy hq];exact hx⟩,st',λ b hb=>(hf b hb).1⟩⟩
 done:=by
  intro X hP hw hK hc i pins s Z H E I hf st hg;subst hP hw hK;obtain ⟨xs,hq,hx⟩:=hg;obtain ⟨its,rv,p,hz⟩:=I.tuple hq;obtain ⟨f0,f1,f2,f3,f4,f5⟩:=hf it (by simp);have hl:=rv.length;exact wpAny_pyNext_tuple_end (I.ok.hd hc) st (show s.heap.IsTuple a its.toArray from p) (by simp;rfl') λ h' eb=>⟨rfl,I.turned (t':=s.toks) (λ b o hb e=>eb b o hb e) f0 f1 f3 f4 f5⟩
 self:=λ _ _ _ _ _ st h=>wpAny_pyIter_tupleiter st h
theorem sZ {P:Program} {K:W.Frag} (it:Addr) (lo:Int) (n:Nat):Turn P w K tg (wU lo n) [it] it (λ i h=>IsRangeIter h it (lo+(i:Nat)*1) ((n:Int)-(i:Nat)) 1) where
 mem:=by simp
 obj:=λ i h st b hb=>by
  have e:b=it:=by simpa using hb
  subst e;exact ⟨_,st,λ v z=>by
   have z':Data.fields _=Data.cell v:=z
   cases z'⟩
 keep:=λ i h h' st k=>k it (by simp) _ st
 item:=by
  intro X hP hw hK hc i pins s Z H E I hf st hg;subst hP hw hK;obtain ⟨f0,f1,f2,f3,f4,f5⟩:=hf it (by simp);have W:=Walks.range (prog:=X.prog) (w:=X.w) (I.ok.hd hc) it lo 1 n;refine W.item i s _ _ hg st λ v h' tk hv st' kk=> ?_
  obtain ⟨t,rfl⟩:=hv;have I1:Inv X pins Z H { s with heap:=h',toks:=tk }:=I.turned (λ b o hb e=>kk b o (by simpa using hb) e) f0 f1 f3 f4 f5;refine ⟨_,rfl,qp (s:={ s with heap:=h',toks:=tk }) (n:="range_iterator") st' rfl rfl (by decide) ⟨.int (lo+i),H,I1,⟨t,?_⟩,⟨rfl,rfl⟩,st',λ b hb=>(hf b hb).1⟩⟩;rw [Int.mul_one]
 done:=by
  intro X hP hw hK hc i pins s Z H E I hf st hg;subst hP hw hK;obtain ⟨f0,f1,f2,f3,f4,f5⟩:=hf it (by simp);exact wpAny_pyNext_range_end (I.ok.hd hc) st (by have:n<=i:=hg;rfl') λ h' eb=>⟨rfl,I.turned (t':=s.toks) (λ b o hb e=>eb b o hb e) f0 f1 f3 f4 f5⟩
 self:=λ _ _ _ _ _ st h=>wpAny_pyIter_rangeiter st h
section
variable {X:Cx} {tg:Expr}
def cQ (K:W.Frag) (tl:TE):TI:=λ Z H R=>tl Z H λ x H1=> ∃a,x= .ref a/\(∃xs,SqL K H1 a xs)/\R (Er K a) H1
def qt (K:W.Frag) (tl:TE):TI:=λ Z H R=>tl Z H λ x H1=> ∃a,x= .ref a/\(∃xs,SqT K H1 a xs)/\R (Ol K a) H1
theorem Es {l:Expr} {tl:TE} (hl:PE X l tl):PI X tg l (cQ X.K tl):=by
 intro pins s Z H R I h;refine bB (hl pins s Z H _ I h) λ v s1 ⟨x,H1,I1,r1,q1⟩=> ?_
 obtain ⟨a,e,⟨xs,hq⟩,q⟩:=q1;subst e
 cases r1;obtain ⟨its,rv,p,hz⟩:=I1.list hq;refine wpAny_pyIter_list p.isList ?_;refine ⟨s1.heap.objs.size,[s1.heap.objs.size],_,_,H1,rfl,I1.kept (t':=s1.toks) λ b o e=>Zf _ e,wV a _,⟨_,Zt _ rfl,rfl,rfl⟩,λ b hb=> ?_,q⟩;have e:b=s1.heap.objs.size:=by simpa using hb
 subst e;exact I1.fpOk (Zk _) (I1.hok.fresh (Zk _))
theorem Jq {l:Expr} {tl:TE} (hl:PE X l tl):PI X tg l (qt X.K tl):=by
 intro pins s Z H R I h;refine bB (hl pins s Z H _ I h) λ v s1 ⟨x,H1,I1,r1,q1⟩=> ?_
 obtain ⟨a,e,⟨xs,hq⟩,q⟩:=q1;subst e
 cases r1;obtain ⟨its,rv,p,hz⟩:=I1.tuple hq;refine wpAny_pyIter_tuple (show s1.heap.IsTuple a its.toArray from p) ?_;refine ⟨s1.heap.objs.size,[s1.heap.objs.size],_,_,H1,rfl,I1.kept (t':=s1.toks) λ b o e=>Zf _ e,sY a _,⟨_,Zt _ rfl,rfl,rfl⟩,λ b hb=> ?_,q⟩;have e:b=s1.heap.objs.size:=by simpa using hb
 subst e;exact I1.fpOk (Zk _) (I1.hok.fresh (Zk _))
theorem yJ {s:Shared} {R:It->Hp->Prop} {hi:Int} {t u v:Tok} {tk:Nat} (I:Inv X pins Z H s) (h1: -(2^62)<=lo) (h2:lo<2^62) (h3: -(2^62)<=hi) (h4:hi<2^62)
  (q:R (wU lo (hi-lo).toNat) H):wpAny (model X.prog X.w) X.A (pyIter (.ref s.heap.objs.size)) (PIE X pins Z tg R) E { s with heap:=s.heap.push { cls:= .type "range",data:= .fields #[.int lo t, .int hi u, .int 1 v] },toks:=tk }:=by
 refine wpAny_pyIter_range (IsRange.new ..) (small_one h1 h2 h3 h4) ?_;have I1:Inv X pins Z H { s with heap:=s.heap.push { cls:= .type "range",data:= .fields #[.int lo t, .int hi u, .int 1 v] },toks:=tk }:=I.kept λ b o e=>Zf _ e
 refine ⟨(s.heap.push { cls:= .type "range",data:= .fields #[.int lo t, .int hi u, .int 1 v] }).objs.size,[(s.heap.push { cls:= .type "range",data:= .fields #[.int lo t, .int hi u, .int 1 v] }).objs.size],_,_,H,rfl,
  I1.kept (t':=tk) λ b o e=>Zf _ e,sZ _ lo (hi-lo).toNat,?_,λ b hb=> ?_,q⟩
 .have e1:lo+((0:Nat):Int)*1=lo:=by simp
  have e2:(((hi-lo).toNat:Nat):Int)-((0:Nat):Int)=Builtin.Range.rangeSize lo hi 1:=by rw [rangeSize_one];split<;>rfl'
  show IsRangeIter _ _ (lo+((0:Nat):Int)*1) ((((hi-lo).toNat:Nat):Int)-((0:Nat):Int)) 1;rw [e1,e2];exact Zt _ rfl
 .have e:b=(s.heap.push { cls:= .type "range",data:= .fields #[.int lo t, .int hi u, .int 1 v] }).objs.size:=by simpa using hb
  subst e;exact I1.fpOk (Zk _) (I1.hok.fresh (Zk _))
def iz (ta:TA):TI:=λ Z H R=>ta Z H λ vs H1=> ∃j:Int,vs=[.int j]/\ -(2^62)<=j/\j<2^62/\R (wU 0 j.toNat) H1
def V2 (ta:TA):TI:=λ Z H R=>ta Z H λ vs H1=> ∃i j:Int,vs=[.int i, .int j]/\(-(2^62)<=i/\i<2^62/\ -(2^62)<=j/\j<2^62)/\R (wU i (j-i).toNat) H1
theorem cM {a:Expr} {ta:TA} {p:Pos} (hg:Gl X "range") (hm:X.mg "range"=none) (ha:PA X [a] ta) (hs:starEach [a] X.env=[(false,eval a X.env)]:=by rfl):PI X tg (.Call (.Name "range" p) [a] [] pos) (iz ta):=by
 intro pins s Z H R I h;refine Call_ (jh I hg hm boot_range (PyProof.Rows.callWith_type1 (bB (ha pos pins s Z H _ I h) λ us s1 ⟨vs,H1,I1,r1,q1⟩=> ?_) hs rfl));obtain ⟨j,e,q1,q2,q⟩:=q1;subst e
 cases r1 with
 | cons r rr=>
  cases rr;obtain ⟨t,rfl⟩:=r;exact call_range_1 (yJ I1 (by rfl') (by rfl') q1 q2 (by simpa using q))
def eY (wi:TI) (g:TG) (tb:TS):TS:=λ D Z H=>wi Z H λ J H1=> ∃W:Nat->Nat->St->Hp->Prop,(∃m,W 0 m Z H1)/\ ∀i m Z H,W i m Z H->
 (J.stop i H/\D.nx Z H)\/(J.go i H/\ ∃N:St->Hp->Prop,(∀Z' H',N Z' H'-> ∃m',m'<m/\W (i+1) m' Z' H')/\ ∀x H',J.yld i H x H'->g x Z H' λ Z2 H2=>tb { D with nx:=N,ct:=N,bk:=D.nx } Z2 H2)
def kj (fp:List Addr) (h:Heap):List (Addr×Obj):=fp.filterMap λ b=>(h.get? b).map λ o=>(b,o)
theorem fK {h:Heap} {o:Obj} (hb:b∈fp) (e:h.get? b=some o):(b,o)∈kj fp h:=List.mem_filterMap.mpr ⟨b,hb,by rw [e];rfl⟩
theorem wW {h:Heap} (hp:p∈kj fp h):p.1∈fp/\h.get? p.1=some p.2:=by
 obtain ⟨b,hb,e⟩:=List.mem_filterMap.mp hp
 cases q:h.get? b with
 | none=>rw [q] at e;cases e
 | some o=>
  rw [q] at e;have e':(b,o)=p:=Ym e;subst e';exact ⟨hb,q⟩
theorem Inv.pinned {s:Shared} (I:Inv X pins Z H s) (hf: ∀b∈fp,kh X pins H b) (ho: ∀b∈fp,∃o,s.heap.get? b=some o/\ ∀v,o.data≠ .cell v):Inv X (pins++kj fp s.heap) Z H s:=
 I.pins_of λ p hp=>(Zi.mp hp).elim (λ z=>I.pin p (Zw _ z)) λ z=>by
  obtain ⟨hb,e⟩:=wW z;obtain ⟨f0,f1,f2,_⟩:=hf p.1 hb;obtain ⟨o,e',d⟩:=ho p.1 hb;rw [e] at e';cases e';exact ⟨e,f0,f1,f2,d⟩
theorem Inv.unpinned {pl:List (Addr×Obj)} {s:Shared} (I:Inv X (pins++pl) Z H s):Inv X pins Z H s:=I.pins_of λ p hp=>I.pin p (Zw _ (Zz _ hp))
theorem Jr {iter:Expr} {wi:TI} {g:TG} (hp:PassesOwn (model X.prog X.w) X.A X.env X.xe) (hc:X.calm=true) (hi:PI X tg iter wi) (hg:PG X tg g) (hb:PSs X body tb)
  (hs: ∀x,foldedSetIterable iter X.env x=pure x:=by intro _;rfl):PS X (.For tg iter body [] pos) (eY wi g tb):=by
 intro pins s Z H D I h;refine wpAny_For (bB (hi pins s Z H _ I h) λ v s1 h1=>bB h1 λ itv s2 h2=> ?_) hs;obtain ⟨it,fp,tn,J,H2,e,I2,T,st2,f2,W,⟨m0,w0⟩,turn⟩:=h2;subst e;have stat: ∀ {H':Hp},(∀b∈fp,H' b=none)-> ∀b∈fp,kh X pins H' b:=λ hn b hb=>⟨hn b hb,(f2 b hb).2⟩
 refine codeAny_forLoop_any (λ n s'=> ∃i Z' H',Inv X pins Z' H' s'/\tn i s'.heap/\(∀b∈fp,H' b=none)/\W i n Z' H') ?_ m0 ⟨0,Z,H2,I2,st2,λ b hb=>(f2 b hb).1,w0⟩;rintro n s3 ⟨i,Z3,H3,I3,st3,fr3,w3⟩;rcases turn i n Z3 H3 w3 with ⟨stop,qn⟩ | ⟨go,N,hN,step⟩
 .refine wpAny_passesOwn hp (bB (T.done X rfl rfl rfl hc i pins s3 Z3 H3 X.xe I3 (stat fr3) st3 stop) λ r s4 ⟨hr,I4⟩=> ?_);subst hr;exact wpAny_execs_nil ⟨Z3,H3,I4,qn⟩
 .refine wpAny_passesOwn hp (bB (T.item X rfl rfl rfl hc i pins s3 Z3 H3 X.xe I3 (stat fr3) st3 go) λ r s4 ⟨u,hr,h4⟩=> ?_);subst hr;refine wpAny_passesOwn hp (bB h4 λ _ s5 ⟨x,H5,I5,r5,y5,st5,fr5⟩=> ?_);have I5':=I5.pinned (stat fr5) (T.obj _ _ st5);refine wpAny_passesOwn hp (bB (hg _ s5 Z3 H5 x u _ I5' r5 (step x H5 y5)) λ _ s6 ⟨Z6,H6,I6,q6⟩=> ?_);refine wpAny_passesOwn hp (bB (hb _ s6 Z6 H6 _ I6 q6) λ f s7 q7=> ?_);have again: ∀ {Z7:St} {H7:Hp},Inv X (pins++kj fp s5.heap) Z7 H7 s7->N Z7 H7-> ∃m,m<n/\ ∃i Z' H',Inv X pins Z' H' s7/\tn i s7.heap/\(∀b∈fp,H' b=none)/\W i m Z' H':=λ {Z7 H7} I7 n7=>by
   obtain ⟨m',hm,w7⟩:=hN Z7 H7 n7;refine ⟨m',hm,i+1,Z7,H7,I7.unpinned,T.keep _ _ _ st5 λ b hb o e=>(I7.pin (b,o) (Zw _ (Zw _ (fK hb e)))).1,λ b hb=> ?_,w7⟩;obtain ⟨o,e,d⟩:=T.obj _ _ st5 b hb;exact (I7.pin (b,o) (Zw _ (Zw _ (fK hb e)))).2.1
  cases f with
  | next=>obtain ⟨Z7,H7,I7,n7⟩:=q7;exact again I7 n7
  | cont=>obtain ⟨Z7,H7,I7,n7⟩:=q7;exact again I7 n7
  | brk=>obtain ⟨Z7,H7,I7,q7⟩:=q7;exact ⟨Z7,H7,I7.unpinned,q7⟩
  | ret v=>obtain ⟨x7,Z7,H7,I7,r7,q7⟩:=q7;exact ⟨x7,Z7,H7,I7.unpinned,r7,q7⟩
end
theorem yK {K:W.Frag} {g:TG} {D:Ends} (Pv:Nat->St->Hp->Prop) (h0:Pv 0 Z H) (hl: ∀i Z H,i<=xs.length->Pv i Z H->SqL K H a xs)
  (hs: ∀i x Z H,xs[i]? =some x->Pv i Z H->g x Z H λ Z2 H2=>tb { D with nx:=Pv (i+1),ct:=Pv (i+1),bk:=D.nx } Z2 H2) (hd: ∀Z H,Pv xs.length Z H->D.nx Z H):
  ∃W:Nat->Nat->St->Hp->Prop,(∃m,W 0 m Z H)/\ ∀i m Z H,W i m Z H->
   ((Er K a).stop i H/\D.nx Z H)\/((Er K a).go i H/\ ∃N:St->Hp->Prop,(∀Z' H',N Z' H'-> ∃m',m'<m/\W (i+1) m' Z' H')/\ ∀x H',(Er K a).yld i H x H'->g x Z H' λ Z2 H2=>tb { D with nx:=N,ct:=N,bk:=D.nx } Z2 H2):=by
 refine ⟨λ i m Z H=>m=xs.length-i/\i<=xs.length/\Pv i Z H,⟨xs.length,by simp,Yz _,h0⟩,?_⟩;rintro i m Z H ⟨rfl,hi,p⟩;have q:=hl i Z H hi p;by_cases hlt:i<xs.length
 .refine .inr ⟨⟨xs,xs[i],q,by simp [hlt]⟩,Pv (i+1),λ Z' H' p'=>⟨xs.length-(i+1),by rfl',rfl,hlt,p'⟩,λ x H' y=> ?_⟩;obtain ⟨e,y⟩:=y;subst e;exact hs i x Z _ (y xs q) p
 .have e:i=xs.length:=by rfl'
  subst e;exact .inl ⟨⟨xs,q,Zk _⟩,hd Z H p⟩
theorem Et {K:W.Frag} {g:TG} {D:Ends} (Pv:Nat->St->Hp->Prop) (h0:Pv 0 Z H) (hl: ∀i Z H,i<=xs.length->Pv i Z H->SqT K H a xs)
  (hs: ∀i x Z H,xs[i]? =some x->Pv i Z H->g x Z H λ Z2 H2=>tb { D with nx:=Pv (i+1),ct:=Pv (i+1),bk:=D.nx } Z2 H2) (hd: ∀Z H,Pv xs.length Z H->D.nx Z H):
  ∃W:Nat->Nat->St->Hp->Prop,(∃m,W 0 m Z H)/\ ∀i m Z H,W i m Z H->
   ((Ol K a).stop i H/\D.nx Z H)\/((Ol K a).go i H/\ ∃N:St->Hp->Prop,(∀Z' H',N Z' H'-> ∃m',m'<m/\W (i+1) m' Z' H')/\ ∀x H',(Ol K a).yld i H x H'->g x Z H' λ Z2 H2=>tb { D with nx:=N,ct:=N,bk:=D.nx } Z2 H2):=by
 refine ⟨λ i m Z H=>m=xs.length-i/\i<=xs.length/\Pv i Z H,⟨xs.length,by simp,Yz _,h0⟩,?_⟩;rintro i m Z H ⟨rfl,hi,p⟩;have q:=hl i Z H hi p;by_cases hlt:i<xs.length
 .refine .inr ⟨⟨xs,xs[i],q,by simp [hlt]⟩,Pv (i+1),λ Z' H' p'=>⟨xs.length-(i+1),by rfl',rfl,hlt,p'⟩,λ x H' y=> ?_⟩;obtain ⟨e,y⟩:=y;subst e;exact hs i x Z _ (y xs q) p
 .have e:i=xs.length:=by rfl'
  subst e;exact .inl ⟨⟨xs,q,Zk _⟩,hd Z H p⟩
theorem wX {g:TG} {D:Ends} (Pv:Nat->St->Hp->Prop) (h0:Pv 0 Z H)
  (hs: ∀i Z H,i<n->Pv i Z H->g (.int (lo+i)) Z H λ Z2 H2=>tb { D with nx:=Pv (i+1),ct:=Pv (i+1),bk:=D.nx } Z2 H2) (hd: ∀Z H,Pv n Z H->D.nx Z H):
  ∃W:Nat->Nat->St->Hp->Prop,(∃m,W 0 m Z H)/\ ∀i m Z H,W i m Z H->
   ((wU lo n).stop i H/\D.nx Z H)\/((wU lo n).go i H/\ ∃N:St->Hp->Prop,(∀Z' H',N Z' H'-> ∃m',m'<m/\W (i+1) m' Z' H')/\ ∀x H',(wU lo n).yld i H x H'->g x Z H' λ Z2 H2=>tb { D with nx:=N,ct:=N,bk:=D.nx } Z2 H2):=by
 refine ⟨λ i m Z H=>m=n-i/\i<=n/\Pv i Z H,⟨n,by simp,Yz _,h0⟩,?_⟩;rintro i m Z H ⟨rfl,hi,p⟩;by_cases hlt:i<n
 .refine .inr ⟨hlt,Pv (i+1),λ Z' H' p'=>⟨n-(i+1),by rfl',rfl,hlt,p'⟩,λ x H' y=> ?_⟩;obtain ⟨e,y⟩:=y;subst e y;exact hs i Z _ hlt p
 .have e:i=n:=by rfl'
  subst e;exact .inl ⟨Nat.le_refl _,hd Z H p⟩
theorem qu {c:TT} {D:Ends} (Pv:St->Hp->Prop) (μ:St->Hp->Nat) (h0:Pv Z H)
  (hs: ∀Z H,Pv Z H->c Z H λ b H1=>if b=true then tb { D with nx:=λ Z' H'=>Pv Z' H'/\μ Z' H'<μ Z H,ct:=λ Z' H'=>Pv Z' H'/\μ Z' H'<μ Z H,bk:=D.nx } Z H1 else D.nx Z H1)
  (mono: ∀Z H Q Q',(∀b H1,Q b H1->Q' b H1)->c Z H Q->c Z H Q'):eF c tb D Z H:=by
 refine ⟨λ m Z H=>m=μ Z H/\Pv Z H,⟨_,rfl,h0⟩,?_⟩;rintro m Z H ⟨rfl,p⟩;refine mono Z H _ _ (λ b H1 q=> ?_) (hs Z H p)
 cases b with
 | true=>exact ⟨_,λ Z' H' ⟨p',l⟩=>⟨_,l,rfl,p'⟩,q⟩
 | false=>exact q
abbrev R2:=V->V->Hp->VK->Prop
def ir (X:Cx) (f:Value->Value->Sem Value) (r:R2):Prop:=
 ∀ (pins:List (Addr×Obj)) (s:Shared) (Z:St) (H:Hp) (x y:V) (v u:Value) (Q:VK),Inv X pins Z H s->RelV x v->RelV y u->r x y H Q->
  wpAny (model X.prog X.w) X.A (f v u) (EP X pins Z Q) X.xe s
def bH (X:Cx) (f:Value) (r:List V->Hp->VK->Prop):Prop:=
 ∀ (pins:List (Addr×Obj)) (s:Shared) (Z:St) (H:Hp) (xs:List V) (us:List Value) (Q:VK),Inv X pins Z H s->Vals xs us->r xs H Q->
  wpAny (model X.prog X.w) X.A (call f us) (EP X pins Z Q) X.xe s
def Tr (X:Cx) (r:V->Hp->(Bool->Hp->Prop)->Prop):Prop:=
 ∀ (pins:List (Addr×Obj)) (s:Shared) (Z:St) (H:Hp) (x:V) (v:Value) (Q:Bool->Hp->Prop),Inv X pins Z H s->RelV x v->r x H Q->
  wpAny (model X.prog X.w) X.A (truthy v) (TP X pins Z Q) X.xe s
def aH (r:R2) (ta tb:TE):TE:=λ Z H Q=>ta Z H λ x H1=>tb Z H1 λ y H2=>r x y H2 Q
def VN (r:V->Hp->VK->Prop) (ta:TE):TE:=λ Z H Q=>ta Z H λ x H1=>r x H1 Q
def rI (C:Int->Int->Prop) (g:Int->Int->V):R2:=λ x y H Q=> ∃i j,x= .int i/\y= .int j/\C i j/\Q (g i j) H
def qe (g:Int->Int->V):R2:=λ x y H Q=> ∃i j,x= .int i/\y= .int j/\Q (g i j) H
def rU (g:Int->V):V->Hp->VK->Prop:=λ x H Q=> ∃i,x= .int i/\Q (g i) H
section
variable {X:Cx} {a b c:Expr} {ta tb tc:TE} {pos:Pos}
theorem Jt (ha:PE X a ta) (hb:PE X b tb) {s:Shared} (I:Inv X pins Z H s)
  (h:ta Z H λ x H1=>tb Z H1 λ y H2=>R x y H2)
  (hf: ∀v u s2 x y H2,Inv X pins Z H2 s2->RelV x v->RelV y u->R x y H2->wpAny (model X.prog X.w) X.A (f v u) Q X.xe s2):
  wpAny (model X.prog X.w) X.A (eval a X.env) (λ v s₁=>wpAny (model X.prog X.w) X.A (eval b X.env) (λ u s₂=>wpAny (model X.prog X.w) X.A (f v u) Q X.xe s₂) X.xe s₁) X.xe s:=by
 refine bB (ha pins s Z H _ I h) λ v s1 ⟨x,H1,I1,r1,q1⟩=> ?_
 refine bB (hb pins s1 Z H1 _ I1 q1) λ u s2 ⟨y,H2,I2,r2,q2⟩=> ?_
 exact hf v u s2 x y H2 I2 r1 r2 q2
theorem aD {op:Operator} {r:R2} (ho:ir X (binaryOp op) r) (ha:PE X a ta) (hb:PE X b tb):PE X (.BinOp a op b pos) (aH r ta tb):=by
 intro pins s Z H Q I h;exact wpAny_BinOp (Jt ha hb I h λ v u s2 x y H2 I2 rx ry q=>ho pins s2 Z H2 x y v u Q I2 rx ry q)
theorem Ju
  (rule: ∀ (i j:Int) (t u:Tok) (s:Shared) (Q:Value->Shared->Prop) (E:Value->Shared->Prop),C i j->Q (.int (g i j) s.toks) { s with toks:=s.toks+1 }->wpAny (model X.prog X.w) X.A (f (.int i t) (.int j u)) Q E s):
  ir X f (rI C λ i j=> .int (g i j)):=by
 intro pins s Z H x y v u Q I rx ry h;obtain ⟨i,j,rfl,rfl,hc,q⟩:=h;obtain ⟨t,rfl⟩:=rx;obtain ⟨t',rfl⟩:=ry;exact rule i j t t' s _ _ hc ⟨.int (g i j),H,I.tok _,⟨_,rfl⟩,q⟩
theorem Eu
  (rule: ∀ (i j:Int) (t u:Tok) (s:Shared) (Q:Value->Shared->Prop) (E:Value->Shared->Prop),Q (.int (g i j) s.toks) { s with toks:=s.toks+1 }->wpAny (model X.prog X.w) X.A (f (.int i t) (.int j u)) Q E s):
  ir X f (qe λ i j=> .int (g i j)):=by
 intro pins s Z H x y v u Q I rx ry h;obtain ⟨i,j,rfl,rfl,q⟩:=h;obtain ⟨t,rfl⟩:=rx;obtain ⟨t',rfl⟩:=ry;exact rule i j t t' s _ _ ⟨.int (g i j),H,I.tok _,⟨_,rfl⟩,q⟩
theorem Jv {g:Int->Int->Bool}
  (rule: ∀ (i j:Int) (t u:Tok) (s:Shared) (Q:Value->Shared->Prop) (E:Value->Shared->Prop),Q (.bool (g i j)) s->wpAny (model X.prog X.w) X.A (f (.int i t) (.int j u)) Q E s):
  ir X f (qe λ i j=> .bl (g i j)):=by
 intro pins s Z H x y v u Q I rx ry h;obtain ⟨i,j,rfl,rfl,q⟩:=h;obtain ⟨t,rfl⟩:=rx;obtain ⟨t',rfl⟩:=ry;exact rule i j t t' s _ _ ⟨.bl (g i j),H,I,rfl,q⟩
def Pa (i j:Int):Prop:=0<j/\j<1073741824
def Ew (i j:Int):Prop:=0<=j/\j<=1000000/\i.natAbs<2^64
def CMul (i j:Int):Prop:=(-(2^64)<i/\i<2^64)\/(-(2^64)<j/\j<2^64)
theorem CMul.ok {i j:Int} (h:CMul i j):IntMulOk i j:=by
 rcases h with ⟨h1,h2⟩ | ⟨h1,h2⟩
 .exact .of_left (intBits_le_64 h1 h2)
 .exact .of_right (intBits_le_64 h1 h2)
theorem bK:ir X (binaryOp .Add) (qe λ i j=> .int (i+j)):=Eu λ _ _ _ _ _ _ _ q=>add_int q
theorem fL:ir X (binaryOp .Sub) (qe λ i j=> .int (i-j)):=Eu λ _ _ _ _ _ _ _ q=>sub_int q
theorem iJ:ir X (binaryOp .Mult) (rI CMul λ i j=> .int (i*j)):=Ju λ _ _ _ _ _ _ _ hc q=>mul_int q hc.ok
theorem bf:ir X (binaryOp .FloorDiv) (rI Pa λ i j=> .int (i / j)):=Ju λ i j _ _ _ _ _ hc q=>by
 have h1:(0:Int)<j:=hc.1;have h2:j<1073741824:=hc.2;exact floordiv_int (by rfl') (by rw [Int.fdiv_eq_ediv_of_nonneg i (by rfl')];exact q) (.inl (PyProof.noPylong_small (by rfl')))
theorem bh:ir X (binaryOp .Mod) (rI (λ _ j=>0<j) λ i j=> .int (i%j)):=Ju λ i j _ _ _ _ _ hc q=>by
 have h1:(0:Int)<j:=hc;exact mod_int' (by rfl') (by rw [Int.fmod_eq_emod_of_nonneg i (by rfl')];exact q)
theorem yL:ir X (binaryOp .Pow) (rI Ew λ i j=> .int (i^j.toNat)):=Ju λ _ _ _ _ _ _ _ hc q=>pow_int_small hc.1 hc.2.1 hc.2.2 q
theorem oE:ir X (binaryOp .LShift) (rI Ew λ i j=> .int (i*2^j.toNat)):=Ju λ _ _ _ _ _ _ _ hc q=>lshift_int_small hc.1 hc.2.1 hc.2.2 q
theorem Jw:ir X (binaryOp .BitAnd) (qe λ i j=> .int (Builtin.bitAnd i j)):=Eu λ _ _ _ _ _ _ _ q=>and_int q
theorem yM:ir X (binaryOp .BitXor) (qe λ i j=> .int (Builtin.bitXor i j)):=Eu λ _ _ _ _ _ _ _ q=>xor_int q
end
def Pb:V->V->Bool
 | .non, .non=>true | .non, .int _=>true | .int _, .non=>true | .non, .bl _=>true | .bl _, .non=>true | .non, .str _=>true | .str _, .non=>true
 | .int _, .int _=>true | .bl _, .bl _=>true | .str _, .str _=>true | .byt _, .byt _=>true
 | .int _, .str _=>true | .str _, .int _=>true | .bl _, .str _=>true | .str _, .bl _=>true
 | _,_=>false
def qw:R2:=λ x y H Q=>Pb x y=true/\Q (.bl (decide (x=y))) H
def Jx:R2:=λ x y H Q=>Pb x y=true/\Q (.bl (!decide (x=y))) H
theorem vC {i j:Int}:decide (V.int i=V.int j)=(i==j):=by
 rw [Bool.eq_iff_iff];simp
theorem yN {i j:Bool}:decide (V.bl i=V.bl j)=(i==j):=by
 rw [Bool.eq_iff_iff];simp
theorem vD {i j:Str}:decide (V.str i=V.str j)=(i==j):=by
 rw [Bool.eq_iff_iff];simp
theorem vG {i j:Array UInt8}:decide (V.byt i=V.byt j)=(i.toList==j.toList):=by
 rw [Bool.eq_iff_iff]
 cases i
 cases j;simp
section
variable {X:Cx} {a b c:Expr} {ta tb tc:TE} {pos:Pos}
theorem b7 {s:Shared} {Q:VK} {k k':Bool} (I:Inv X pins Z H s) (q:Q (.bl k) H) (e:k=k'):EP X pins Z Q (.bool k') s:=by
 subst e;exact ⟨.bl k,H,I,rfl,q⟩
theorem eN:ir X (compareOp .Eq) qw:=by
 intro pins s Z H x y v u Q I rx ry h;obtain ⟨hs,q⟩:=h
 cases x with
 | non=>
  cases rx
  cases y with
  | non=>cases ry;exact PySem.EqNone.eq_none_none (b7 I q (by simp))
  | bl j=>cases ry;exact PySem.EqNone.eq_none_bool (b7 I q (by simp))
  | int j=>obtain ⟨t',rfl⟩:=ry;exact PySem.EqNone.eq_none_int (b7 I q (by simp))
  | str j=>obtain ⟨t',rfl⟩:=ry;exact PySem.EqNone.eq_none_str (b7 I q (by simp))
  | _=>exact absurd (show false=true from hs) Zr
 | bl i=>
  cases rx
  cases y with
  | non=>cases ry;exact PySem.EqNone.eq_bool_none (b7 I q (by simp))
  | bl j=>cases ry;exact eq_bool (b7 I q yN)
  | str j=>obtain ⟨t',rfl⟩:=ry;exact PySem.EqMixed.eq_bool_str (b7 I q (by simp))
  | _=>exact absurd (show false=true from hs) Zr
 | int i=>
  obtain ⟨t,rfl⟩:=rx
  cases y with
  | non=>cases ry;exact PySem.EqNone.eq_int_none (b7 I q (by simp))
  | int j=>obtain ⟨t',rfl⟩:=ry;exact eq_int (b7 I q vC)
  | str j=>obtain ⟨t',rfl⟩:=ry;exact PySem.EqMixed.eq_int_str (b7 I q (by simp))
  | _=>exact absurd (show false=true from hs) Zr
 | str i=>
  obtain ⟨t,rfl⟩:=rx
  cases y with
  | non=>cases ry;exact PySem.EqNone.eq_str_none (b7 I q (by simp))
  | bl j=>cases ry;exact PySem.EqMixed.eq_str_bool (b7 I q (by simp))
  | int j=>obtain ⟨t',rfl⟩:=ry;exact PySem.EqMixed.eq_str_int (b7 I q (by simp))
  | str j=>obtain ⟨t',rfl⟩:=ry;exact eq_str (b7 I q vD)
  | _=>exact absurd (show false=true from hs) Zr
 | byt i=>
  obtain ⟨t,rfl⟩:=rx
  cases y with
  | byt j=>obtain ⟨t',rfl⟩:=ry;exact PySem.W.eq_bytes (b7 I q vG)
  | _=>exact absurd (show false=true from hs) Zr
 | _=>cases y<;>exact absurd (show false=true from hs) Zr
theorem vH:ir X (compareOp .NotEq) Jx:=by
 intro pins s Z H x y v u Q I rx ry h;obtain ⟨hs,q⟩:=h
 cases x with
 | non=>
  cases rx
  cases y with
  | non=>cases ry;exact PySem.EqNone.ne_none_none (b7 I q (by simp))
  | bl j=>cases ry;exact PySem.EqNone.ne_none_bool (b7 I q (by simp))
  | int j=>obtain ⟨t',rfl⟩:=ry;exact PySem.EqNone.ne_none_int (b7 I q (by simp))
  | str j=>obtain ⟨t',rfl⟩:=ry;exact PySem.EqNone.ne_none_str (b7 I q (by simp))
  | _=>exact absurd (show false=true from hs) Zr
 | bl i=>
  cases rx
  cases y with
  | non=>cases ry;exact PySem.EqNone.ne_bool_none (b7 I q (by simp))
  | bl j=>cases ry;exact ne_bool (b7 I q (Yt not yN))
  | str j=>obtain ⟨t',rfl⟩:=ry;exact PySem.EqMixed.ne_bool_str (b7 I q (by simp))
  | _=>exact absurd (show false=true from hs) Zr
 | int i=>
  obtain ⟨t,rfl⟩:=rx
  cases y with
  | non=>cases ry;exact PySem.EqNone.ne_int_none (b7 I q (by simp))
  | int j=>obtain ⟨t',rfl⟩:=ry;exact ne_int (b7 I q (Yt not vC))
  | str j=>obtain ⟨t',rfl⟩:=ry;exact PySem.EqMixed.ne_int_str (b7 I q (by simp))
  | _=>exact absurd (show false=true from hs) Zr
 | str i=>
  obtain ⟨t,rfl⟩:=rx
  cases y with
  | non=>cases ry;exact PySem.EqNone.ne_str_none (b7 I q (by simp))
  | bl j=>cases ry;exact PySem.EqMixed.ne_str_bool (b7 I q (by simp))
  | int j=>obtain ⟨t',rfl⟩:=ry;exact PySem.EqMixed.ne_str_int (b7 I q (by simp))
  | str j=>obtain ⟨t',rfl⟩:=ry;exact ne_str (b7 I q (Yt not vD))
  | _=>exact absurd (show false=true from hs) Zr
 | byt i=>
  obtain ⟨t,rfl⟩:=rx
  cases y with
  | byt j=>obtain ⟨t',rfl⟩:=ry;exact PySem.W.ne_bytes (b7 I q (Yt not vG))
  | _=>exact absurd (show false=true from hs) Zr
 | _=>cases y<;>exact absurd (show false=true from hs) Zr
theorem yO:ir X (compareOp .Lt) (qe λ i j=> .bl (decide (i<j))):=Jv λ _ _ _ _ _ _ _ q=>lt_int q
theorem Ih:ir X (compareOp .LtE) (qe λ i j=> .bl (decide (i<=j))):=Jv λ _ _ _ _ _ _ _ q=>le_int q
theorem gm:ir X (compareOp .Gt) (qe λ i j=> .bl (decide (j<i))):=Jv λ _ _ _ _ _ _ _ q=>gt_int q
theorem yP:ir X (compareOp .Is) (λ x y H Q=>y= .non/\Q (.bl (decide (x= .non))) H):=by
 intro pins s Z H x y v u Q I rx ry h;obtain ⟨rfl,q⟩:=h
 cases ry;refine is_none_gen (b7 I q ?_)
 cases x<;>first
  | (cases rx;rfl)
  | (obtain ⟨t,rfl⟩:=rx;rfl)
theorem aQ (b:Expr) (h:op≠ .In:=by decide) (h2:op≠ .NotIn:=by decide):behindInMarks op b=false:=by
 have e1:(op==CmpOp.In)=false:=by cases op<;>first | rfl | exact absurd rfl h
 have e2:(op==CmpOp.NotIn)=false:=by cases op<;>first | rfl | exact absurd rfl h2
 cases b<;>simp [behindInMarks,e1,e2]
theorem dj {r:R2} (ho:ir X (compareOp op) r) (ha:PE X a ta) (hb:PE X b tb) (hm:behindInMarks op b=false):PE X (.Compare a [op] [b] pos) (aH r ta tb):=by
 intro pins s Z H Q I h;exact wpAny_Compare1 (Jt ha hb I h λ v u s2 x y H2 I2 rx ry q=>ho pins s2 Z H2 x y v u Q I2 rx ry q) hm
def aY (t:TE):TT:=λ Z H Q=>t Z H λ x H'=> ∃k,x= .bl k/\Q k H'
theorem aM {r:R2} (ho:ir X (compareOp op) r) (ha:PE X a ta) (hb:PE X b tb) (hm:behindInMarks op b=false):PT X (.Compare a [op] [b] pos) (aY (aH r ta tb)):=by
 intro pins s Z H Q I h;refine wpAny_isTrue_Compare1 (bB (ha pins s Z H _ I h) λ v s1 ⟨x,H1,I1,r1,q1⟩=>bB (hb pins s1 Z H1 _ I1 q1) λ u s2 ⟨y,H2,I2,r2,q2⟩=>
  bB (ho pins s2 Z H2 x y v u _ I2 r1 r2 q2) λ c s3 ⟨z,H3,I3,r3,k,e,q3⟩=> ?_) hm
 subst e
 cases r3;exact wpAny_truthy_bool ⟨H3,I3,q3⟩
def Tt (r r':R2) (ta tb tc:TE):TE:=λ Z H Q=>ta Z H λ x H1=>tb Z H1 λ y H2=>r x y H2 λ z H3=> ∃k,z= .bl k/\
 (if k=true then tc Z H3 λ w' H4=>r' y w' H4 Q else Q (.bl false) H3)
def yQ (K:W.Frag) (x:V) (H:Hp) (k:Bool):Prop:=
 match x with
 | .non=>k=false
 | .bl b=>k=b
 | .int i=>k=(i !=0)
 | .str y=>y.length<=sizeLine/\k=((y.length:Int)!=0)
 | .byt y=>y.size<=sizeLine/\k=((y.size:Int)!=0)
 | .ref p=>(∃xs,SqL K H p xs/\k= !xs.isEmpty)\/(∃xs,SqT K H p xs/\k= !xs.isEmpty)\/ ∃kvs,H p=some (.dK kvs)/\k= !kvs.isEmpty
 | _=>False
theorem t6 {κ:Type} {kvs:List (κ×V)} {vs:List (κ×Value)} (r:KV kvs vs):(!vs.isEmpty)= !kvs.isEmpty:=by
 cases r<;>rfl
theorem km (r:Vals xs its):(!its.toArray.isEmpty)= !xs.isEmpty:=by
 cases r<;>simp
theorem jj:(sizeLine:Nat)<2^63:=by rw [sizeLine_eq];decide
theorem Jy:Tr X (λ x H Q=> ∃k,yQ X.K x H k/\Q k H):=by
 intro pins s Z H x v Q I rx h;obtain ⟨k,e,q⟩:=h;have hl:=jj;have hs:sizeLine=16777216:=sizeLine_eq
 cases x with
 | non=>
  cases rx;have e':k=false:=e;subst e';exact truthy_none ⟨H,I,q⟩
 | bl b=>
  cases rx;have e':k=b:=e;subst e';exact wpAny_truthy_bool ⟨H,I,q⟩
 | int i=>
  obtain ⟨t,rfl⟩:=rx;have e':k=(i !=0):=e;subst e';exact PySem.P.truthy_int ⟨H,I,q⟩
 | str y=>
  obtain ⟨t,rfl⟩:=rx;obtain ⟨hy,e'⟩:y.length<=sizeLine/\k=((y.length:Int)!=0):=e;subst e';exact PySem.P.truthy_str (by rfl') ⟨H,I.tok _,q⟩
 | byt y=>
  obtain ⟨t,rfl⟩:=rx;obtain ⟨hy,e'⟩:y.size<=sizeLine/\k=((y.size:Int)!=0):=e;subst e';exact PySem.W.truthy_bytes (by rfl') ⟨H,I.tok _,q⟩
 | ref p=>
  cases rx;have e':(∃xs,SqL X.K H p xs/\k= !xs.isEmpty)\/(∃xs,SqT X.K H p xs/\k= !xs.isEmpty)\/ ∃kvs,H p=some (.dK kvs)/\k= !kvs.isEmpty:=e;rcases e' with ⟨xs,hx,e'⟩ | ⟨xs,hx,e'⟩ | ⟨kvs,hx,e'⟩
  .subst e';obtain ⟨its,r,pl,hz⟩:=I.list hx;have hlen:=r.length;exact wpAny_truthy_list pl.isList (by simp only [Zu];rfl') ⟨H,I.tok _,by rw [km r];exact q⟩
  .subst e';obtain ⟨its,r,pl,hz⟩:=I.tuple hx;have hlen:=r.length;exact truthy_tuple pl (by simp only [Zu];rfl') ⟨H,I.tok _,by rw [km r];exact q⟩
  .subst e';obtain ⟨hz,hS,vs,r,m⟩:kvs.length<=sizeLine/\(p==sysModules)=false/\ ∃vs,KV kvs vs/\s.heap.DictOf (bD X.prog X.w) p vs:=I.hok p _ hx;have hlen:kvs.length=vs.length:=Wp r;exact wpAny_truthy_dict hS m (by rfl') ⟨H,I.tok _,by rw [t6 r];exact q⟩
 | _=>exact (show False from e).elim
theorem yR (ha:PE X a ta) (he: ∀whole,isTrue a X.env whole=(do let v <- whole;standAt a.pos;holding [v] (truthy v))):
  PT X a (λ Z H Q=>ta Z H λ x H'=> ∃k,yQ X.K x H' k/\Q k H'):=by
 intro pins s Z H Q I h;exact isTrue_plain (bB (ha pins s Z H _ I h) λ v s1 ⟨x,H1,I1,r1,q1⟩=>Jy pins s1 Z H1 x v Q I1 r1 q1) (he _)
theorem d7:ir X (binaryOp .Add) (λ x y H Q=> ∃i j,x= .str i/\y= .str j/\i.length+j.length<=sizeLine/\Q (.str (i++j)) H):=by
 intro pins s Z H x y v u Q I rx ry h;obtain ⟨i,j,rfl,rfl,hz,q⟩:=h;obtain ⟨t,rfl⟩:=rx;obtain ⟨t',rfl⟩:=ry;exact add_str (λ t' tk=>⟨.str (i++j),H,I.tok _,⟨_,rfl⟩,q⟩) hz
theorem vals1 {x:V} (r:Vals [x] us): ∃u,us=[u]/\RelV x u:=by
 cases r with
 | cons r1 r2=>cases r2;exact ⟨_,rfl,r1⟩
theorem vals2 {x:V} (r:Vals [x,y] us): ∃u w',us=[u,w']/\RelV x u/\RelV y w':=by
 cases r with
 | cons r1 r2=>
  cases r2 with
  | cons r3 r4=>cases r4;exact ⟨_,_,rfl,r1,r3⟩
theorem fu (hc:X.calm=true):bH X (.builtin "min") (λ xs H Q=> ∃i j,xs=[.int i, .int j]/\Q (.int (if j<i then j else i)) H):=by
 intro pins s Z H xs us Q I r h;obtain ⟨i,j,rfl,q⟩:=h;obtain ⟨u,w',rfl,⟨t,rfl⟩,⟨t',rfl⟩⟩:=vals2 r;refine min_two_ints (I.ok.hd hc) λ h' tk k=>⟨_,H,I.kept k,?_,q⟩
 by_cases hj:j<i
 .rw [if_pos hj,if_pos hj];exact ⟨_,rfl⟩
 .rw [if_neg hj,if_neg hj];exact ⟨_,rfl⟩
theorem wY:bH X (.type "int") (λ xs H Q=>(∃i,xs=[.int i]/\Q (.int i) H)\/ ∃k,xs=[.bl k]/\Q (.int (if k then 1 else 0)) H):=by
 intro pins s Z H xs us Q I r h;rcases h with ⟨i,rfl,q⟩ | ⟨k,rfl,q⟩
 .obtain ⟨u,rfl,t,rfl⟩:=vals1 r;exact call_int_int ⟨.int i,H,I,⟨_,rfl⟩,q⟩
 .obtain ⟨u,rfl,r1⟩:=vals1 r
  cases r1;exact call_int_bool ⟨.int (if k then 1 else 0),H,I.tok _,⟨_,rfl⟩,q⟩
def Ph (K:W.Frag) (x:V) (H:Hp) (n:Nat):Prop:=
 match x with
 | .str y=>y.length<=sizeLine/\n=y.length
 | .byt y=>y.size<=sizeLine/\n=y.size
 | .ref p=>(∃xs,SqL K H p xs/\n=xs.length)\/ ∃xs,SqT K H p xs/\n=xs.length
 | _=>False
theorem yS:bH X (.builtin "len") (λ xs H Q=> ∃x n,xs=[x]/\Ph X.K x H n/\Q (.int n) H):=by
 intro pins s Z H xs us Q I r h;obtain ⟨x,n,rfl,e,q⟩:=h;obtain ⟨u,rfl,rx⟩:=vals1 r;have hl:=jj;have hs:sizeLine=16777216:=sizeLine_eq
 cases x with
 | str y=>
  obtain ⟨t,rfl⟩:=rx;obtain ⟨hy,e'⟩:y.length<=sizeLine/\n=y.length:=e;subst e';exact len_str (by rfl') ⟨.int _,H,I.tok _,⟨_,rfl⟩,q⟩
 | byt y=>
  obtain ⟨t,rfl⟩:=rx;obtain ⟨hy,e'⟩:y.size<=sizeLine/\n=y.size:=e;subst e';exact PySem.W.len_bytes (by rfl') ⟨.int _,H,I.tok _,⟨_,rfl⟩,q⟩
 | ref p=>
  cases rx;have e':(∃xs,SqL X.K H p xs/\n=xs.length)\/ ∃xs,SqT X.K H p xs/\n=xs.length:=e;rcases e' with ⟨xs,hx,e'⟩ | ⟨xs,hx,e'⟩
  .subst e';obtain ⟨its,r',pl,hz⟩:=I.list hx;have hlen:=r'.length;exact Calls.call_len_list pl.isList (by simp only [Zu];rfl') ⟨.int xs.length,H,I.tok _,⟨_,by simp only [Zu];rw [hlen]⟩,q⟩
  .subst e';obtain ⟨its,r',pl,hz⟩:=I.tuple hx;have hlen:=r'.length;exact len_tuple pl (by simp only [Zu];rfl') ⟨.int xs.length,H,I.tok _,⟨_,by simp only [Zu];rw [hlen]⟩,q⟩
 | _=>exact (show False from e).elim
end
structure ObjM (h:Heap) (x dx C:Addr) (mA:Str->Option Value):Prop where
 obj:h.get? x=some (PySem.W.instObj C dx)
 ns:h.Ns1 dx mA
 ne:dx≠x
theorem wZ {h:Heap} (n:h.Ns1 dx mA): ∃od,h.get? dx=some od/\ ∀name,PySem.W.lookIn name od=some (mA name):=by
 obtain ⟨o,es,ep,ho,hd,hk,_,hm⟩:=n;refine ⟨o,ho,λ name=> ?_⟩;have e:=hm name;unfold nsFind findBy at e;rw [<- Array.find?_toList] at e;unfold PySem.W.lookIn;rw [hd];dsimp only;split
 .rename_i y q;rw [q] at e;exact Yt some e
 .rename_i q;rw [q] at e;have a:es.toList.any (·.refKey)=false:=by
   rw [List.any_eq_false];intro y hy;obtain ⟨z,t,hkey⟩:=hk y (Array.mem_toList_iff.mp hy);simp [DictEntry.refKey,hkey]
  have a': ¬es.toList.any (·.refKey)=true:=by rw [a];exact Zr
  rw [if_neg a'];exact Yt some e
theorem ObjM.look {h:Heap} {x C:Addr} (I:ObjM h x dx C mA): ∃od,PySem.W.InstAt h x (PySem.W.instObj C dx) C (some od)/\ ∀name,PySem.W.lookIn name od=some (mA name):=
 let ⟨od,ho,hl⟩:=wZ I.ns
 ⟨od,⟨I.obj,rfl,rfl,ho⟩,hl⟩
theorem RelO.some_of {o:Option Value} (r:RelO (some v) o): ∃u,o=some u/\RelV v u:=by
 cases o with
 | none=>exact (show False from r).elim
 | some u=>exact ⟨u,rfl,r⟩
section
variable {P:Program} {w:World} {H H':Hp} {h h':Heap} {a C dx:Addr} {fs fs':List (Str×V)}
theorem Ex (hok:HOk P w H h) (e:H a=some (.ins C dx fs)): ∃mA,ObjM h a dx C mA/\(∀f,RelO (fs.lookup f) (mA f))/\PySem.Within mA (fs.map (·.1))/\fs.length<=1000/\H dx=some (.own a):=by
 obtain ⟨d,z,ne,ob,mA,n,r,q⟩:=(show ObjOk P w H h a (.ins C dx fs) from hok a _ e);exact ⟨mA,⟨ob,n,ne⟩,r,q,z,d⟩
end
structure Cls (K:W.Frag) (C:Addr):Prop where
 pg:PySem.W.plainGet K C Str.empty=true
 hd:PySem.W.hasDictIn K C=true
 po:PySem.W.plainOver K C=true
 sa:PySem.W.findIn K (.ref C) "__setattr__"=some (some (.builtin "object.__setattr__"))
theorem Cls.get {K:W.Frag} {C:Addr} (c:Cls K C) (f:Str):PySem.W.plainGet K C f=true:=c.pg
def Jz (K:W.Frag) (C:Addr) (f:Str):Prop:=PySem.W.findIn K (.ref C) f=some none
structure Con (K:W.Frag) (C:Addr) (f:Str) (v:V) (u:Value):Prop where
 at_:PySem.W.findIn K (.ref C) f=some (some u)
 rel:RelV v u
 get:PySem.W.specialIn K u "__get__"=some none
 cp:PySem.W.copiedNames.contains f=false
structure Meth (K:W.Frag) (C:Addr) (m:Str) (f:Addr):Prop where
 at_:PySem.W.findIn K (.ref C) m=some (some (.ref f))
 fn:PySem.W.isFn K (.ref f)=true
 kp:W.keepIn K (.ref f)=true
def Vt (K:W.Frag) (ta:TE) (f:Str):TE:=λ Z H Q=>ta Z H λ x H1=> ∃a C dx fs v,x= .ref a/\H1 a=some (.ins C dx fs)/\Cls K C/\Jz K C f/\fs.lookup f=some v/\Q v H1
section
variable {X:Cx} {pins:List (Addr×Obj)} {Z:St} {H:Hp} {s:Shared} {A:Around} {E:Value->Shared->Prop} {Q:Value->Shared->Prop} {c:Value} {b:Bool}
inductive TyOf (K:W.Frag) (H:Hp):V->Value->Prop where
 | non:TyOf K H .non (.type "NoneType")
 | bl (x:Bool):TyOf K H (.bl x) (.type "bool")
 | int (i:Int):TyOf K H (.int i) (.type "int")
 | str (x:Str):TyOf K H (.str x) (.type "str")
 | flt (x:UInt64):TyOf K H (.flt x) (.type "float")
 | lst {a:Addr} {xs:List V} (e:H a=some (.lst xs)):TyOf K H (.ref a) (.type "list")
 | frz {a:Addr} {o:Obj} {xs:List V} (e:H a=some (.frz o (.lst xs))):TyOf K H (.ref a) (.type "list")
 | tup {a:Addr} {xs:List V} (e:H a=some (.tup xs)):TyOf K H (.ref a) (.type "tuple")
 | dK {a:Addr} {kvs:List (Key×V)} (e:H a=some (.dK kvs)):TyOf K H (.ref a) (.type "dict")
 | dT {a:Addr} {kvs:List (List Key×V)} (e:H a=some (.dT kvs)):TyOf K H (.ref a) (.type "dict")
 | ins {a C dx:Addr} {fs:List (Str×V)} (e:H a=some (.ins C dx fs)) (cl:Cls K C) (ha:PySem.W.findIn K (.ref C) "__class__"=some (some (.builtin "object.__class__")))
   (hn:PySem.W.specialIn K (.builtin "object.__class__") "__get__"=some (some (.builtin "getset_descriptor.__get__"))) (htk:PySem.W.takesIn K (.builtin "object.__class__")=some true)
   (hm:PySem.W.mroIn K C (.type "object")=some true):TyOf K H (.ref a) (.ref C)
theorem xf {x:V} {t:Value} (I:Inv X pins Z H s) (rx:RelV x u) (ty:TyOf X.K H x t) (e:PySem.W.kitOne X.K t c=some b) (h: ∀tk,Q (.bool b) { s with toks:=tk }):
  wpAny (model X.prog X.w) A (call (.builtin "isinstance") [u,c]) Q E s:=by
 cases ty with
 | non=>cases (show u=Value.none from rx);exact Wq PySem.W.kitx_none I.kIn True.intro e (λ z=>nomatch z) h
 | bl y=>cases (show u=Value.bool y from rx);exact Wq PySem.W.kitx_bool I.kIn True.intro e (λ z=>nomatch z) h
 | int i=>obtain ⟨t,q⟩:=(show ∃t,u=Value.int i t from rx);cases q;exact Wq PySem.W.kitx_int I.kIn True.intro e (λ z=>nomatch z) h
 | str y=>obtain ⟨t,q⟩:=(show ∃t,u=Value.str y t from rx);cases q;exact Wq PySem.W.kitx_str I.kIn True.intro e (λ z=>nomatch z) h
 | flt y=>obtain ⟨t,q⟩:=(show ∃t,u=Value.float y t from rx);cases q;exact Wq PySem.W.kitx_float I.kIn True.intro e (λ z=>nomatch z) h
 | @lst a xs ea=>
  cases (show u=Value.ref a from rx);obtain ⟨_,_,n,_,h1⟩:=(show ObjOk X.prog X.w H s.heap a (.lst xs) from I.hok a _ ea);exact Wq PySem.W.kitx_list I.kIn ⟨_,h1,rfl⟩ e (λ z=>nomatch z) h
 | @frz a ob xs ea=>
  cases (show u=Value.ref a from rx);obtain ⟨_,_,_,n,_,h1⟩:=(show ObjOk X.prog X.w H s.heap a (.frz ob (.lst xs)) from I.hok a _ ea);exact Wq PySem.W.kitx_list I.kIn ⟨_,h1,rfl⟩ e (λ z=>nomatch z) h
 | @tup a xs ea=>
  cases (show u=Value.ref a from rx);obtain ⟨_,_,_,p⟩:=(show ObjOk X.prog X.w H s.heap a (.tup xs) from I.hok a _ ea);obtain ⟨o,h1,h2,_⟩:=p;exact Wq PySem.W.kitx_tuple I.kIn ⟨o,h1,h2⟩ e (λ z=>nomatch z) h
 | @dK a kvs ea=>
  cases (show u=Value.ref a from rx);obtain ⟨_,_,vs,_,p⟩:=(show ObjOk X.prog X.w H s.heap a (.dK kvs) from I.hok a _ ea);obtain ⟨o,es,ep,h1,h2,_⟩:=p;exact Wq PySem.W.kitx_dict I.kIn ⟨o,h1,h2.1⟩ e (λ z=>nomatch z) h
 | @dT a kvs ea=>
  cases (show u=Value.ref a from rx);obtain ⟨_,_,xs,_,o,es,ep,h1,h2,_⟩:=(show ObjOk X.prog X.w H s.heap a (.dT kvs) from I.hok a _ ea);exact Wq PySem.W.kitx_dict I.kIn ⟨o,h1,h2.1⟩ e (λ z=>nomatch z) h
 | @ins a C dx fs ea cl ha hn htk hm=>
  cases (show u=Value.ref a from rx);obtain ⟨mA,O,_⟩:=Ex I.hok ea;obtain ⟨od,J,_⟩:=O.look;exact Wq (PySem.W.kitx_own (cl.get _) cl.hd ha hn htk hm) I.kIn J e (λ z=>nomatch z) h
end
structure Room (k:Nat) (A:Around):Prop where
 hd:A.handled=none
 dp:A.depth+3*k+5<recursionLimit
 un:A.units+16*k+200<cLine
theorem Room.mono (r:Room k A) (h:j<=k):Room j A:=⟨r.hd,by have:=r.dp;rfl',by have:=r.un;rfl'⟩
theorem Room.deeper (r:Room (k+1) A) (env:Env):Room k (A.deeper env):=
 ⟨r.hd,by have:=r.dp;show A.depth+1+3*k+5<_;rfl',by have:=r.un;show A.units+3+16*k+200<_;rfl'⟩
theorem Room.depth (r:Room k A):A.depth<recursionLimit:=by have:=r.dp;rfl'
theorem Room.units (r:Room k A):A.units+64<cLine:=by have:=r.un;rfl'
def aC:TA:=λ _ H Q=>Q [] H
def ao (ta:TE) (tr:TA):TA:=λ Z H Q=>ta Z H λ x H1=>tr Z H1 λ xs H2=>Q (x::xs) H2
section
variable {X:Cx} {e:Expr} {es:List Expr} {te:TE} {t:TA} {pos:Pos}
theorem bW:PA X [] aC:=λ _ _ _ _ H Q I h=>Calls.spliced_nil ⟨[],H,I, .nil,h⟩
theorem fM (ha:PE X e te) (hr:PA X es t) (hs:starEach (e::es) X.env=(false,eval e X.env)::starEach es X.env:=by rfl):PA X (e::es) (ao te t):=by
 intro pos pins s Z H Q I h;rw [hs];show wpAny _ _ (spliced ((false,eval e X.env)::backTo pos (starEach es X.env))) _ _ s;refine Calls.spliced_cons (bB (ha pins s Z H _ I h) λ u s1 ⟨x,H1,I1,r1,q1⟩=> ?_);exact bB (hr pos pins s1 Z H1 _ I1 q1) λ us s2 ⟨xs,H2,I2,r2,q2⟩=>⟨x::xs,H2,I2, .cons r1 r2,q2⟩
def cO (t:TA):TE:=λ Z H Q=>t Z H λ xs H1=>xs.length<=sizeLine/\ ∀p,H1 p=none->Q (.ref p) (upd H1 p (.tup xs))
def cR (t:TA):TE:=λ Z H Q=>t Z H λ xs H1=>xs.length<=sizeLine/\ ∀p,H1 p=none->Q (.ref p) (upd H1 p (.lst xs))
theorem bj {x1} (h:PA X es t):PE X (.Tuple es x1 pos) (cO t):=by
 intro pins s Z H Q I hq;refine wpAny_Tuple_spliced (bB (h pos pins s Z H _ I hq) λ us s1 ⟨xs,H1,I1,r,z,q⟩=>⟨by rw [<- r.length];exact z,?_⟩);have hf:H1 s1.heap.objs.size=none:=I1.hok.fresh (Zk _);refine ⟨.ref s1.heap.objs.size,upd H1 s1.heap.objs.size (.tup xs),I1.laid (t':=s1.toks) (λ b u e=>Zf _ e) (Zk _) ?_,rfl,q _ hf⟩;exact ⟨z,us,r,⟨_,Zt _ rfl,rfl,_,rfl⟩⟩
theorem bu (h:PA X es t):PE X (.List es pos) (cR t):=by
 intro pins s Z H Q I hq;refine wpAny_List_spliced (bB (h pos pins s Z H _ I hq) λ us s1 ⟨xs,H1,I1,r,z,q⟩=>⟨by rw [<- r.length];exact z,?_⟩);have hf:H1 s1.heap.objs.size=none:=I1.hok.fresh (Zk _);refine ⟨.ref s1.heap.objs.size,upd H1 s1.heap.objs.size (.lst xs),I1.laid (t':=s1.toks) (λ b u e=>Zf _ e) (Zk _) ?_,rfl,q _ hf⟩;exact ⟨z,us,0,r,Zt _ rfl⟩
end
abbrev Sp:=List V->Hp->VK->XK->Prop
abbrev yq:=List Env->Hp->Shared->XK->Value->Shared->Prop
variable {CX:yq}
structure Env0 (P:Program) (w:World) (K:W.Frag) (mg:Str->Option Value) (base:Heap) (A:Around) (outer:List Env) (s:Shared) (H:Hp):Prop where
 frames:A.frames=some outer
 mod:Mod K mg base
 bs: ∀b o,base.get? b=some o->s.heap.get? b=some o/\H b=none
 bsz:base.objs.size<=s.heap.objs.size
 funs:s.heap.FunFrames base outer
 frf: ∀b∈frs outer,H b=none
 hok:HOk P w H s.heap
 bare:AllBare s.gens
def CE (outer:List Env) (P:Program) (w:World) (H:Hp) (s:Shared) (Q:VK) (u:Value) (s':Shared):Prop:=
 ∃v H',s'.os=s.os/\AllBare s'.gens/\Un (frs outer) [] H H' s.heap s'.heap/\HOk P w H' s'.heap/\RelV v u/\Q v H'
def CR (CX:yq) (outer:List Env) (P:Program) (w:World) (H:Hp) (s:Shared) (Q:VK) (E:XK) (r:Result) (s':Shared):Prop:=
 match r with
 | .ok (.ret u)=>CE outer P w H s Q u s'
 | .ok _=>False
 | .error e=>CX outer H s E e s'
structure FnOk (P:Program) (w:World) (K:W.Frag) (mg:Str->Option Value) (base:Heap) (CX:yq) (k:Nat) (f:Addr) (fd:FuncData) (ps:List Str) (sp:Sp):Prop where
 len: ∀vs H Q E,sp vs H Q E->vs.length=ps.length
 run: ∀ (A:Around) (outer:List Env) (s:Shared) (H:Hp) (args:Args) (us:List Value) (vs:List V) (Q:VK) (E:XK),Room k A->Env0 P w K mg base A outer s H->BindsTo s fd args (ps.zip us)->Vals vs us->sp vs H Q E->
  codeAny (model P w) A (.call (.ref f) args) (CR CX outer P w H s Q E) s
section
variable {X:Cx} {pins:List (Addr×Obj)} {Z:St} {H:Hp} {s s':Shared}
theorem Inv.env0 (I:Inv X pins Z H s):Env0 X.prog X.w X.K X.mg X.base X.A X.stack s H:=
 ⟨I.ok.frames,I.ok.mod,I.bs,Yg I.ok.bsz I.sz,I.stack,I.stkFree,I.hok,I.bare⟩
theorem Inv.after {Q:VK} (I:Inv X pins Z H s) (h:CE X.stack X.prog X.w H s Q u s'):EP X pins Z Q u s':=by
 obtain ⟨v,H',os,bare,un,hok,r,q⟩:=h;obtain ⟨hh,g,d,t,os'⟩:=s';obtain rfl:os'=s.os:=os;exact ⟨v,H',I.call (h':=hh) (g':=g) (d':=d) (t':=t) (ch:=[]) un hok bare (λ b z=>absurd z (by simp)),r,q⟩
end
def aU (sp:Sp) (dvs:List V) (E:XK) (t:TA):TE:=λ Z H Q=>t Z H λ vs H1=>sp (vs++dvs) H1 Q E
def V3 (C:Addr) (m:Str) (sp:Sp) (dvs:List V) (E:XK) (ta:TE) (t:TA):TE:=λ Z H Q=>ta Z H λ x H1=> ∃a dx fs,x= .ref a/\H1 a=some (.ins C dx fs)/\fs.lookup m=none/\
 t Z H1 λ vs H2=>sp (x::(vs++dvs)) H2 Q E
def V4 (C:Addr) (sp:Sp) (dvs:List V) (E:XK) (t:TA):TE:=λ Z H Q=>t Z H λ vs H1=> ∀x dx,H1 x=none->H1 dx=none->dx≠x->
 sp (.ref x::(vs++dvs)) (upd (upd H1 dx (.own x)) x (.ins C dx [])) (λ v H2=>v= .non/\Q (.ref x) H2) E
def Binds (K:W.Frag) (fd:FuncData) (ps:List Str) (ds:List Value):Prop:=
 ∀ (s:Shared) (us:List Value),K.In s.heap->(us++ds).length=ps.length->BindsTo s fd ⟨us,[]⟩ (ps.zip (us++ds))
theorem Binds.all {K:W.Frag} {ps:List Str} (h: ∀us:List Value,us.length=ps.length->bindArgs fd ⟨us,[]⟩=pure (ps.zip us)):Binds K fd ps []:=λ s us _ hl=>by
 rw [Xa] at hl ⊢;exact .of_eq (h us hl)
def tu (CX:yq) (X:Cx) (E:XK):Prop:= ∀ (pins:List (Addr×Obj)) (Z:St) (H:Hp) (s:Shared) (e:Value) (s':Shared),Inv X pins Z H s->CX X.stack H s E e s'->X.xe e s'
section
variable {X:Cx} {CX:yq} {k:Nat} {f C:Addr} {fd:FuncData} {ps:List Str} {sp:Sp} {dvs:List V} {ds:List Value} {E:XK} {x m:Str} {p pos apos:Pos} {e o:Expr} {es:List Expr} {ta:TE} {t:TA}
theorem JB {s:Shared} {Q:VK} {vs:List V} (F:FnOk X.prog X.w X.K X.mg X.base CX k f fd ps sp) (hr:Room k X.A) (hb:Binds X.K fd ps ds) (hd:Vals dvs ds) (hx:tu CX X E)
  (I:Inv X pins Z H s) (r:Vals vs us) (h:sp (vs++dvs) H Q E):wpAny (model X.prog X.w) X.A (call (.ref f) us) (EP X pins Z Q) X.xe s:=by
 have r2:Vals (vs++dvs) (us++ds):=r.append hd;have hl:(us++ds).length=ps.length:=by rw [<- r2.length];exact F.len _ _ _ _ h
 refine wpAny_call (codeAny_mono (F.run X.A X.stack s H ⟨us,[]⟩ (us++ds) (vs++dvs) Q E hr I.env0 (hb s us I.kIn hl) r2 h) λ r s' hq=> ?_)
 cases r with
 | error e=>exact hx pins Z H s e s' I hq
 | ok fl=>
  cases fl with
  | ret u=>exact I.after hq
  | next=>exact False.elim hq
  | brk=>exact False.elim hq
  | cont=>exact False.elim hq
theorem Ey (F:FnOk X.prog X.w X.K X.mg X.base CX k f fd ps sp) (hr:Room k X.A) (hg:Gl X x) (hm:X.mg x=some (.ref f)) (hk:W.keepIn X.K (.ref f)=true) (hb:Binds X.K fd ps ds) (hd:Vals dvs ds) (hx:tu CX X E)
  (ha:PA X (e::es) t) (hdb:(x==("__debug__":Str))=false:=by decide) (he:starEach (e::es) X.env=(false,eval e X.env)::starEach es X.env:=by rfl) (hpl:(backTo pos (starEach es X.env)).any (·.1)=false:=by rfl):
  PE X (.Call (.Name x p) (e::es) [] pos) (aU sp dvs E t):=by
 intro pins s Z H Q I h;refine wpAny_Call_Name_kw (Eo I hg hm ?_ hdb);refine PySem.W.callWith_K (h₀:=X.base) I.ok.mod.kin hk (bB (ha pos pins s Z H _ I h) λ us s1 ⟨vs,H1,I1,r,q⟩=>⟨I1.kIn,?_⟩) he hpl;exact JB F hr hb hd hx I1 r q
structure Mk (K:W.Frag) (C f:Addr):Prop where
 makes:PySem.W.makesIn K C=true
 init:PySem.W.findIn K (.ref C) "__init__"=some (some (.ref f))
 fn:PySem.W.isFn K (.ref f)=true
 kp:W.keepIn K (.ref C)=true
end
section
variable {X:Cx} {CX:yq} {k:Nat} {f C:Addr} {fd:FuncData} {ps ks:List Str} {sp:Sp} {E:XK} {x m:Str} {p pos apos kpos:Pos} {e o:Expr} {es:List Expr} {kws:List Keyword} {te ta:TE} {t tk:TA} {nm:Option Str}
structure KBinds (K:W.Frag) (fd:FuncData) (ps ks:List Str) (g:List Value->List Value->List Value) (gV:List V->List V->List V):Prop where
 to: ∀ (s:Shared) (us ws:List Value),K.In s.heap->(g us ws).length=ps.length->BindsTo s fd ⟨us,ks.zip ws⟩ (ps.zip (g us ws))
 rel: ∀ {vs:List V} {us:List Value} {zs:List V} {ws:List Value},Vals vs us->Vals zs ws->Vals (gV vs zs) (g us ws)
variable {g:List Value->List Value->List Value} {gV:List V->List V->List V}
end
structure FnScope (N P:List Str) (sc:Scope):Prop where
 kind:sc.kind= .function
 co:sc.isCoroutine=false
 gen:sc.isGenerator=false
 nd:N.Nodup
 pre:N.take P.length=P
 par: ∀x∈P,sc.names.lookup x=some .local\/sc.names.lookup x=some .cell
 nofree: ∀y∈sc.names,y.2≠ .free
theorem mG {kindOf:Str->Option NameKind} {x:Str}: ∀ {binds:List (Str×Value)} {m:Str->Option Value},(∀v,(x,v)∉binds)->bindL kindOf binds m x=m x
 | [],_,_=>rfl
 | (n,v)::r,m,h=>by
  unfold bindL;rw [mG λ w hw=>h w (Zv _ hw)];split
  .have:x≠n:=by rintro rfl;exact h v Zs
   simp [this]
  .rfl
theorem mH {kindOf:Str->Option NameKind} {x:Str}: ∀ {binds:List (Str×Value)} {m:Str->Option Value},(∀v,(x,v)∉binds)->bindC kindOf binds m x=m x
 | [],_,_=>rfl
 | (n,v)::r,m,h=>by
  unfold bindC;rw [mH λ w hw=>h w (Zv _ hw)];split
  .rfl
  .have:x≠n:=by rintro rfl;exact h v Zs
   simp [this]
theorem mJ {kindOf:Str->Option NameKind} {x:Str} {v:Value}: ∀ {P:List Str} {vs:List Value} {i:Nat} {m:Str->Option Value},P.Nodup->P[i]? =some x->vs[i]? =some v->kindOf x=some .local->
  bindL kindOf (P.zip vs) m x=some v
 | [],_,_,_,_,h,_,_=>by simp at h
 | _::_,[],_,_,_,_,h,_=>by simp at h
 | p::P,w::vs,0,m,nd,h1,h2,hk=>by
  simp at h1 h2;subst h1;subst h2;show bindL kindOf ((p,w)::P.zip vs) m p=_;unfold bindL;rw [mG λ v hv=>(Wr.mp nd).1 (List.of_mem_zip hv).1,if_pos hk];simp
 | p::P,w::vs,i+1,m,nd,h1,h2,hk=>by
  show bindL kindOf ((p,w)::P.zip vs) m x=_;unfold bindL;exact mJ (i:=i) (Wr.mp nd).2 (by simpa using h1) (by simpa using h2) hk
theorem mK {kindOf:Str->Option NameKind} {x:Str} {v:Value}: ∀ {P:List Str} {vs:List Value} {i:Nat} {m:Str->Option Value},P.Nodup->P[i]? =some x->vs[i]? =some v->kindOf x≠some .local->
  bindC kindOf (P.zip vs) m x=some v
 | [],_,_,_,_,h,_,_=>by simp at h
 | _::_,[],_,_,_,_,h,_=>by simp at h
 | p::P,w::vs,0,m,nd,h1,h2,hk=>by
  simp at h1 h2;subst h1;subst h2;show bindC kindOf ((p,w)::P.zip vs) m p=_;unfold bindC;rw [mH λ v hv=>(Wr.mp nd).1 (List.of_mem_zip hv).1,if_neg hk];simp
 | p::P,w::vs,i+1,m,nd,h1,h2,hk=>by
  show bindC kindOf ((p,w)::P.zip vs) m x=_;unfold bindC;exact mK (i:=i) (Wr.mp nd).2 (by simpa using h1) (by simpa using h2) hk
def start (N:List Str) (vs:List V):St:=vs.map some++List.replicate (N.length-vs.length) none
def xg (CX:yq) (P:Program) (w:World) (K:W.Frag) (mg:Str->Option Value) (base:Heap) (N:List Str) (qual:Str) (scope:Scope) (f:Addr) (cd:Value) (A:Around) (outer:List Env) (s:Shared) (H:Hp) (E:XK):Cx where
 prog:=P
 w:=w
 K:=K
 mg:=mg
 base:=base
 A:=A.deeper (envOfC qual scope s.heap.objs.size f cd)
 N:=N
 s₀:=s
 H₀:=H
 env:=envOfC qual scope s.heap.objs.size f cd
 outer:=outer
 stack:=envOfC qual scope s.heap.objs.size f cd::outer
 ex:=[]
 calm:=true
 fn:=λ _=>true
 pn:=[]
 xe:=λ e s'=>wpAny (model P w) (A.deeper (envOfC qual scope s.heap.objs.size f cd)) (leaving (envOfC qual scope s.heap.objs.size f cd) e) (λ _ s''=>CX outer H s E e s'') (λ e' s''=>CX outer H s E e' s'') s'
theorem qx (h:sc.names.lookup x=some .cell): ∃c,(cellsFrom n sc.names []).lookup x=some c:=by
 have q:=PySem.W.cellsFrom_some sc.names n [] (.inl h);exact Option.isSome_iff_exists.mp q
theorem xj {P:Program} {K:W.Frag} {base:Heap} {N ps:List Str} {f:Addr} {s:Shared} {E:XK} {vs:List V}
  (S:FnScope N ps scope) (hd:A.handled=none) (e0:Env0 P w K mg base A outer s H) (hl:vs.length=ps.length) (r:Vals vs us)
  (x:InCallC s s.heap.objs.size (bindL (envOfC qual scope s.heap.objs.size f cd).kindOf (ps.zip us) λ _=>none) (cellsFrom (s.heap.objs.size+1) scope.names []) (bindC (envOfC qual scope s.heap.objs.size f cd).kindOf (ps.zip us) λ _=>none) s1):
  Inv (xg CX P w K mg base N qual scope f cd A outer s H E) [] (start N vs) H s1:=by
 have hpl:ps.length<=N.length:=by have:=Yt List.length S.pre;rw [Yd] at this;rfl'
 obtain ⟨h1,tk,rfl,hk⟩:=x.done;have noA: ∀b:Addr,b∉(xg CX P w K mg base N qual scope f cd A outer s H E).ex:=λ b z=>absurd (show b∈([]:List Addr) from z) (by simp)
 refine ⟨⟨e0.mod,S.kind,rfl,rfl,Zk _,λ y z c h1 h2=> ?_,λ y hy=> ?_,λ y c _ h=> ?_,λ _=>hd,Around.frames_deeper e0.frames, .inr ⟨rfl,rfl⟩,λ b z=>absurd z (noA b),e0.bs,e0.bsz,λ b _ _=>noA b,λ b z=>absurd z (noA b),e0.funs,e0.frf⟩,
  rfl,e0.bare,Un.kept hk,⟨_,x.toInCall.ns,λ i y v h1 h2 h3=> ?_⟩,λ y c h=>⟨_,x.cell y c h⟩,e0.hok.fresh (Zk _),λ y c h=> ?_,λ p hp=>absurd (show p∈([]:List (Addr×Obj)) from hp) (by simp),e0.hok.kept hk,?_⟩
 .exact name_of_addr x.apart (PySem.mem_of_lookup h1) (PySem.mem_of_lookup h2)
 .have hy:scope.names.lookup y=some .cell\/scope.names.lookup y=some .free:=hy;rcases hy with hy | hy
  .exact qx hy
  .exact absurd rfl (S.nofree _ (PySem.mem_of_lookup hy))
 .exact Xw (x.above y c (PySem.mem_of_lookup h))
 .have hi:i<vs.length:=by
   unfold start at h2;by_cases hi:i<vs.length
   .exact hi
   .rw [List.getElem?_append_right (by simpa using hi)] at h2;rw [List.getElem?_replicate] at h2;split at h2<;>cases h2
  have ha:vs[i]? =some v:=by
   unfold start at h2;rw [List.getElem?_append_left (by simpa using hi),Zj] at h2
   cases e:vs[i]? with
   | none=>rw [e] at h2;cases h2
   | some a=>rw [e] at h2;cases h2;rfl
  obtain ⟨u,hu,rv⟩:=r.get ha;have hp:ps[i]? =some y:=by
   rw [<- S.pre,List.getElem?_take_of_lt (by rfl')];exact h1
  have ndP:ps.Nodup:=by rw [<- S.pre];exact S.nd.sublist (List.take_sublist _ _)
  refine ⟨u,rv,?_⟩;rcases S.par y (Ze hp) with k | k
  .exact .inl ⟨k,mJ ndP hp hu k⟩
  .obtain ⟨c,e⟩:=qx (n:=s.heap.objs.size+1) k;refine .inr ⟨.inl k,c,e,?_⟩;have q:=x.cell y c e;rw [mK ndP hp hu (by show scope.names.lookup y≠_;rw [k];decide)] at q;exact q
 .exact e0.hok.fresh (Xw (x.above y c (PySem.mem_of_lookup h)))
 .unfold start;show _=N.length;rw [Zg,Qr,List.length_replicate];rfl'
theorem Pj {P:Program} {K:W.Frag} {base:Heap} {f:Addr} {name:Str} {dV kV doc pm cdv ct oc:Value} {od:Option Addr}
  {N ps:List Str} {sp:Sp} (lk:K.lookup f=some ⟨oc,od, .func (W.fnOf name qual params body scope dV kV doc pm an cdv ct),osl⟩) (hcd:W.codeIn K cdv qual=true) (S:FnScope N ps scope)
  (len: ∀vs H Q E,sp vs H Q E->vs.length=ps.length)
  (hbody: ∀ (A:Around) (outer:List Env) (s:Shared) (H:Hp) (vs:List V) (Q:VK) (E:XK),Room k (A.deeper (envOfC qual scope s.heap.objs.size f cdv))->sp vs H Q E->
   ∃t,PSs (xg CX P w K mg base N qual scope f cdv A outer s H E) body t/\t { nx:=λ _ H'=>Q .non H',rt:=Q } (start N vs) H):
  FnOk P w K mg base CX (k+1) f (W.fnOf name qual params body scope dV kV doc pm an cdv ct) ps sp:=by
 refine ⟨len,λ A outer s H args us vs Q E hr e0 hb r hsp=> ?_⟩;have hl:=len _ _ _ _ hsp;have KX:K.In s.heap:=e0.mod.kin.keeps λ b o e=>(e0.bs b o e).1
 have lim:s.heap.NoLimit:=e0.mod.nolimit.keeps λ b o e=>(e0.bs b o e).1
 have hkind: ∀y∈ps.zip us,scope.names.lookup y.1=some .local\/(scope.names.lookup y.1=some .cell/\((cellsFrom (s.heap.objs.size+1) scope.names []).lookup y.1).isSome=true):=λ ⟨n,v⟩ hy=>by
  rcases S.par n (List.of_mem_zip hy).1 with q | q
  .exact .inl q
  .exact .inr ⟨q,PySem.W.cellsFrom_some _ _ _ (.inl q)⟩
 refine codeAny_call_function hr.depth (KX _ _ lk) rfl S.co S.gen rfl (PySem.W.codeRec_of KX hcd) (hb _ _ _ _ ?_);refine wpAny_newFunctionEnv_cells S.kind hkind λ env he s1 x=> ?_
 subst he;refine ⟨lim.keeps x.toInCall.keep,codeAny_func ?_⟩;obtain ⟨t,ht,hq⟩:=hbody A outer s H vs Q E (hr.deeper _) hsp;have I:Inv (xg CX P w K mg base N qual scope f cdv A outer s H E) [] (start N vs) H s1:=xj S hr.hd e0 hl r x;refine Wv (ht [] s1 (start N vs) H _ I hq) (λ fl s' hs=> ?_) λ e s' hs=>hs
 have fin: ∀ {Z':St} {H':Hp} {v:V} {u:Value},Inv (xg CX P w K mg base N qual scope f cdv A outer s H E) [] Z' H' s'->RelV v u->Q v H'->CE outer P w H s Q u s':=
  λ {Z' H' v u} J rv q=>⟨v,H',J.os,J.bare,J.base,J.hok,rv,q⟩
 cases fl with
 | ret u=>
  obtain ⟨v,Z',H',J,rv,q⟩:=hs;exact fin J rv q
 | next=>
  obtain ⟨Z',H',J,q⟩:=hs;exact fin (v:=V.non) (u:=Value.none) J rfl q
 | brk=>
  obtain ⟨_,_,_,q⟩:=hs;exact False.elim q
 | cont=>
  obtain ⟨_,_,_,q⟩:=hs;exact False.elim q
section
variable {X:Cx} {x:Str} {p pos:Pos} {e:Expr} {es:List Expr} {t:TA} {id T:String} {r:List V->Hp->VK->Prop}
def cH (r:List V->Hp->VK->Prop) (t:TA):TE:=λ Z H Q=>t Z H λ vs H1=>r vs H1 Q
theorem yU (hc:bH X (.builtin id) r) (hg:Gl X x) (hm:X.mg x=none) (hv:bootBuiltins x=some (.builtin id)) (ha:PA X (e::es) t) (hn:x≠"__name__":=by decide) (hdb:(x==("__debug__":Str))=false:=by decide)
  (he:starEach (e::es) X.env=(false,eval e X.env)::starEach es X.env:=by rfl) (hpl:(backTo pos (starEach es X.env)).any (·.1)=false:=by rfl):PE X (.Call (.Name x p) (e::es) [] pos) (cH r t):=by
 intro pins s Z H Q I h;refine wpAny_Call_Name_kw (jh I hg hm hv ?_ hn hdb);exact PyProof.Rows.callWith_builtin1 (bB (ha pos pins s Z H _ I h) λ us s1 ⟨vs,H1,I1,r1,q1⟩=>hc pins s1 Z H1 vs us Q I1 r1 q1) he hpl
theorem bI (hc:bH X (.type T) r) (hg:Gl X x) (hm:X.mg x=none) (hv:bootBuiltins x=some (.type T)) (ha:PA X (e::es) t) (hn:x≠"__name__":=by decide) (hdb:(x==("__debug__":Str))=false:=by decide)
  (he:starEach (e::es) X.env=(false,eval e X.env)::starEach es X.env:=by rfl) (hpl:(backTo pos (starEach es X.env)).any (·.1)=false:=by rfl):PE X (.Call (.Name x p) (e::es) [] pos) (cH r t):=by
 intro pins s Z H Q I h;refine wpAny_Call_Name_kw (jh I hg hm hv ?_ hn hdb);exact PyProof.Rows.callWith_type1 (bB (ha pos pins s Z H _ I h) λ us s1 ⟨vs,H1,I1,r1,q1⟩=>hc pins s1 Z H1 vs us Q I1 r1 q1) he hpl
end
end L2
namespace HT
open PySem PyProof.Rows
variable {sl:Addr} {ms:List Int} {v vl vu:Value} {hi lo:Option Int} {items:Array Value} {Q:Value->Shared->Prop}
def lexLt:List Int->List Int->Bool
 | [],[]=>false
 | [],_::_=>true
 | _::_,[]=>false
 | x::xs,y::ys=>if x=y then lexLt xs ys else decide (x<y)
theorem fO (x y:Int) (xs ys:List Int):lexLt (x::xs) (y::ys)=if x=y then lexLt xs ys else decide (x<y):=rfl
theorem m5:lexLt [] []=false:=rfl
theorem kE (y:Int) (ys:List Int):lexLt [] (y::ys)=true:=rfl
theorem kI (x:Int) (xs:List Int):lexLt (x::xs) []=false:=rfl
theorem yV (A:Around) (s:Shared) (a:Int) (t:Tok) (c:Int) (u:Tok): ∃e,SeqAt.EqAt A s (.int a t) (.int c u) e/\(e=true↔a=c):=
 ⟨(a==c),SeqAt.EqAt.int_int a t c u,by simp⟩
theorem yW (A:Around) (s:Shared) (a:Int) (t:Tok) (c:Int) (u:Tok) (prog:Program) (w:World) (E:Value->Shared->Prop) (Q:Value->Shared->Prop) (h:Q (.bool (decide (a<c))) s):
  wpAny (model prog w) A (richCompare .Lt (.int a t) (.int c u)) Q E s:=
 (PyProof.Rows.lt_int h:wpAny (model prog w) A (compareOp .Lt (.int a t) (.int c u)) Q E s)
section
open PySem.SeqAt
open PySem.AutoSeq1 (wpAny_loadPart')
open PySem.MeetsSeq PySem.MeetsSeq2 PySem.MeetsSeq3
theorem m6 (l b:Addr) (items items2:Array Value) (n n2:Nat) (dd dd2:Option Addr) (sl sl2:Array (Option Value)) (ns ms:List Int) (hi:IntsAre items.toList ns) (hj:IntsAre items2.toList ms):
  Meets (Builtin.«tuple.__lt__» ⟨[.ref l, .ref b],[]⟩)
   (λ _ R s=>s.heap.get? l=some { cls:= .type "tuple",dict:=dd,data:= .seq items n,slots:=sl }/\s.heap.get? b=some { cls:= .type "tuple",dict:=dd2,data:= .seq items2 n2,slots:=sl2 }/\
    R (.ok (.ret (.bool (lexLt ns ms)))) s):=
 .of_wp λ prog w A R s h=>by
  obtain ⟨hp,g,d,tk,os⟩:=s;obtain ⟨hl,hb,h⟩:=h;have f2:=AutoSeq1.sub_tuple_tuple;have z1:items.size=ns.length:=by rw [<- hi.length];simp
  have z2:items2.size=ms.length:=by rw [<- hj.length];simp
  wp_walk using wpAny_loadPart' hl,wpAny_loadPart' hb,wpAny_forIn_list _ (λ rest b s'=>b.1=none/\s'=⟨hp,g,d,tk,os⟩/\ ∃ (vs ws:List Value) (ns' ms':List Int),rest=vs.zip ws/\
   IntsAre vs ns'/\IntsAre ws ms'/\ns'.length+items2.size=ms'.length+items.size/\R (.ok (.ret (.bool (lexLt ns' ms')))) ⟨hp,g,d,tk,os⟩) _
  case turn=>
   rintro ⟨y,x⟩ rest b s' ⟨hb',rfl,vs,ws,ns',ms',hz,hvi,hwi,hlen,hR⟩
   cases hvi with
   | nil=>rw [List.zip_nil_left] at hz;cases hz
   | cons a t hvi'=>
    cases hwi with
    | nil=>rw [List.zip_nil_right] at hz;cases hz
    | cons c u hwi'=>
     rw [List.zip_cons_cons] at hz;injection hz with hyx hrest
     injection hyx with hy hx
     subst hy hx;rw [fO] at hR;simp only [Yu] at hlen;obtain ⟨e,he,hiff⟩:=yV A.in1 ⟨hp,g,d,tk,os⟩ a t c u;refine Qb (he prog w _ _ ?_)
     cases e with
     | true=>
      rw [if_pos (hiff.mp rfl)] at hR
      wp_walk
      exact ⟨rfl,rfl,_,_,_,_,hrest,hvi',hwi',by rfl',hR⟩
     | false=>
      rw [if_neg (λ q=>absurd (hiff.mpr q) Zr)] at hR;have hri:=yW A.in1 ⟨hp,g,d,tk,os⟩ a t c u prog w
      wp_walk using hri
      exact ⟨_,rfl,by simpa using hR⟩
  case fin=>
   rintro ⟨b1,b2⟩ s' ⟨hb',rfl,vs,ws,ns',ms',hz,hvi,hwi,hlen,hR⟩;simp only at hb';subst hb';have hv:lexLt ns' ms'=decide (items.size<items2.size):=by
    cases hvi with
    | nil=>
     cases hwi with
     | nil=>
      simp only [List.length_nil] at hlen;rw [m5];exact (Yf (by rfl')).symm
     | cons c u hw=>
      simp only [List.length_nil,Yu] at hlen;rw [kE];exact (Yj (by rfl')).symm
    | cons a t hv=>
     cases hwi with
     | nil=>
      simp only [List.length_nil,Yu] at hlen;rw [kI];exact (Yf (by rfl')).symm
     | cons c u hw=>
      rw [List.zip_cons_cons] at hz
      cases hz
   rw [hv] at hR
   wp_walk
   exact ⟨_,rfl,by simpa [Builtin.Tuple.tupleCompareSizes] using hR⟩
  case h=>
   exact ⟨rfl,rfl,items.toList,items2.toList,ns,ms,rfl,hi,hj,by rfl',h⟩
end
section
variable {prog:Program} {w:World} {A:Around} {E:Value->Shared->Prop} {s:Shared}
theorem tD {l b:Addr} {items2:Array Value} {ns:List Int} (hl:IsTup s.heap l items) (hb:IsTup s.heap b items2) (hi:IntsAre items.toList ns) (hj:IntsAre items2.toList ms)
  (hu:A.units<cLine) (h:Q (.bool (lexLt ns ms)) s):wpAny (model prog w) A (compareOp .Lt (.ref l) (.ref b)) Q E s:=by
 obtain ⟨⟨cls,dd,data,sl⟩,ho,hc,n,hd⟩:=id hl;obtain ⟨⟨cls2,dd2,data2,sl2⟩,ho2,hc2,n2,hd2⟩:=id hb;simp only at hc hd hc2 hd2;subst hc hd hc2 hd2;exact richCompare_meets_room (op:= .Lt) ⟨_,ho,rfl⟩ ⟨_,ho2,rfl⟩ PySem.F.slot_tuple_lt PySem.F.entry_tuple_lt (PySem.F.args_tuple_lt_2 _ _) (m6 l b items items2 n n2 dd dd2 sl sl2 ns ms hi hj)
  ⟨ho,ho2,show Value.bool (lexLt ns ms)≠Value.notImplemented/\Q (.bool (lexLt ns ms)) s from ⟨(λ x=>nomatch x),h⟩⟩ hu
def cP (n d:Nat):Option Int->Nat
 | none=>d
 | some v=>if v<0 then (v+(n:Int)).toNat else min v.toNat n
theorem JC (n d:Nat) (hd:d<=n) (o:Option Int):cP n d o<=n:=by
 cases o with
 | none=>exact hd
 | some v=>
  show (if v<0 then (v+(n:Int)).toNat else min v.toNat n)<=n;by_cases hv:v<0
  .rw [if_pos hv];rfl'
  .rw [if_neg hv];exact Nat.min_le_right _ _
theorem vI (v:Int) (n d:Nat):(if v<0 then max (v+(n:Int)) 0 else min v (n:Int))=((cP n d (some v):Nat):Int):=by
 show (if v<0 then max (v+(n:Int)) 0 else min v (n:Int))=(((if v<0 then (v+(n:Int)).toNat else min v.toNat n):Nat):Int);by_cases hv:v<0
 .simp only [if_pos hv];rfl'
 .simp only [if_neg hv];rfl'
theorem tE (lo hi:Option Int) (n:Nat):Builtin.Slice.sliceAdjust lo hi 1 (n:Int)=(((cP n 0 lo:Nat):Int),((cP n n hi:Nat):Int)):=by
 have h1: ¬ ((1:Int)<0):=by rfl'
 unfold Builtin.Slice.sliceAdjust;simp only [h1,Xr];refine Prod.ext ?_ ?_
 .cases lo with
  | none=>rfl
  | some v=>exact vI v n 0
 .cases hi with
  | none=>rfl
  | some v=>exact vI v n n
theorem tG (i j:Nat):Builtin.Slice.slicePlaces (i:Int) (j:Int) 1=j-i:=by
 unfold Builtin.Slice.slicePlaces;have h1:(1:Int)>0:=by rfl'
 simp only [h1,if_true,Int.ediv_one];split<;>rfl'
theorem kJ {o:Option Int} {Q:Option Int->Shared->Prop} (p:IsPart v o) (h:Q o s):wpAny (model prog w) A (Builtin.Slice.slicePartIndex v) Q E s:=by
 cases p with
 | none=>exact slicePart_none h
 | int i t=>exact slicePart_int h
theorem fB {n:Nat} {Q:Int×Int×Nat->Shared->Prop} (hs:s.heap.IsSliceOf sl vl vu .none) (pl:IsPart vl lo) (pu:IsPart vu hi)
  (h:Q (((cP n 0 lo:Nat):Int),1,cP n n hi-cP n 0 lo) s):wpAny (model prog w) A (Builtin.Slice.sliceApplied (.ref sl) (pure (n:Int))) Q E s:=by
 obtain ⟨os,hos,hcs,hds⟩:=id hs;unfold Builtin.Slice.sliceApplied Builtin.Slice.sliceFields;refine Qb (Qb (Xl hos hds (x:=vl) rfl (Qb (Xl hos hds (x:=vu) rfl (Qb (Xl hos hds (x:= .none) rfl (Zc ?_)))))));refine Qb (slicePart_none ?_);show wpAny _ _ (if ((1:Int)==0)=true then _ else _) _ _ s;rw [if_neg (by decide)];refine Qb (kJ pl (Qb (kJ pu (Qb (Zc ?_)))));show wpAny _ _ (match Builtin.Slice.sliceAdjust lo hi 1 (n:Int) with | (lo,hi)=>pure (lo,(1:Int),Builtin.Slice.slicePlaces lo hi 1)) _ _ s;rw [tE lo hi n];show wpAny _ _ (pure (((cP n 0 lo:Nat):Int),(1:Int),Builtin.Slice.slicePlaces ((cP n 0 lo:Nat):Int) ((cP n n hi:Nat):Int) 1)) _ _ s;rw [tG];exact Zc h
theorem yX (xs:Array Value) (i k:Nat):((List.range k).filterMap λ (m:Nat)=>xs[((i:Int)+(m:Int)*1).toNat]?).toArray=((xs.toList.drop i).take k).toArray:=by
 have e:(λ (m:Nat)=>xs[((i:Int)+(m:Int)*1).toNat]?)=λ m=>xs[i+m]? :=by
  funext m;have:((i:Int)+(m:Int)*1).toNat=i+m:=by rfl'
  rw [this]
 rw [e];have:=pick_run xs i k;rw [List.filterMap_map] at this;have e2:((λ x=>xs[x]?)∘λ x=>i+x)=λ m=>xs[i+m]? :=rfl
 rw [e2] at this;rw [this]
theorem iQ {t:Addr} (ht:IsTup s.heap t items) (hs:s.heap.IsSliceOf sl vl vu .none) (pl:IsPart vl lo) (pu:IsPart vu hi)
  (hw: ¬ (cP items.size 0 lo=0/\cP items.size items.size hi=items.size))
  (h:Q (.ref s.heap.objs.size) { s with heap:=s.heap.push { cls:= .type "tuple",data:= .seq ((items.toList.drop (cP items.size 0 lo)).take (cP items.size items.size hi-cP items.size 0 lo)).toArray } })
  (hsz:items.size<=sizeLine):wpAny (model prog w) A (getItem (.ref t) (.ref sl)) Q E s:=by
 have htake:sizeOk (.seq ((items.toList.drop (cP items.size 0 lo)).take (cP items.size items.size hi-cP items.size 0 lo)).toArray):=by
  show ((items.toList.drop (cP items.size 0 lo)).take (cP items.size items.size hi-cP items.size 0 lo)).toArray.size<=sizeLine;rw [Zu,Yd,Yx,Xm];rfl'
 have hj:cP items.size items.size hi<=items.size:=JC _ _ (Zk _) hi;obtain ⟨os,hos,hcs,hds⟩:=id hs;have hTs:s.TypeIs (.ref sl) "slice":=⟨os,hos,hcs⟩;unfold getItem;try with_reducible refine Xg ?_
 first | refine Qb (Zc ?_) | skip
 refine Qb (wpAny_sequenceKey ht.typeIs (by decide) ?_);refine Qb (wpAny_callSpecial?_slot (name:=Str.ofString "__getitem__") ht.typeIs PyProof.Rows.slot_tuple_getitem
  (Yv PyProof.Rows.slot_tuple_getitem ht.typeIs entry_tuple_getitem ?_ (args_tuple_getitem _ _)))
 show wpAny _ _ (Builtin.Tuple.tupleItemsOf (.ref t) >>= _) _ _ s;refine Qb (tupleItemsOf_ ht ?_);refine Qb (wpAny_typeOf hTs ?_);rw [if_pos (by decide)];refine Qb (fB hs pl pu ?_);have hno: ¬ ((((cP items.size 0 lo:Nat):Int)==0&&(1:Int)==1&&(cP items.size items.size hi-cP items.size 0 lo)==items.size)=true):=by
  intro q;rw [Xo,Xo] at q;have q1:((cP items.size 0 lo:Nat):Int)=0:=eq_of_beq q.1.1;have q2:cP items.size items.size hi-cP items.size 0 lo=items.size:=eq_of_beq q.2;exact hw ⟨by rfl',by rfl'⟩
 show wpAny _ _ (if (((cP items.size 0 lo:Nat):Int)==0&&(1:Int)==1&&(cP items.size items.size hi-cP items.size 0 lo)==items.size)=true then _ else _) _ _ s;rw [if_neg hno,yX]
 first
  | exact Qb (m:=Builtin.Tuple.tupleExact _) (Xe (Zc ⟨_,rfl,Zc h⟩) htake)
  | exact Qb (m:=Builtin.Tuple.tupleExact _) (Xe (Qb (Zc (Zc ⟨_,rfl,Zc h⟩))) htake)
  | exact Qb (Qb (m:=Builtin.Tuple.tupleExact _) (Xe (Zc (Zc ⟨_,rfl,Zc h⟩)) htake))
  | exact Qb (Qb (m:=Builtin.Tuple.tupleExact _) (Xe (Zc ⟨_,rfl,Zc h⟩) htake))
end
end HT
namespace L2
open PySem PySem.Spec PyProof.Rows
variable {H:Hp} {Z:St} {i:Int} {x y:V} {p:Addr} {A:Around} {u v:Value} {xs:List V} {j n t':Nat} {pins:List (Addr×Obj)} {its its' us:List Value} {f:Array Value->Array Value}
abbrev TO:=St->Hp->(Option Int->Hp->Prop)->Prop
def PO (X:Cx) (e:Option Expr) (t:TO):Prop:=
 ∀ (pins:List (Addr×Obj)) (s:Shared) (Z:St) (H:Hp) (Q:Option Int->Hp->Prop),Inv X pins Z H s->t Z H Q->
  wpAny (model X.prog X.w) X.A (evalPart e X.env) (λ u s'=> ∃o H',Inv X pins Z H' s'/\IsPart u o/\Q o H') X.xe s
def cJ:TO:=λ _ H Q=>Q none H
def dM (t:TE):TO:=λ Z H Q=>t Z H λ x H1=> ∃i,x= .int i/\Q (some i) H1
theorem intsAre_of {ns:List Int}: ∀ {us:List Value},Vals (ns.map V.int) us->IntsAre us ns:=by
 induction ns with
 | nil=>intro us r;rw [Xq] at r;cases r;exact .nil
 | cons n ns ih=>
  intro us r;rw [Zl] at r
  cases r with
  | cons r1 r2=>
   obtain ⟨t,e⟩:=r1;subst e;exact .cons n t (ih r2)
section
variable {X:Cx} {e:Expr} {te:TE} {lo hi:Option Expr} {tl th:TO} {pos p2:Pos}
theorem du:PO X none cJ:=by
 intro pins s Z H Q I h;rw [evalPart_none];exact Zc ⟨none,H,I, .none,h⟩
theorem cj (h:PE X e te):PO X (some e) (dM te):=by
 intro pins s Z H Q I hw;rw [evalPart_some];refine bB (h pins s Z H _ I hw) λ u s1 ⟨x,H1,I1,r1,q1⟩=> ?_
 obtain ⟨i,rfl,q⟩:=q1;obtain ⟨t,rfl⟩:=r1;exact ⟨some i,H1,I1, .int i t,q⟩
def Ii (X:Cx) (r:V->Option Int->Option Int->Hp->VK->Prop):Prop:=
 ∀ (pins:List (Addr×Obj)) (s:Shared) (Z:St) (H:Hp) (x:V) (v vl vu:Value) (lo hi:Option Int) (sl:Addr) (Q:VK),Inv X pins Z H s->RelV x v->s.heap.IsSliceOf sl vl vu .none->IsPart vl lo->IsPart vu hi->r x lo hi H Q->
  ∃T id,typeLookup (.type T) "__getitem__"=pure (some (.builtin id))/\s.TypeIs v T/\wpAny (model X.prog X.w) X.A (getItem v (.ref sl)) (EP X pins Z Q) X.xe s
def vJ (r:V->Option Int->Option Int->Hp->VK->Prop) (te:TE) (tl th:TO):TE:=λ Z H Q=>te Z H λ x H1=>tl Z H1 λ l H2=>th Z H2 λ u H3=>r x l u H3 Q
theorem bZ {r:V->Option Int->Option Int->Hp->VK->Prop} (hr:Ii X r) (he:PE X e te) (hl:PO X lo tl) (hu:PO X hi th):PE X (.Subscript e (.Slice lo hi none p2) pos) (vJ r te tl th):=by
 intro pins s Z H Q I h;refine Subscript_ (bB (he pins s Z H _ I h) λ v s1 ⟨x,H1,I1,r1,q1⟩=> ?_);refine wpAny_Slice (bB (hl pins s1 Z H1 _ I1 q1) λ vl s2 ⟨l,H2,I2,pl,q2⟩=>bB (hu pins s2 Z H2 _ I2 q2) λ vu s3 ⟨u,H3,I3,pu,q3⟩=> ?_);rw [evalPart_none];refine Zc ?_;have I4:Inv X pins Z H3 { s3 with heap:=s3.heap.push { cls:= .type "slice",data:= .fields #[vl,vu, .none] } }:=I3.kept (t':=s3.toks) λ b ob q=>Zf _ q
 obtain ⟨T,id,hT,ht,hg⟩:=hr pins { s3 with heap:=s3.heap.push { cls:= .type "slice",data:= .fields #[vl,vu, .none] } } Z H3 x v vl vu l u s3.heap.objs.size Q I4 r1 (Heap.IsSliceOf.new ..) pl pu q3;show wpAny (model X.prog X.w) X.A (subscriptTail e (.Slice lo hi none p2) v (.ref s3.heap.objs.size)) (EP X pins Z Q) X.xe { s3 with heap:=s3.heap.push { cls:= .type "slice",data:= .fields #[vl,vu, .none] } };exact tail_any (ops:=[.ref s3.heap.objs.size,v]) ht hT hg (by with_unfolding_all rfl)
def dU (xs:List V) (lo hi:Option Int):List V:=(xs.drop (HT.cP xs.length 0 lo)).take (HT.cP xs.length xs.length hi-HT.cP xs.length 0 lo)
theorem jB (xs:List V) (lo hi:Option Int):(dU xs lo hi).length<=xs.length:=by
 unfold dU;rw [Yd,Yx];rfl'
def JD (K:W.Frag):V->Option Int->Option Int->Hp->VK->Prop:=λ x lo hi H Q=> ∃a xs,x= .ref a/\SqT K H a xs/\
 ¬ (HT.cP xs.length 0 lo=0/\HT.cP xs.length xs.length hi=xs.length)/\ ∀p,H p=none->Q (.ref p) (upd H p (.tup (dU xs lo hi)))
theorem yZ:Ii X (JD X.K):=by
 intro pins s Z H x v vl vu lo hi sl Q I rx hs pl pu h;obtain ⟨a,xs,rfl,hx,hw,q⟩:=h
 cases rx;obtain ⟨its,r,ht,hz⟩:=I.tuple hx;have hlen:its.toArray.size=xs.length:=by rw [Zu];exact r.length.symm
 refine ⟨"tuple",_,PyProof.Rows.slot_tuple_getitem.lookup,ht.typeIs,?_⟩;refine HT.iQ ht hs pl pu (by rw [hlen];exact hw) ?_ (by rw [hlen];exact hz);rw [hlen];refine ⟨.ref s.heap.objs.size,_,I.laid (t':=s.toks) (o:= .tup (dU xs lo hi)) (λ b ob q=>Zf _ q) (Zk _) ?_,rfl,q _ (I.hok.fresh (Zk _))⟩;exact ⟨Nat.le_trans (jB xs lo hi) hz,_,(r.drop (HT.cP xs.length 0 lo)).take (HT.cP xs.length xs.length hi-HT.cP xs.length 0 lo),IsTup.new _ _⟩
end
def Ij (n:Nat) (i:Int):Option Nat:=if 0<=i then (if i<n then some i.toNat else none) else if-(n:Int)<=i then some (i+n).toNat else none
def xm {α:Type} (xs:List α) (i:Int):Option α:=(Ij xs.length i).bind λ j=>xs[j]?
theorem vK (h:Ij n i=some j):seqIndex? i n=some j/\j<n/\ -(n:Int)<=i/\i<n:=by
 unfold Ij at h;by_cases h0:0<=i
 .rw [if_pos h0] at h;by_cases h1:i<n
  .rw [if_pos h1] at h;have e:i.toNat=j:=Ym h;exact ⟨by rw [seqIndex_of h0 h1,e],by rfl',by rfl',h1⟩
  .rw [if_neg h1] at h;cases h
 .rw [if_neg h0] at h;by_cases h1: -(n:Int)<=i
  .rw [if_pos h1] at h;have e:(i+n).toNat=j:=Ym h;exact ⟨by rw [seqIndex_neg (by rfl') h1,e],by rfl',h1,by rfl'⟩
  .rw [if_neg h1] at h;cases h
theorem oF {α:Type} {xs:List α} {v:α} (h:xm xs i=some v): ∃j,seqIndex? i xs.length=some j/\xs[j]? =some v/\j<xs.length/\ -(xs.length:Int)<=i/\i<xs.length:=by
 unfold xm at h
 cases e:Ij xs.length i with
 | none=>rw [e] at h;cases h
 | some j=>
  rw [e] at h;obtain ⟨h1,h2,h3,h4⟩:=vK e;exact ⟨j,h1,h,h2,h3,h4⟩
theorem aN {α:Type} {xs:List α} {v:α} (h:xs[j]? =some v):xm xs (j:Int)=some v:=by
 have hj:j<xs.length:=(Zo.mp h).1;have e:Ij xs.length (j:Int)=some j:=by
  unfold Ij;rw [if_pos (by rfl'),if_pos (by rfl')];simp
 unfold xm;rw [e];exact h
def Ez (b:Expr):Prop:= ∀o i,subscripted b false o i=operate [o,i] (getItem o i)
def Om (X:Cx) (r:R2):Prop:=
 ∀ (value slice:Expr) (pins:List (Addr×Obj)) (s:Shared) (Z:St) (H:Hp) (x y:V) (v u:Value) (Q:VK),Inv X pins Z H s->RelV x v->RelV y u->r x y H Q->
  subscripted slice false v u=operate [v,u] (getItem v u)->wpAny (model X.prog X.w) X.A (subscriptTail value slice v u) (EP X pins Z Q) X.xe s
def Su (X:Cx) (id:String) (r:V->List V->Hp->VK->Prop):Prop:=
 ∀ (pins:List (Addr×Obj)) (s:Shared) (Z:St) (H:Hp) (x:V) (xs:List V) (v:Value) (us:List Value) (Q:VK),Inv X pins Z H s->RelV x v->Vals xs us->r x xs H Q->
  wpAny (model X.prog X.w) X.A (call (.builtin id) (v::us)) (EP X pins Z Q) X.xe s
section
variable {X:Cx} {a b:Expr} {ta tb:TE} {pos:Pos}
theorem z6 {r:R2} (hr:Om X r) (ha:PE X a ta) (hb:PE X b tb) (hs:Ez b):PE X (.Subscript a b pos) (aH r ta tb):=by
 intro pins s Z H Q I h;exact Subscript_ (Jt ha hb I h λ v u s2 x y H2 I2 rx ry q=>hr a b pins s2 Z H2 x y v u Q I2 rx ry q (hs _ _))
def cA (K:W.Frag):R2:=λ x y H Q=> ∃p xs i v,x= .ref p/\y= .int i/\SqL K H p xs/\xm xs i=some v/\Q v H
def aR (K:W.Frag):R2:=λ x y H Q=> ∃p xs i v,x= .ref p/\y= .int i/\SqT K H p xs/\xm xs i=some v/\Q v H
def JF:R2:=λ x y H Q=> ∃z i c,x= .str z/\y= .int i/\z.length<=sizeLine/\xm z.cps.toList i=some c/\Q (.str ⟨#[c]⟩) H
theorem EY:Om X (cA X.K):=by
 intro value slice pins s Z H x y v u Q I rx ry h hs;obtain ⟨p,xs,i,z,rfl,rfl,hq,he,q⟩:=h
 cases rx;obtain ⟨t,rfl⟩:=ry;obtain ⟨its,r,pl,hz⟩:=I.list hq;obtain ⟨j,h1,h2,h3,h4,h5⟩:=oF he;obtain ⟨w,ew,rw'⟩:=r.get h2;have hl:=r.length;have hn:=jj;have fin:EP X pins Z Q w s:=⟨z,H,I,rw',q⟩;by_cases h0:0<=i
 .have hj:i.toNat=j:=by
   rw [seqIndex_of h0 h5] at h1;exact Ym h1
  exact item_listR pl.isList h0 (by rfl') (by rw [hj];simpa using ew) fin hs
 .have hj:(i+(its.toArray.size:Int)).toNat=j:=by
   rw [seqIndex_neg (by rfl') h4] at h1;rw [Zu,<- hl];exact Ym h1
  exact subscriptTail_builtinR (x:=w) pl.isList.typeIs slot_list_getitem.lookup
   (wpAny_getItem_list_neg (Q:=λ r s'=>r=w/\EP X pins Z Q r s') pl.isList (by rfl') (by rw [Zu]<;>rfl') (by rfl') (by rw [hj];simpa using ew) ⟨rfl,fin⟩) hs
theorem JG:Om X (aR X.K):=by
 intro value slice pins s Z H x y v u Q I rx ry h hs;obtain ⟨p,xs,i,z,rfl,rfl,hq,he,q⟩:=h
 cases rx;obtain ⟨t,rfl⟩:=ry;obtain ⟨its,r,pl,hz⟩:=I.tuple hq;obtain ⟨j,h1,h2,h3,h4,h5⟩:=oF he;obtain ⟨w,ew,rw'⟩:=r.get h2;have hl:=r.length;have hn:=jj;have fin:EP X pins Z Q w s:=⟨z,H,I,rw',q⟩;exact subscriptTail_builtinR (x:=w) pl.typeIs slot_tuple_getitem.lookup
  (getItem_tuple (j:=j) (Q:=λ r s'=>r=w/\EP X pins Z Q r s') pl (by rfl') (by rfl') (by rw [Zu,<- hl];exact h1) (by simpa using ew) ⟨rfl,fin⟩) hs
theorem JH:Om X JF:=by
 intro value slice pins s Z H x y v u Q I rx ry h hs;obtain ⟨z,i,c,rfl,rfl,hz,he,q⟩:=h;obtain ⟨t,rfl⟩:=rx;obtain ⟨t',rfl⟩:=ry;obtain ⟨j,h1,h2,h3,h4,h5⟩:=oF he;have hl:z.cps.toList.length=z.length:=by simp [Str.length]
 rw [hl] at h1 h4 h5;have hn:=jj;exact tail_any (typeIs_str s z t) slot_str_getitem.lookup (getItem_str (c:=c) (by
  have e1:decide (i< -(2^63:Int))=false:=Yf (by rfl');have e2:decide (i>=2^63)=false:=Yf (by rfl');rw [e1,e2,Bool.or_false]) (by rw [h1];simpa using h2) ⟨.str ⟨#[c]⟩,H,I.tok _,⟨_,rfl⟩,q⟩) hs
theorem tH (its:List Value) (n j:Nat) (u:Value):Obj.mapSeq (·.setIfInBounds j u) { cls:= .type "list",data:= .seq its.toArray n }={ cls:= .type "list",data:= .seq (its.set j u).toArray n }:=by
 simp [Obj.mapSeq]
theorem Inv.lst {s:Shared} (I:Inv X pins Z H s) (h:H p=some (.lst xs)):
  ∃ (its:List Value) (n:Nat),Vals xs its/\s.heap.get? p=some { cls:= .type "list",data:= .seq its.toArray n }/\xs.length<=sizeLine:=by
 obtain ⟨z,its,n,r,e⟩:=I.hok p _ h;exact ⟨its,n,r,e,z⟩
theorem Inv.lstUpd {s:Shared} {ys:List V} {n':Nat} {f:Obj->Obj} (I:Inv X pins Z H s) (h:H p=some (.lst xs))
  (ho:s.heap.get? p=some { cls:= .type "list",data:= .seq its.toArray n }) (hf:f { cls:= .type "list",data:= .seq its.toArray n }={ cls:= .type "list",data:= .seq its'.toArray n' }) (r:Vals ys its') (hz:ys.length<=sizeLine) (t:Nat):
  Inv X pins Z (upd H p (.lst ys)) { s with heap:=s.heap.update p f,toks:=t }:=by
 have e:(s.heap.update p f).get? p=some { cls:= .type "list",data:= .seq its'.toArray n' }:=by
  rw [Ww f ho (by rw [hf]<;>rfl),hf]
 refine I.write (x:=p) (e:=p) (by rw [h];trivial) (.inl rfl) (λ b u hb q=>(Heap.get?_update_other _ _ (Ne.symm hb)).trans q) ⟨_,e⟩ ?_;exact ⟨hz,its',n',r,e⟩
def vL:V->V->V->Hp->(Hp->Prop)->Prop:=λ o i v H Q=> ∃p xs k j,o= .ref p/\i= .int k/\H p=some (.lst xs)/\Ij xs.length k=some j/\Q (upd H p (.lst (xs.set j v)))
theorem set_list:P0 X vL:=by
 intro pins s Z H o i v ov iv u Q I ro ri rv h;obtain ⟨p,xs,k,j,rfl,rfl,hp,hj,q⟩:=h
 cases ro;obtain ⟨t,rfl⟩:=ri;obtain ⟨its,n,r,ho,hz⟩:=I.lst hp;obtain ⟨h1,h2,h3,h4⟩:=vK hj;have hl:=r.length;have hn:=jj;have I':Inv X pins Z (upd H p (.lst (xs.set j v))) { s with heap:=s.heap.update p (Obj.mapSeq (·.setIfInBounds j u)) }:=
  I.lstUpd hp ho (tH its n j u) (r.set rv j) (by rw [List.length_set];exact hz) s.toks
 by_cases h0:0<=k
 .have hk:k.toNat=j:=by
   rw [seqIndex_of h0 h4] at h1;exact Ym h1
  exact PySem.W.ki_setAt ho h0 (by rfl') (by rw [Zu,<- hl];exact h4) (by rw [hk];exact ⟨_,I',q⟩)
 .have hk:(k+(its.toArray.size:Int)).toNat=j:=by
   rw [seqIndex_neg (by rfl') h3] at h1;rw [Zu,<- hl];exact Ym h1
  exact PySem.W.ki_setBack ho (by rfl') (by rw [Zu,<- hl];exact h3) (by rfl') (by rw [hk];exact ⟨_,I',q⟩)
theorem oG (lo hi:Option Int) (n:Nat):(sliceBounds lo hi none n).1=((HT.cP n 0 lo:Nat):Int)/\(sliceBounds lo hi none n).2.1=((HT.cP n n hi:Nat):Int)/\(sliceBounds lo hi none n).2.2=1:=by
 refine ⟨?_,?_,rfl⟩
 .cases lo with
  | none=>simp [sliceBounds,HT.cP]
  | some i=>
   simp only [sliceBounds,HT.cP,Option.getD_none,show (1:Int)>0 by decide,if_true];by_cases h:i<0
   .simp only [h,if_true]<;>rfl'
   .simp only [h,Xr]<;>rfl'
 .cases hi with
  | none=>simp [sliceBounds,HT.cP]
  | some i=>
   simp only [sliceBounds,HT.cP,Option.getD_none,show (1:Int)>0 by decide,if_true];by_cases h:i<0
   .simp only [h,if_true]<;>rfl'
   .simp only [h,Xr]<;>rfl'
theorem m8 (its:List Value) (lo hi:Option Int):slicePick its.toArray lo hi none=((its.drop (HT.cP its.length 0 lo)).take (HT.cP its.length its.length hi-HT.cP its.length 0 lo)).toArray:=by
 obtain ⟨h1,h2,h3⟩:=oG lo hi its.toArray.size;unfold slicePick;rw [h1,h2,h3];simp only [sliceRange_one,pick_run,Zu]<;>rfl
def qy (K:W.Frag):V->Option Int->Option Int->Hp->VK->Prop:=λ x lo hi H Q=> ∃a xs,x= .ref a/\SqL K H a xs/\ ∀p,H p=none->Q (.ref p) (upd H p (.lst (dU xs lo hi)))
theorem Fb:Ii X (qy X.K):=by
 intro pins s Z H x v vl vu lo hi sl Q I rx hs pl pu h;obtain ⟨a,xs,rfl,hx,q⟩:=h
 cases rx;obtain ⟨its,r,ht,hz⟩:=I.list hx;have hlen:=r.length;refine ⟨"list",_,slot_list_getitem.lookup,ht.isList.typeIs,?_⟩;refine wpAny_getItem_list_slice ht.isList hs pl pu .none (by simp) ?_ (by rw [Zu]<;>rfl');rw [m8,<- hlen];refine ⟨.ref s.heap.objs.size,_,I.laid (t':=s.toks) (o:= .lst (dU xs lo hi)) (λ b ob q=>Zf _ q) (Zk _) ?_,rfl,q _ (I.hok.fresh (Zk _))⟩;exact ⟨Nat.le_trans (jB xs lo hi) hz,_,0,(r.drop (HT.cP xs.length 0 lo)).take (HT.cP xs.length xs.length hi-HT.cP xs.length 0 lo),Zt _ rfl⟩
def dN:V->Bool
 | .non=>true
 | .bl _=>true
 | .int _=>true
 | .str _=>true
 | _=>false
def yr:V->V->Bool
 | .non, .non=>true
 | .bl a, .bl b=>a==b
 | .bl a, .int b=>(if a then 1 else 0)==b
 | .int a, .bl b=>a==(if b then 1 else 0)
 | .int a, .int b=>a==b
 | .str a, .str b=>a==b
 | _,_=>false
theorem JK {s:Shared} (ry:RelV y u) (rx:RelV x v) (fy:dN y=true) (fx:dN x=true):SeqAt.EqAt A s u v (yr y x):=by
 cases y with
 | non=>
  cases ry
  cases x with
  | non=>cases rx;exact SeqAt.EqAt.same _
  | bl b=>cases rx;exact SeqAt.EqAt.none_bool b
  | int b=>obtain ⟨t,rfl⟩:=rx;exact SeqAt.EqAt.none_int b t
  | str b=>obtain ⟨t,rfl⟩:=rx;exact SeqAt.EqAt.none_str b t
  | _=>exact absurd (show false=true from fx) Zr
 | bl a=>
  cases ry
  cases x with
  | non=>cases rx;exact SeqAt.EqAt.bool_none a
  | bl b=>cases rx;exact SeqAt.EqAt.bool_bool a b
  | int b=>obtain ⟨t,rfl⟩:=rx;exact SeqAt.EqAt.bool_int a b t
  | str b=>obtain ⟨t,rfl⟩:=rx;exact SeqAt.EqAt.bool_str a b t
  | _=>exact absurd (show false=true from fx) Zr
 | int a=>
  obtain ⟨t',rfl⟩:=ry
  cases x with
  | non=>cases rx;exact SeqAt.EqAt.int_none a t'
  | bl b=>cases rx;exact SeqAt.EqAt.int_bool a t' b
  | int b=>obtain ⟨t,rfl⟩:=rx;exact SeqAt.EqAt.int_int a t' b t
  | str b=>obtain ⟨t,rfl⟩:=rx;exact SeqAt.EqAt.int_str a t' b t
  | _=>exact absurd (show false=true from fx) Zr
 | str a=>
  obtain ⟨t',rfl⟩:=ry
  cases x with
  | non=>cases rx;exact SeqAt.EqAt.str_none a t'
  | bl b=>cases rx;exact SeqAt.EqAt.str_bool a t' b
  | int b=>obtain ⟨t,rfl⟩:=rx;exact SeqAt.EqAt.str_int a t' b t
  | str b=>obtain ⟨t,rfl⟩:=rx;exact SeqAt.EqAt.str_str a t' b t
  | _=>exact absurd (show false=true from fx) Zr
 | _=>exact absurd (show false=true from fy) Zr
def tK (x:V) (u:Value):Bool:=match u with
 | .none=>yr .non x
 | .bool b=>yr (.bl b) x
 | .int i _=>yr (.int i) x
 | .str z _=>yr (.str z) x
 | _=>false
theorem z7 (r:RelV y u) (f:dN y=true):tK x u=yr y x:=by
 cases y with
 | non=>cases r;rfl
 | bl b=>cases r;rfl
 | int i=>obtain ⟨t,rfl⟩:=r;rfl
 | str z=>obtain ⟨t,rfl⟩:=r;rfl
 | _=>exact absurd (show false=true from f) Zr
theorem iU {x:V}: ∀ {xs:List V} {us:List Value},Vals xs us->xs.all dN=true->us.any (tK x)=xs.any λ y=>yr y x
 | _,_, .nil,_=>rfl
 | y::xs,u::us, .cons r t,f=>by
  rw [List.all_cons,Xo] at f;rw [List.any_cons,List.any_cons,z7 r f.1,iU t f.2]
theorem gC {A:Around} {s:Shared} {x:V} {v:Value} (rx:RelV x v) (fx:dN x=true): ∀ {xs:List V} {us:List Value},Vals xs us->xs.all dN=true-> ∀u∈us,SeqAt.EqAt A s u v (tK x u)
 | _,_, .nil,_=>λ u hu=>by cases hu
 | y::xs,u::us, .cons r t,f=>λ u' hu=>by
  rw [List.all_cons,Xo] at f;rcases Zm.mp hu with rfl | hu
  .rw [z7 r f.1];exact JK r rx f.1 fx
  .exact gC rx fx t f.2 u' hu
def inV (x:V) (xs:List V):Bool:=xs.any λ y=>yr y x
def yt (K:W.Frag) (neg:Bool):R2:=λ x y H Q=> ∃p xs,y= .ref p/\(SqL K H p xs\/SqT K H p xs)/\dN x=true/\xs.all dN=true/\Q (.bl (if neg then !inV x xs else inV x xs)) H
theorem xn:ir X (compareOp .In) (yt X.K false):=by
 intro pins s Z H x y v u Q I rx ry h;obtain ⟨p,xs,rfl,hq,fx,fs,q⟩:=h
 cases ry;rcases hq with hq | hq
 .obtain ⟨its,r,pl,hz⟩:=I.list hq;refine SeqAt.in_listAt (tK x) pl.isList (λ w hw=>gC rx fx r fs w (by simpa using hw)) ⟨.bl _,H,I,rfl,?_⟩;rw [show its.toArray.any (tK x)=its.any (tK x) by simp,iU r fs];exact q
 .obtain ⟨its,r,pl,hz⟩:=I.tuple hq;refine SeqAt.in_tupleAt (tK x) pl (λ w hw=>gC rx fx r fs w (by simpa using hw)) ⟨.bl _,H,I,rfl,?_⟩;rw [show its.toArray.any (tK x)=its.any (tK x) by simp,iU r fs];exact q
theorem oH:ir X (compareOp .NotIn) (yt X.K true):=by
 intro pins s Z H x y v u Q I rx ry h;obtain ⟨p,xs,rfl,hq,fx,fs,q⟩:=h
 cases ry;rcases hq with hq | hq
 .obtain ⟨its,r,pl,hz⟩:=I.list hq;refine SeqAt.notIn_listAt (tK x) pl.isList (λ w hw=>gC rx fx r fs w (by simpa using hw)) ⟨.bl _,H,I,rfl,?_⟩;rw [show its.toArray.any (tK x)=its.any (tK x) by simp,iU r fs];exact q
 .obtain ⟨its,r,pl,hz⟩:=I.tuple hq;refine SeqAt.notIn_tupleAt (tK x) pl (λ w hw=>gC rx fx r fs w (by simpa using hw)) ⟨.bl _,H,I,rfl,?_⟩;rw [show its.toArray.any (tK x)=its.any (tK x) by simp,iU r fs];exact q
theorem oJ:bH X (.type "list") (λ xs H Q=> ∃p ys,xs=[.ref p]/\(SqL X.K H p ys\/SqT X.K H p ys)/\ ∀l,H l=none->Q (.ref l) (upd H l (.lst ys))):=by
 intro pins s Z H xs us Q I r h;obtain ⟨p,ys,rfl,hq,q⟩:=h;obtain ⟨u,rfl,rx⟩:=vals1 r
 cases rx;have fin: ∀ (its:List Value),Vals ys its->ys.length<=sizeLine-> ∀ (h':Heap) (c':Nat),(∀b o',s.heap.get? b=some o'->h'.get? b=some o')->
   h'.get? s.heap.objs.size=some { cls:= .type "list",dict:=none,data:= .seq its.toArray c',slots:= #[] }->EP X pins Z Q (.ref s.heap.objs.size) { s with heap:=h' }:=λ its r' hz h' c' kp e=>
  ⟨.ref s.heap.objs.size,_,I.laid (t':=s.toks) kp (Zk _) (show ObjOk X.prog X.w _ h' _ (.lst ys) from ⟨hz,its,c',r',e⟩),rfl,q _ (I.hok.fresh (Zk _))⟩
 rcases hq with hq | hq
 .obtain ⟨its,r',pl,hz⟩:=I.list hq;have hlen:=r'.length;obtain ⟨o,ho,hc,n,hd⟩:=pl.isList;exact call_list_seq p (.inl rfl) ho hc hd (λ h' c' kp e=>fin its r' hz h' c' kp e) (by simp only [Zu]<;>rfl')
 .obtain ⟨its,r',pl,hz⟩:=I.tuple hq;have hlen:=r'.length;obtain ⟨o,ho,hc,n,hd⟩:=pl;exact call_list_seq p (.inr rfl) ho hc hd (λ h' c' kp e=>fin its r' hz h' c' kp e) (by simp only [Zu]<;>rfl')
theorem m9:bH X (.type "tuple") (λ xs H Q=> ∃p ys,xs=[.ref p]/\((SqL X.K H p ys/\ ∀l,H l=none->Q (.ref l) (upd H l (.tup ys)))\/(SqT X.K H p ys/\Q (.ref p) H))):=by
 intro pins s Z H xs us Q I r h;obtain ⟨p,ys,rfl,h⟩:=h;obtain ⟨u,rfl,rx⟩:=vals1 r
 cases rx;rcases h with ⟨hq,q⟩ | ⟨hq,q⟩
 .obtain ⟨its,r',pl,hz⟩:=I.list hq;have hlen:=r'.length;refine call_tuple_list pl.isList (λ h' kp=> ?_) (by simp only [Zu]<;>rfl');have I1:Inv X pins Z H { s with heap:=h' }:=I.kept (t':=s.toks) kp;have I2:Inv X pins Z (upd H h'.objs.size (.tup ys)) { s with heap:=h'.push { cls:= .type "tuple",data:= .seq its.toArray } }:=
   I1.laid (t':=s.toks) (λ b o e=>Zf _ e) (Zk _) (show ObjOk X.prog X.w _ _ _ (.tup ys) from ⟨hz,its,r',IsTup.new _ _⟩)
  exact ⟨.ref h'.objs.size,_,I2,rfl,q _ (I1.hok.fresh (Zk _))⟩
 .obtain ⟨its,r',pl,hz⟩:=I.tuple hq;exact call_tuple_same pl ⟨.ref p,H,I,rfl,q⟩
def JL (K:W.Frag) (T:String) (x:V) (H:Hp):Prop:=match x with
 | .str _=>T="str"
 | .int _=>T="int"
 | .ref p=>(T="list"/\ ∃xs,SqL K H p xs)\/(T="tuple"/\ ∃o,K.lookup p=some o/\o.cls= .type "tuple"/\o.dict=none)\/
   (T="dict"/\((∃kvs,H p=some (.dK kvs))\/ ∃kvs,H p=some (.dT kvs)))\/(T="set"/\ ∃S n,H p=some (.set S n))
 | _=>False
theorem z8 {s:Shared} {T:String} (I:Inv X pins Z H s) (r:RelV x v) (ty:JL X.K T x H):
  s.TypeIs v T/\ ∀a,v= .ref a-> ∃ob,s.heap.get? a=some ob/\ob.dict=none:=by
 cases x with
 | str z=>
  obtain ⟨t,rfl⟩:=r
  cases (show T="str" from ty);exact ⟨typeIs_str s z t,λ _ e=>nomatch e⟩
 | int i=>
  obtain ⟨t,rfl⟩:=r
  cases (show T="int" from ty);exact ⟨typeIs_int s i t,λ _ e=>nomatch e⟩
 | ref p=>
  cases r;rcases ty with ⟨rfl,xs,hq⟩ | ⟨rfl,o,hk,hc,hd⟩ | ⟨rfl,hk⟩ | ⟨rfl,S,n,hk⟩
  .obtain ⟨its,_,pl,_⟩:=I.list hq;refine ⟨pl.isList.typeIs,λ a e=> ?_⟩
   cases e;obtain ⟨o,n,e,c,hd,_⟩:=pl;exact ⟨o,e,hd⟩
  .refine ⟨⟨o,I.kIn p o hk,hc⟩,λ a e=> ?_⟩
   cases e;exact ⟨o,I.kIn _ o hk,hd⟩
  .have z: ∃o,s.heap.get? p=some o/\o.ExactDict:=by
    rcases hk with ⟨kvs,hk⟩ | ⟨kvs,hk⟩
    .obtain ⟨_,_,_,_,o,_,_,e,ex,_⟩:=I.hok p _ hk;exact ⟨o,e,ex⟩
    .obtain ⟨_,_,_,_,o,_,_,e,ex,_⟩:=I.hok p _ hk;exact ⟨o,e,ex⟩
   obtain ⟨o,e,ex⟩:=z;refine ⟨⟨o,e,ex.1⟩,λ a e2=> ?_⟩
   cases e2;exact ⟨o,e,ex.2.1⟩
  .obtain ⟨o,_,_,_,e,ex,_⟩:=I.hok p _ hk;refine ⟨⟨o,e,ex.1⟩,λ a e2=> ?_⟩
   cases e2;exact ⟨o,e,ex.2.1⟩
 | _=>exact False.elim ty
def Fd (K:W.Frag) (T:String) (r:V->List V->Hp->VK->Prop) (to:TE):TE:=λ Z H Q=>to Z H λ x H1=>JL K T x H1/\r x [] H1 Q
def qz (K:W.Frag) (T:String) (r:V->List V->Hp->VK->Prop) (to:TE) (t:TA):TE:=λ Z H Q=>to Z H λ x H1=>JL K T x H1/\t Z H1 λ xs H2=>r x xs H2 Q
variable {o e:Expr} {es:List Expr} {to:TE} {t:TA} {name:Str} {apos cpos:Pos} {T id:String} {r:V->List V->Hp->VK->Prop}
theorem JM (pa:PlainAttrs T) (slot:Slot T name id) (hty:typeOf (.builtin id)=pure (.type "method_descriptor")) (hm:Su X id r) (ho:PE X o to)
  (hbase:attributeBase o name X.env (eval o X.env)=eval o X.env:=by rfl) (hline:(apos.endLine==cpos.line)=true:=by rfl):PE X (.Call (.Attribute o name apos) [] [] cpos) (Fd X.K T r to):=by
 intro pins s Z H Q I h;refine wpAny_Call_method0_late hbase hline (bB (ho pins s Z H _ I h) λ v s1 ⟨x,H1,I1,r1,ty,q1⟩=> ?_);obtain ⟨h1,h2⟩:=z8 I1 r1 ty;exact ⟨T,id,pa,slot,hty,h1,h2,Calls.callWith_builtin rfl (PySem.evalArgs_none (hm pins s1 Z H1 x [] v [] Q I1 r1 .nil q1))⟩
theorem Pk (pa:PlainAttrs T) (slot:Slot T name id) (hty:typeOf (.builtin id)=pure (.type "method_descriptor")) (hm:Su X id r) (ho:PE X o to) (ha:PA X (e::es) t)
  (hbase:attributeBase o name X.env (eval o X.env)=eval o X.env:=by rfl)
  (hfew:((backTo cpos (starEach (e::es) X.env)).all (λ x=> !x.1)&&(backToKw cpos (keywordEach [] X.env)).all (λ x=>x.1.isSome)
   &&decide ((e::es).length+([]:List Keyword).length+(if ([]:List Keyword).isEmpty then 0 else 1)<30))=true:=by rfl)
  (hline:(apos.endLine==cpos.line)=true:=by rfl) (hs:starEach (e::es) X.env=(false,eval e X.env)::starEach es X.env:=by rfl) (hplain:(backTo cpos (starEach es X.env)).any (·.1)=false:=by rfl):
  PE X (.Call (.Attribute o name apos) (e::es) [] cpos) (qz X.K T r to t):=by
 intro pins s Z H Q I h;refine wpAny_Call_method_late hbase hfew hline rfl (bB (ho pins s Z H _ I h) λ v s1 ⟨x,H1,I1,r1,ty,q1⟩=> ?_);obtain ⟨h1,h2⟩:=z8 I1 r1 ty;refine ⟨T,id,pa,slot,hty,h1,h2,?_⟩;have hA:=ha cpos pins s1 Z H1 _ I1 q1;rw [hs] at hA ⊢;refine Calls.callWith_builtin (by show (false||(backTo cpos (starEach es X.env)).any (·.1))=false;rw [hplain]<;>rfl) (Calls.evalArgs_plain ?_);exact bB hA λ us s2 ⟨vs,H2,I2,r2,q2⟩=>hm pins s2 Z H2 x vs v us Q I2 r1 r2 q2
end
def Sv (X:Cx) (id:String) (r:V->List V->Hp->VK->Prop):Prop:=
 ∀ (pins:List (Addr×Obj)) (s:Shared) (Z:St) (H:Hp) (x:V) (xs:List V) (v:Value) (us:List Value) (Q:VK),Inv X pins Z H s->RelV x v->Vals xs us->r x xs H Q->
  wpAny (model X.prog X.w) X.A (call (.builtin id) (v::us)) (EP X pins Z Q) X.xe s
theorem Vals.one: ∀ {x:V} {us:List Value},Vals [x] us-> ∃u,us=[u]/\RelV x u
 | _,_, .cons r .nil=>⟨_,rfl,r⟩
theorem Vals.two: ∀ {x y:V} {us:List Value},Vals [x,y] us-> ∃u v,us=[u,v]/\RelV x u/\RelV y v
 | _,_,_, .cons r (.cons q .nil)=>⟨_,_,rfl,r,q⟩
theorem Vals.zero: ∀ {us:List Value},Vals [] us->us=[]
 | _, .nil=>rfl
theorem Vals.dropLast (h:Vals xs us):Vals xs.dropLast us.dropLast:=by
 induction h with
 | nil=>exact .nil
 | cons r t ih=>
  cases t with
  | nil=>exact .nil
  | cons q t'=>exact .cons r ih
theorem Vals.eraseIdx: ∀ {xs:List V} {us:List Value} (i:Nat),Vals xs us->Vals (xs.eraseIdx i) (us.eraseIdx i)
 | _,_,_, .nil=> .nil
 | _,_,0, .cons _ t=>t
 | _,_,i+1, .cons r t=> .cons r (Vals.eraseIdx i t)
theorem tL {α:Type} (l:List α):l.eraseIdx (l.length-1)=l.dropLast:=by
 induction l with
 | nil=>rfl
 | cons a r ih=>
  cases r with
  | nil=>rfl
  | cons b r=>
   have e:(a::b::r).length-1=((b::r).length-1)+1:=by
    have h1:(a::b::r).length=r.length+2:=rfl;have h2:(b::r).length=r.length+1:=rfl;rfl'
   rw [e,List.eraseIdx_cons_succ,ih];all_goals rfl
theorem mL {α:Type}: ∀ (l:List α) (i:Nat),(l.eraseIdx i).length<=l.length
 | [],_=>Zk _
 | _::_,0=>Nat.le_succ _
 | _::r,i+1=>Nat.succ_le_succ (mL r i)
section
variable {X:Cx} {pins:List (Addr×Obj)} {Z:St} {H:Hp} {s:Shared} {l b:Addr} {xs ys zs:List V}
theorem Inv.lset (I:Inv X pins Z H s) (hH:H l=some (.lst xs))
  (e:s.heap.get? l=some { cls:= .type "list",data:= .seq its.toArray n }) (hf:f its.toArray=its'.toArray) (hv:Vals ys its') (hz:ys.length<=sizeLine):
  Inv X pins Z (upd H l (.lst ys)) { s with heap:=s.heap.update l (Obj.mapSeq f),toks:=t' }:=by
 have q:=PySem.IsL.update e f;rw [hf] at q;refine I.write (x:=l) (e:=l) (by rw [hH];exact trivial) (.inl rfl) (λ b' u hb hu=>(Heap.get?_update_other s.heap (Obj.mapSeq f) (Ne.symm hb)).trans hu) ⟨_,q⟩ ?_;exact ⟨hz,its',_,hv,q⟩
theorem Inv.lnew (I:Inv X pins Z H s) (hv:Vals ys its) (hz:ys.length<=sizeLine):
  Inv X pins Z (upd H s.heap.objs.size (.lst ys)) { s with heap:=s.heap.push { cls:= .type "list",data:= .seq its.toArray },toks:=t' }:=
 I.laid (λ _ _ q=>Zf _ q) (Zk _) ⟨hz,its,0,hv,Zt _ rfl⟩
theorem Inv.fresh (I:Inv X pins Z H s):H s.heap.objs.size=none:=I.hok.fresh (Zk _)
theorem Inv.lstM (I:Inv X pins Z H s) (hH:H l=some (.lst xs)):xs.length<=sizeLine/\ ∃ (its:List Value) (n:Nat),Vals xs its/\xs.length=its.length/\s.heap.get? l=some { cls:= .type "list",data:= .seq its.toArray n }:=by
 obtain ⟨z,its,n,r,e⟩:=I.hok l _ hH;exact ⟨z,its,n,r,r.length,e⟩
theorem z9 (h:n<=sizeLine):Builtin.List.listTooLong n=false:=by
 unfold Builtin.List.listTooLong;exact Yf (by rfl')
end
section
variable {X:Cx}
def cu:V->List V->Hp->VK->Prop:=λ x vs H Q=> ∃l xs y,x= .ref l/\vs=[y]/\H l=some (.lst xs)/\xs.length<sizeLine/\Q .non (upd H l (.lst (xs++[y])))
theorem xq:Sv X "list.append" cu:=by
 intro pins s Z H x vs v us Q I rx rv h;obtain ⟨l,xs,y,rfl,rfl,hH,hz,q⟩:=h
 cases rx;obtain ⟨u,rfl,ru⟩:=rv.one;obtain ⟨z,its,n,r,hl,e⟩:=I.lstM hH;refine call_meets F.slot_list_append ⟨_,e,rfl⟩ F.entry_list_append (F.args_list_append_2 _ _) (PySem.list_append l its.toArray n u (by rw [Zu];rfl')) ⟨e,?_⟩;refine ⟨.non,_,I.lset (its':=its++[u]) hH e (by simp) (r.append (.cons ru .nil)) ?_,rfl,q⟩;rw [Zg,Yn];rfl'
def oK:V->List V->Hp->VK->Prop:=λ x vs H Q=> ∃l b xs zs,x= .ref l/\vs=[.ref b]/\H l=some (.lst xs)/\H b=some (.lst zs)/\xs.length+zs.length<=sizeLine/\Q .non (upd H l (.lst (xs++zs)))
theorem xr:Sv X "list.extend" oK:=by
 intro pins s Z H x vs v us Q I rx rv h;obtain ⟨l,b,xs,zs,rfl,rfl,hH,hB,hz,q⟩:=h
 cases rx;obtain ⟨u,rfl,ru⟩:=rv.one
 cases ru;obtain ⟨z,its,n,r,hl,e⟩:=I.lstM hH;obtain ⟨z2,its2,n2,r2,hl2,e2⟩:=I.lstM hB;have hsz:its.toArray.size+its2.toArray.size<=sizeLine:=by rw [Zu,Zu];rfl'
 have hlong: ¬ (!its.toArray.isEmpty&&Builtin.List.listTooLong (its.toArray.size+its2.toArray.size))=true:=by
  rw [z9 hsz,Bool.and_false];exact Zr
 refine call_meets F.slot_list_extend ⟨_,e,rfl⟩ F.entry_list_extend (F.args_list_extend_2 _ _)
  (AutoSeq1.list_extend_list_list_0 l its.toArray n b its2.toArray n2 hlong (by rw [Zu];rfl') (by rfl')) ⟨e,e2,?_⟩
 refine ⟨.non,_,I.lset (its':=its++its2) hH e (by simp) (r.append r2) ?_,rfl,q⟩;rw [Zg];rfl'
def JN:V->List V->Hp->VK->Prop:=λ x vs H Q=> ∃l xs y,x= .ref l/\vs=[]/\H l=some (.lst xs)/\xs[xs.length-1]? =some y/\Q y (upd H l (.lst xs.dropLast))
theorem JP:Sv X "list.pop" JN:=by
 intro pins s Z H x vs v us Q I rx rv h;obtain ⟨l,xs,y,rfl,rfl,hH,hy,q⟩:=h
 cases rx;have hus:=rv.zero;subst hus;obtain ⟨z,its,n,r,hl,e⟩:=I.lstM hH;obtain ⟨u,hu,ru⟩:=r.get hy;have hy':its.toArray[its.toArray.size-1]? =some u:=by
  show its.toArray[its.length-1]? =some u;rw [<- Xf,<- hl];exact hu
 refine call_meets F.slot_list_pop ⟨_,e,rfl⟩ F.entry_list_pop (F.args_list_pop_1 _) (MeetsSeq.list_pop_last l its.toArray n u hy' (by rw [Zu];rfl')) ⟨e,?_⟩;refine ⟨y,_,I.lset (its':=its.dropLast) hH e ?_ r.dropLast ?_,ru,q⟩
 .show its.toArray.eraseIdxIfInBounds (its.toArray.size-1)=its.dropLast.toArray;rw [Zu,List.eraseIdxIfInBounds_toArray,tL]
 .rw [List.length_dropLast];rfl'
def tM:V->List V->Hp->VK->Prop:=λ x vs H Q=> ∃l xs i k y,x= .ref l/\vs=[.int i]/\H l=some (.lst xs)/\ -(2^63)<=i/\i<2^63/\seqIndex? i xs.length=some k/\xs[k]? =some y/\Q y (upd H l (.lst (xs.eraseIdx k)))
theorem zb:Sv X "list.pop" tM:=by
 intro pins s Z H x vs v us Q I rx rv h;obtain ⟨l,xs,i,k,y,rfl,rfl,hH,h1,h2,hk,hy,q⟩:=h
 cases rx;obtain ⟨u,rfl,ru⟩:=rv.one;obtain ⟨t,rfl⟩:=ru;obtain ⟨z,its,n,r,hl,e⟩:=I.lstM hH;obtain ⟨w,hw,rw'⟩:=r.get hy;refine call_meets F.slot_list_pop ⟨_,e,rfl⟩ F.entry_list_pop (F.args_list_pop_2 _ _)
  (MeetsSeq.list_pop_at l its.toArray n i t k w (fitsIndex_both h1 h2) (by rw [Zu,<- hl];exact hk) (by rw [<- Xf];exact hw) (by rw [Zu];rfl')) ⟨e,?_⟩
 refine ⟨y,_,I.lset (its':=its.eraseIdx k) hH e ?_ (r.eraseIdx k) ?_,rw',q⟩
 .show its.toArray.eraseIdxIfInBounds k=(its.eraseIdx k).toArray;rw [List.eraseIdxIfInBounds_toArray]
 .have:=mL xs k;rfl'
def Pn:R2:=λ x y H Q=> ∃l b xs zs,x= .ref l/\y= .ref b/\H l=some (.lst xs)/\H b=some (.lst zs)/\xs.length+zs.length<=sizeLine/\ ∀p,H p=none->Q (.ref p) (upd H p (.lst (xs++zs)))
theorem JQ:ir X (binaryOp .Add) Pn:=by
 intro pins s Z H x y v u Q I rx ry h;obtain ⟨l,b,xs,zs,rfl,rfl,hH,hB,hz,q⟩:=h
 cases rx
 cases ry;obtain ⟨z,its,n,r,hl,e⟩:=I.lstM hH;obtain ⟨z2,its2,n2,r2,hl2,e2⟩:=I.lstM hB;refine PySem.P.add_list e e2 ?_ (by rw [Zu,Zu];rfl');have ea:its.toArray++its2.toArray=(its++its2).toArray:=by simp
 rw [ea];exact ⟨.ref _,_,I.lnew (t':=s.toks) (r.append r2) (by rw [Zg];rfl'),rfl,q _ I.fresh⟩
end
end L2
namespace Att
open PySem PySem.W PySem.Calls PyProof.Rows
variable {args:List WData} {vals:List Value}
theorem jJ {P:Params} {h:Heap}: ∀ (ns:List Int) (vs:List Value),WellAll P h vs (ns.map WData.int)->IntsAre vs ns:=by
 intro ns;induction ns with
 | nil=>
  intro vs w;rw [Xq] at w
  cases w;exact .nil
 | cons n ns ih=>
  intro vs w;rw [Zl] at w
  cases w with
  | cons a b=>
   cases a;exact .cons _ _ (ih _ b)
theorem xu {l:OpenLaw} {n:Nat} (hn:l.most=some n) {P:Params} {h:Heap}
  (hpre:l.row.toRowW.claim.pre args=true) (hwl:WellAll P h vals args):
  ∃a vs ns,vals=[Value.ref a]/\args=[WData.list (ns.map WData.int)]/\h.get? a=some { cls:= .type "list",data:= .seq vs.toArray }/\IntsAre vs ns/\ns.length<=n:=by
 have hsh:WShape.hasAll [] args [.list .int]=true:=(pre_splitW hpre).1;have hc:l.pre.holds [] { args:=args }=true:=(pre_splitW hpre).2;obtain ⟨d,r,rfl,h1,h2⟩:=hasAllW_cons hsh;obtain rfl:=hasAllW_nil h2;obtain ⟨xs,rfl,h3⟩:=hasW_list h1;obtain ⟨ns,rfl⟩:=items_int h3;have hlen:ns.length<=n:=by
  unfold OpenLaw.pre at hc;have h4:(WTm.not (.lt (.lit (.int (n:Int))) (.len (.arg 0)))).holds [] { args:=[.list (ns.map .int)] }=true:=by
   have h4:=(holds_andW hc).1;rw [hn] at h4;exact h4
  have h5:=condW_of h4 (w_not (w_lt w_lit (w_len_list (w_arg rfl))));rw [Qr] at h5;refine Nat.le_of_not_lt λ q=> ?_
  have q':(n:Int)<((ns.length:Nat):Int):=by rfl'
  first
   | (rw [Yj q'] at h5;exact absurd h5 (by decide))
   | (simp at h5;rfl')
 cases hwl with
 | cons w1 w2=>
  cases w2
  cases w1 with
  | list ho hall=>exact ⟨_,_,ns,rfl,rfl,ho,jJ ns _ hall,hlen⟩
theorem xx (l:OpenLaw) (args:List WData):l.row.toRowW.claim.post args (.bool true) args=true:=
 postW_of (r:=l.row.toRowW) (X:=(true==true))
  (show WShape.has [] (.bool true) .bool=true by first | rfl | decide | simp [WShape.has,WShape.arms,WShape.armsAll])
  (show (WTm.eq .res (.lit (.bool true))).value [] { args:=args,res:=some (.bool true),after:=args }=some (.bool (true==true)) from w_eq_bool (w_res rfl) w_lit) rfl
section
variable {prog:Program} {w:World} {A:Around} {E:Value->Shared->Prop} {s:Shared} {K:Frag}
def ledger (h:Heap) (L d:Addr):List (Addr×Obj):=(List.range h.objs.size).filterMap λ a=>if a=L\/a=d then none else (h.get? a).map λ o=>(a,o)
end
end Att
namespace L2
open PySem PySem.Spec PyProof.Rows
variable {y:V} {Z:St} {sp:Sp} {H H':Hp} {h':Heap} {pos:Pos} {st:Stmt} {w:World} {A:Around} {id:String} {s₁:Shared} {a b f:Addr} {qual x:Str} {fd:FuncData} {prog:Program} {d' oc u:Value} {an:Option Addr} {trs:List (TE×TE)} {values:List Expr} {pins:List (Addr×Obj)} {kvs:List (List Key×V)} {E Q:Value->Shared->Prop} {osl:Array (Option Value)} {keys ks:List (Option Expr)} {xs:List (List Key×Addr×Value)}
theorem jk: ∀ {vs:List Value} {ns:List Int},IntsAre vs ns->Vals (ns.map V.int) vs
 | _,_, .nil=> .nil
 | _,_, .cons n t h=> .cons ⟨t,rfl⟩ (jk h)
def Only (H:Hp):Prop:= ∀b,H b=none\/ ∃o xs,H b=some (.frz o (.lst xs))
theorem zc {P:Program} {K:W.Frag} {mg mb:Str->Option Value} {CX:yq} {k:Nat} {fa:Addr} {vs:List Value} {ns:List Int}
  (KX:K.In s₁.heap) (hns:s₁.heap.Ns mainGlobals mg) (hb:s₁.heap.Ns builtinsNs mb) (hbb: ∀x:Str,x≠"__name__"->mb x=bootBuiltins x) (hlim:s₁.heap.NoLimit) (hg:s₁.gens= #[])
  (ha:s₁.heap.get? a=some { cls:= .type "list",data:= .seq vs.toArray }) (hi:IntsAre vs ns) (hl:ns.length<=sizeLine) (hr:Room k callerA)
  (F: ∀base:Heap,K.In base->base.Ns mainGlobals mg->FnOk P w K mg base CX k fa fd [x] sp) (hbind: ∀ (s:Shared) (u:Value),BindsTo s fd ⟨[u],[]⟩ [(x,u)])
  (hsp: ∀H:Hp,Only H->SqL K H a (ns.map V.int)->sp [.ref a] H (λ v _=>v= .bl true) λ _ _ _=>False)
  (hCX: ∀H e s',CX [] H s₁ (λ _ _ _=>False) e s'->False):
  codeAny (model P w) callerA (.call (.ref fa) ⟨[.ref a],[]⟩) (λ r s'=>r= .ok (.ret (.bool true))/\OldK s₁.heap s'.heap/\s'.os=s₁.os/\AllBare s'.gens) s₁:=by
 have rv:=jk hi;have lenV:=hi.length;have core : ∀ H : Hp, Only H -> SqL K H a (ns.map V.int) -> HOk P w H s₁.heap -> (∀ b, H b ≠ none -> b = a) -> (H a ≠ none -> K.lookup a = none) ->
   codeAny (model P w) callerA (.call (.ref fa) ⟨[.ref a],[]⟩) (λ r s'=>r= .ok (.ret (.bool true))/\OldK s₁.heap s'.heap/\s'.os=s₁.os/\AllBare s'.gens) s₁:=by
  intro H hO hS hok hA hK;have base_of: ∀ {b:Addr} {o:Obj},s₁.heap.get? b=some o->H b=none->(oh s₁.heap H).get? b=some o:=λ e n=>yu e n
  have noA: ∀ {b:Addr} {o:Obj} {es:Array DictEntry} {ep:Nat},s₁.heap.get? b=some o->o.data= .dict es ep->H b=none:=λ {b o es ep} e d=>by
   cases q:H b with
   | none=>rfl
   | some u=>
    have e':b=a:=hA b (by rw [q];simp);subst e';rw [ha] at e;cases e;have d':Data.seq vs.toArray _=Data.dict es ep:=d
    cases d'
  have nsK: ∀ {b:Addr} {m:Str->Option Value},s₁.heap.Ns b m->(oh s₁.heap H).Ns b m:=λ {b m} ⟨o,es,ep,e,d,r⟩=>⟨o,es,ep,base_of e (noA e d),d,r⟩
  have hKb:K.In (oh s₁.heap H):=λ b o e=>base_of (KX b o e) (by
   cases q:H b with
   | none=>rfl
   | some u=>
    have e':b=a:=hA b (by rw [q];simp);subst e';rw [hK (by rw [q];simp)] at e;cases e)
  have hM:Mod K mg (oh s₁.heap H):=⟨hKb,nsK hns,⟨mb,nsK hb,hbb⟩,let ⟨mc,h1,h2⟩:=hlim;⟨mc,nsK h1,h2⟩⟩;have e0:Env0 P w K mg (oh s₁.heap H) callerA [] s₁ H:=⟨rfl,hM,λ b o e=>Em e,Nat.le_of_eq (wR _ _),trivial,λ b hb=>absurd (show b∈([]:List Addr) from hb) (by simp),hok, .of_eq hg⟩;refine codeAny_mono ((F _ hKb (nsK hns)).run callerA [] s₁ H ⟨[.ref a],[]⟩ [.ref a] [.ref a] _ _ hr e0 (hbind s₁ (.ref a)) (.cons rfl .nil) (hsp H hO hS)) λ r s' h=> ?_
  cases r with
  | error e=>exact (hCX H e s' h).elim
  | ok fl=>
   cases fl with
   | next=>exact False.elim h
   | brk=>exact False.elim h
   | cont=>exact False.elim h
   | ret u=>
    obtain ⟨v,H',os,bare,un,hok',r',q⟩:=h;have q':v= .bl true:=q;subst q';obtain rfl:u=Value.bool true:=r';refine ⟨rfl,OldK.of_keep λ b o e=> ?_,os,bare⟩
    cases q:H b with
    | none=>exact un.keep b o e q (by intro z;exact absurd (show b∈([]:List Addr) from z) (by simp)) (by simp)
    | some u=>
     rcases hO b with z | ⟨ob,xs,z⟩
     .rw [q] at z;cases z
     .have z2:=un.frzs b ob _ z;obtain ⟨e1,_⟩:=hok b _ z;obtain ⟨e2,_⟩:=hok' b _ z2;rw [e] at e1;cases e1;exact e2
 cases hk:K.lookup a with
 | some o=>
  have e:=KX a o hk;rw [ha] at e
  cases e;refine core (λ _=>none) (λ _=> .inl rfl) (.inr ⟨_,vs.toArray,_,hk,rfl,rfl,rfl,by rw [Zu,lenV];exact hl,by simpa using rv⟩) (λ b u z=>by have z':(none:Option HO)=some u:=z;cases z') (λ b z=>absurd rfl z) λ z=>absurd rfl z
 | none=>
  refine core (λ b=>if b=a then some (.frz { cls:= .type "list",data:= .seq vs.toArray } (.lst (ns.map V.int))) else none) (λ b=> ?_) (.inl (.inr ⟨{ cls:= .type "list",data:= .seq vs.toArray },if_pos rfl⟩)) (λ b u z=> ?_) (λ b z=> ?_) λ _=>hk
  .by_cases hb:b=a
   .exact .inr ⟨_,_,if_pos hb⟩
   .exact .inl (if_neg hb)
  .by_cases hb:b=a
   .have z':=(if_pos hb).symm.trans z
    cases z';subst hb;exact ⟨ha,by rw [Qr];exact hl,vs,_,rv,ha⟩
   .have z':=(if_neg hb).symm.trans z
    cases z'
  .by_cases hb:b=a
   .exact hb
   .exact absurd (if_neg hb) z
abbrev KOf {K:W.Frag} {h:Heap} (_:K.In h):W.Frag:=K
abbrev Ik:yq:=λ _ _ _ _ _ _=>False
abbrev E0:XK:=λ _ _ _=>False
theorem Pq {X:Cx}:tu Ik X E0:=λ _ _ _ _ _ _ _ h=>h.elim
structure Fun (K:W.Frag) (x qual:Str) (st:Stmt) (f:Addr) (fd:FuncData):Prop where
 ex: ∃ (oc:Value) (od:Option Addr) (kV doc pm:Value) (an:Option Addr) (cdv ct:Value) (osl:Array (Option Value)),
  fd=W.fnOf x qual (dR st) (dh st) (aF st) .none kV doc pm an cdv ct/\K.lookup f=some ⟨oc,od, .func fd,osl⟩/\W.codeIn K cdv qual=true
 kp:W.keepIn K (.ref f)=true
section
variable {P:Program} {w:World} {K:W.Frag} {mg:Str->Option Value} {base:Heap}
theorem Fun.ok {N ps:List Str} {k:Nat} (F:Fun K x qual st f fd) (S:FnScope N ps (aF st)) (len: ∀vs H Q E,sp vs H Q E->vs.length=ps.length)
  (hbody: ∀ (cdv:Value) (A:Around) (outer:List Env) (s:Shared) (H:Hp) (vs:List V) (Q:VK) (E:XK),Room k (A.deeper (envOfC qual (aF st) s.heap.objs.size f cdv))->sp vs H Q E->
   ∃t,PSs (xg Ik P w K mg base N qual (aF st) f cdv A outer s H E).nox (dh st) t/\t { nx:=λ _ H'=>Q .non H',rt:=Q } (start N vs) H):FnOk P w K mg base Ik (k+1) f fd ps sp:=by
 obtain ⟨oc,od,kV,doc,pm,an,cdv,ct,osl,rfl,lk,hcd⟩:=F.ex;refine Pj lk hcd S len λ A outer s H vs Q E hr hsp=> ?_
 obtain ⟨t,h,q⟩:=hbody cdv A outer s H vs Q E hr hsp;exact ⟨t,h.nox,q⟩
theorem Fun.binds {ps:List Str} (F:Fun K x qual st f fd)
  (h: ∀ (kV doc pm:Value) (an:Option Addr) (cdv ct:Value) (us:List Value),us.length=ps.length->bindArgs (W.fnOf x qual (dR st) (dh st) (aF st) .none kV doc pm an cdv ct) ⟨us,[]⟩=pure (ps.zip us)):Binds K fd ps []:=by
 obtain ⟨oc,od,kV,doc,pm,an,cdv,ct,osl,rfl,lk,hcd⟩:=F.ex;exact .all (h kV doc pm an cdv ct)
theorem tO {od:Option Addr} {kV doc pm cdv ct:Value} (l:K.lookup f=some ⟨oc,od, .func (W.fnOf x qual (dR st) (dh st) (aF st) .none kV doc pm an cdv ct),osl⟩)
  (c:W.codeIn K cdv qual=true) (k:W.keepIn K (.ref f)=true):Fun K x qual st f (W.fnOf x qual (dR st) (dh st) (aF st) .none kV doc pm an cdv ct):=⟨⟨oc,od,kV,doc,pm,an,cdv,ct,osl,rfl,l,c⟩,k⟩
end
theorem cF {k:Nat} (hr:Room k A):A.units+1<cLine:=Yb (Nat.add_le_add_left (by decide:1<=64) _) hr.units
theorem xF {n:Nat} (h:n<=1000):n<sizeLine:=Yb h (by decide)
section
variable {X:Cx}
theorem pv (i:Nat) {x:Str} {pos:Pos} (hN:X.N[i]? =some x:=by rfl) (hv:Ss X.env.scope x:=by first | exact Or.inl rfl | exact Or.inr (Or.inl rfl) | exact Or.inr (Or.inr rfl)) (hd:(x==("__debug__":Str))=false:=by decide)
  (hcd:(x==("__classdict__":Str))=false:=by decide):PE X (.Name x pos) (aj i):=Ji hN hv hd hcd
end
theorem zf {A B:Prop} (h:B):if false=true then A else B:=by
 rw [if_neg Zr];exact h
theorem zg {A B:Prop} (h:A):if true=true then A else B:=by
 rw [if_pos rfl];exact h
def Same (H H':Hp):Prop:= ∀b o,H b=some o->H' b=some o
theorem Same.refl (H:Hp):Same H H:=λ _ _ h=>h
theorem Same.trans {H1 H2:Hp} (a:Same H H1) (b:Same H1 H2):Same H H2:=λ c o h=>b c o (a c o h)
theorem Same.free (e:Same H H') {l:Addr} (h:H' l=Option.none):H l=Option.none:=by
 cases q:H l with
 | none=>rfl
 | some o=>
  rw [e l o q] at h
  cases h
theorem Same.seq {K:W.Frag} {xs:List V} (e:Same H H') (h:SqL K H a xs):SqL K H' a xs:=by
 rcases h with (h | ⟨o,h⟩) | h
 .exact .inl (.inl (e _ _ h))
 .exact .inl (.inr ⟨o,e _ _ h⟩)
 .exact .inr h
section
variable {κ:Type} [DecidableEq κ]
def bF (kvs:List (κ×V)) (k:κ):Option V:=(kvs.find? λ kv=>decide (kv.1=k)).map (·.2)
def putK (kvs:List (κ×V)) (k:κ) (v:V):List (κ×V):=
 if (kvs.any λ kv=>decide (kv.1=k))=true then kvs.map (λ kv=>if kv.1=k then (kv.1,v) else kv) else kvs++[(k,v)]
def cN (kvs:List (κ×V)) (k:κ):List (κ×V):=kvs.filter λ kv=>decide (kv.1≠k)
theorem c7 {p:κ×V} {r:List (κ×V)} {k:κ} (e:p.1=k):bF (p::r) k=some p.2:=by simp [bF,List.find?_cons,e]
theorem bQ {p:κ×V} {r:List (κ×V)} {k:κ} (e: ¬p.1=k):bF (p::r) k=bF r k:=by simp [bF,List.find?_cons,e]
theorem kO (k:κ): ∀kvs:List (κ×V),(kvs.any λ kv=>decide (kv.1=k))=(bF kvs k).isSome
 | []=>rfl
 | p::r=>by
  rw [List.any_cons];by_cases e:p.1=k
  .simp only [c7 e,Yj e,Bool.true_or,Option.isSome_some]
  .rw [bQ e,Yf e,Bool.false_or];exact kO k r
theorem mO (k j:κ) (y:V): ∀kvs:List (κ×V),bF kvs k=none->bF (kvs++[(k,y)]) j=if j=k then some y else bF kvs j
 | [],_=>by
  by_cases e:k=j
  .rw [if_pos e.symm];exact c7 (p:=(k,y)) e
  .rw [if_neg (λ z=>e z.symm)];exact bQ (p:=(k,y)) e
 | p::r,hn=>by
  rw [List.cons_append];have hk: ¬p.1=k:=λ z=>by rw [c7 z] at hn;cases hn
  rw [bQ hk] at hn;have ih:=mO k j y r hn;by_cases e:p.1=j
  .rw [c7 e,c7 e,if_neg (λ z=>hk (e.trans z))]
  .rw [bQ e,bQ e,ih]
theorem gD (kvs:List (κ×V)) (k:κ) (v:V):(putK kvs k v).length<=kvs.length+1:=by
 unfold putK;split
 .rw [Qr];rfl'
 .rw [Zg,Yu,List.length_nil];rfl'
theorem gF {kvs:List (κ×V)} {k:κ} (v:V) (h:bF kvs k=none):putK kvs k v=kvs++[(k,v)]:=by
 unfold putK;rw [kO,h];exact if_neg (by decide)
theorem RelO.isSome_eq {o:Option V} {u:Option Value} (r:RelO o u):o.isSome=u.isSome:=by
 cases o with
 | none=>cases u with
  | none=>rfl
  | some _=>exact (show False from r).elim
 | some _=>cases u with
  | none=>exact (show False from r).elim
  | some _=>rfl
theorem RelO.getD {o:Option V} {u:Option Value} {d:V} (r:RelO o u) (rd:RelV d d'):RelV (o.getD d) (u.getD d'):=by
 cases o with
 | none=>cases u with
  | none=>exact rd
  | some _=>exact (show False from r).elim
 | some _=>cases u with
  | none=>exact (show False from r).elim
  | some _=>exact r
theorem KV.val {kvs:List (κ×V)} {vs:List (κ×Value)} (r:KV kvs vs) (k:κ):RelO (bF kvs k) (valueAt vs k):=by
 unfold KV at r;induction r with
 | nil=>exact True.intro
 | @cons p q ps qs h t ih=>
  obtain ⟨h1,h2⟩:=h;by_cases e:p.1=k
  .have e':q.1=k:=h1.symm.trans e;have b:valueAt (q::qs) k=some q.2:=by simp [valueAt,List.find?_cons,e']
   rw [c7 e,b];exact h2
  .have e': ¬q.1=k:=λ z=>e (h1.trans z)
   have b:valueAt (q::qs) k=valueAt qs k:=by simp [valueAt,List.find?_cons,e']
   rw [bQ e,b];exact ih
theorem KV.any {kvs:List (κ×V)} {vs:List (κ×Value)} (r:KV kvs vs) (k:κ):(kvs.any λ kv=>decide (kv.1=k))=vs.any λ kv=>decide (kv.1=k):=by
 unfold KV at r;induction r with
 | nil=>rfl
 | cons h t ih=>rw [List.any_cons,List.any_cons,ih,h.1]
theorem KV.repl {kvs:List (κ×V)} {vs:List (κ×Value)} (r:KV kvs vs) (k:κ) (ry:RelV y u):
  KV (kvs.map λ kv=>if kv.1=k then (kv.1,y) else kv) (vs.map λ kv=>if kv.1=k then (kv.1,u) else kv):=by
 unfold KV at r ⊢;induction r with
 | nil=>exact .nil
 | @cons p q ps qs h t ih=>
  rw [Zl,Zl];refine .cons ?_ ih;obtain ⟨h1,h2⟩:=h;by_cases e:p.1=k
  .rw [if_pos e,if_pos (h1.symm.trans e)];exact ⟨h1,ry⟩
  .rw [if_neg e,if_neg (λ z=>e (h1.trans z))];exact ⟨h1,h2⟩
theorem KV.put {kvs:List (κ×V)} {vs:List (κ×Value)} (r:KV kvs vs) (k:κ) (ry:RelV y u):KV (putK kvs k y) (stored vs k u):=by
 unfold putK stored;rw [r.any k];by_cases e:(vs.any λ kv=>decide (kv.1=k))=true
 .rw [if_pos e,if_pos e];exact r.repl k ry
 .rw [if_neg e,if_neg e];exact Paired.snoc r ⟨rfl,ry⟩
theorem KV.length {kvs:List (κ×V)} {vs:List (κ×Value)} (r:KV kvs vs):kvs.length=vs.length:=Wp r
theorem zj (kvs:List (κ×V)) (k:κ):(cN kvs k).length<=kvs.length:=List.length_filter_le _ _
end
theorem mQ {P:Program} {k:Key} (r:RelV (kV k) u):(bD P w).is k u=true:=by
 cases k with
 | inl i=>obtain ⟨t,e⟩:=(show ∃t,u=Value.int i t from r);subst e;exact qi P w i t
 | inr x=>obtain ⟨t,e⟩:=(show ∃t,u=Value.str x t from r);subst e;exact qj P w x t
theorem mR {P:Program} {w:World}: ∀ {ks:List Key} {us:List Value},Vals (ks.map kV) us->ItemsAre (bD P w) ks us
 | [],_,r=>by rw [Xq] at r;cases r;exact .nil
 | k::ks,_,r=>by
  rw [Zl] at r
  cases r with
  | cons h t=>exact .cons (mQ h) (mR t)
abbrev KT (H:Hp):List (List Key×V)->List (List Key×Addr×Value)->Prop:=Paired λ p q=>p.1=q.1/\H q.2.1=some (.tup (p.1.map kV))/\RelV p.2 q.2.2
theorem KT.val (r:KT H kvs xs) (k:List Key):RelO (bF kvs k) ((atKey xs k).map (·.2)):=by
 induction r with
 | nil=>exact True.intro
 | @cons p q ps qs h t ih=>
  obtain ⟨h1,_,h2⟩:=h;by_cases e:p.1=k
  .have e':q.1=k:=h1.symm.trans e;have b:atKey (q::qs) k=some q.2:=by simp [atKey,List.find?_cons,e']
   rw [c7 e,b];exact h2
  .have e': ¬q.1=k:=λ z=>e (h1.trans z)
   have b:atKey (q::qs) k=atKey qs k:=by simp [atKey,List.find?_cons,e']
   rw [bQ e,b];exact ih
theorem KT.repl (r:KT H kvs xs) (k:List Key) (ry:RelV y u):
  KT H (kvs.map λ kv=>if kv.1=k then (kv.1,y) else kv) (xs.map (putAt k u)):=by
 induction r with
 | nil=>exact .nil
 | @cons p q ps qs h t ih=>
  rw [Zl,Zl];refine .cons ?_ ih;obtain ⟨h1,h2,h3⟩:=h;unfold putAt;by_cases e:p.1=k
  .rw [if_pos e,if_pos (h1.symm.trans e)];exact ⟨h1,h2,ry⟩
  .rw [if_neg e,if_neg (λ z=>e (h1.trans z))];exact ⟨h1,h2,h3⟩
theorem KT.put (r:KT H kvs xs) (k:List Key) (hb:H b=some (.tup (k.map kV))) (ry:RelV y u):
  KT H (putK kvs k y) (storedH xs k b u):=by
 have e:(kvs.any λ kv=>decide (kv.1=k))=(atKey xs k).isSome:=by
  rw [kO,(r.val k).isSome_eq,Option.isSome_map]
 unfold putK storedH;rw [e];by_cases q:(atKey xs k).isSome=true
 .rw [if_pos q,if_pos q];exact r.repl k ry
 .rw [if_neg q,if_neg q];exact Paired.snoc r ⟨rfl,hb,ry⟩
theorem KT.keeps (r:KT H kvs xs) (ht: ∀b ys,H b=some (.tup ys)->H' b=some (.tup ys)):KT H' kvs xs:=
 Paired.mapP r λ _ _ z=>⟨z.1,ht _ _ z.2.1,z.2.2⟩
section
variable {P:Program} {w:World} {H:Hp} {h:Heap} {a:Addr}
theorem Il {u:HO} (ok:HOk P w H h) (e:Rd H a u):ObjOk P w H h a u:=e.ok ok
theorem mU {kvs:List (Key×V)} (ok:HOk P w H h) (e:Rd H a (.dK kvs)):kvs.length<=sizeLine/\(a==sysModules)=false/\ ∃vs,KV kvs vs/\h.DictOf (bD P w) a vs:=
 show ObjOk P w H h a (.dK kvs) from Il ok e
theorem Im {kvs:List (Key×V)} (ok:HOk P w H h) (e:H a=some (.dK kvs)):kvs.length<=sizeLine/\(a==sysModules)=false/\ ∃vs,KV kvs vs/\h.DictOf (bD P w) a vs:=mU ok (.inl e)
theorem gG {ks:List Key} (ok:HOk P w H h) (e:H a=some (.tup (ks.map kV))):(tupleKind (bD P w)).is h ks a:=by
 obtain ⟨_,its,r,o,h1,h2,n,h3⟩:=(show ObjOk P w H h a (.tup (ks.map kV)) from ok a _ e);exact ⟨o,its.toArray,n,h1,h2,h3,by simpa using mR r⟩
theorem mV (ok:HOk P w H h) (e:Rd H a (.dT kvs)):kvs.length<=sizeLine/\(a==sysModules)=false/\
  ∃xs,KT H kvs xs/\h.DictOfH (tupleKind (bD P w)) a xs:=by
 obtain ⟨z,y,xs,r,o,es,ep,h1,h2,h3,h4,h5⟩:=(show ObjOk P w H h a (.dT kvs) from Il ok e);refine ⟨z,y,xs,r,o,es,ep,h1,h2,h3,h4,λ x hx=> ?_,h5⟩;have all: ∀ {l:List (List Key×V)} {m:List (List Key×Addr×Value)},KT H l m-> ∀x∈m,(tupleKind (bD P w)).is h x.1 x.2.1:=by
  intro l m q;induction q with
  | nil=>intro x hx;exact nomatch hx
  | @cons p q ps qs hq t ih=>
   intro x hx;rcases Zm.mp hx with e | hx
   .subst e;exact gG ok (by rw [<- hq.1];exact hq.2.1)
   .exact ih x hx
 exact all r x hx
theorem mW (ok:HOk P w H h) (e:H a=some (.dT kvs)):kvs.length<=sizeLine/\(a==sysModules)=false/\
  ∃xs,KT H kvs xs/\h.DictOfH (tupleKind (bD P w)) a xs:=mV ok (.inl e)
end
def DGet (H:Hp) (a:Addr) (y:V) (r:Option V):Prop:=
 (∃kvs k,Rd H a (.dK kvs)/\y=kV k/\r=bF kvs k)\/ ∃kvs k b,Rd H a (.dT kvs)/\y= .ref b/\H b=some (.tup (k.map kV))/\r=bF kvs k
def DPut (H:Hp) (a:Addr) (y v:V) (H':Hp):Prop:=
 (∃kvs k,H a=some (.dK kvs)/\y=kV k/\kvs.length<sizeLine/\H'=upd H a (.dK (putK kvs k v)))\/
 ∃kvs k b,H a=some (.dT kvs)/\y= .ref b/\H b=some (.tup (k.map kV))/\kvs.length<sizeLine/\H'=upd H a (.dT (putK kvs k v))
theorem DGet.k {H:Hp} {a:Addr} {kvs:List (Key×V)} {k:Key} (e:H a=some (.dK kvs)):DGet H a (kV k) (bF kvs k):= .inl ⟨kvs,k, .inl e,rfl,rfl⟩
theorem DGet.t {k:List Key} (e:H a=some (.dT kvs)) (eb:H b=some (.tup (k.map kV))):DGet H a (.ref b) (bF kvs k):= .inr ⟨kvs,k,b, .inl e,rfl,eb,rfl⟩
theorem DPut.k {H:Hp} {a:Addr} {kvs:List (Key×V)} {k:Key} {v:V} (e:H a=some (.dK kvs)) (hl:kvs.length<sizeLine):DPut H a (kV k) v (upd H a (.dK (putK kvs k v))):= .inl ⟨kvs,k,e,rfl,hl,rfl⟩
theorem DPut.t {k:List Key} {v:V} (e:H a=some (.dT kvs)) (eb:H b=some (.tup (k.map kV))) (hl:kvs.length<sizeLine):
  DPut H a (.ref b) v (upd H a (.dT (putK kvs k v))):= .inr ⟨kvs,k,b,e,rfl,eb,hl,rfl⟩
section
variable {X:Cx} {pins:List (Addr×Obj)} {Z:St} {H:Hp} {s:Shared} {a:Addr} {y v:V} {u r:Value} {o:Option V} {A:Around} {E:Value->Shared->Prop}
theorem Inv.big (I:Inv X pins Z H s):sysModules<s.heap.objs.size:=by
 have h:mainGlobals<s.heap.objs.size:=(I.mod.glob.keeps I.bk).lt;exact Nat.lt_trans (by decide) h
theorem xG (hu:A.units+1<cLine) (I:Inv X pins Z H s) (g:DGet H a y (some v)) (ry:RelV y u) (h: ∀w' s',Inv X pins Z H s'->RelV v w'->Q w' s'):
  wpAny (model X.prog X.w) A (getItem (.ref a) u) Q E s:=by
 rcases g with ⟨kvs,k,e,ey,l⟩ | ⟨kvs,k,b,e,ey,eb,l⟩
 .subst ey;obtain ⟨z,hd,vs,rel,dd⟩:=mU I.hok e;obtain ⟨w',hw,rw'⟩:=RelO.some_of (v:=v) (o:=valueAt vs k) (by rw [l];exact rel.val k);exact wpAny_getItem_of (mQ ry) dd.mapOf hw (h w' _ (I.tok _) rw')
 .subst ey
  cases (show u=Value.ref b from ry);obtain ⟨z,hd,xs,rel,dd⟩:=mV I.hok e;obtain ⟨w',hw,rw'⟩:=RelO.some_of (v:=v) (o:=(atKey xs k).map (·.2)) (by rw [l];exact rel.val k);obtain ⟨p,hp,hp2⟩:=Yp.mp hw;refine wpAny_getItem_heap (tupleKind_room_in1 hu) (gG I.hok eb) dd hp ?_;rw [hp2];exact h w' _ (I.tok _) rw'
theorem Tu (hu:A.units+1<cLine) (I:Inv X pins Z H s) (g:DGet H a y o) (ry:RelV y u) (h: ∀s',Inv X pins Z H s'->Q (.bool o.isSome) s'):
  wpAny (model X.prog X.w) A (compareOp .In u (.ref a)) Q E s:=by
 rcases g with ⟨kvs,k,e,ey,l⟩ | ⟨kvs,k,b,e,ey,eb,l⟩
 .subst ey;obtain ⟨z,hd,vs,rel,dd⟩:=mU I.hok e;refine wpAny_in_of (mQ ry) hd dd.mapOf ?_;rw [<- (rel.val k).isSome_eq,<- l];exact h _ (I.tok _)
 .subst ey
  cases (show u=Value.ref b from ry);obtain ⟨z,hd,xs,rel,dd⟩:=mV I.hok e;refine wpAny_in_heap (tupleKind_room_in1 hu) (gG I.hok eb) hd dd ?_;have q:=(rel.val k).isSome_eq;rw [Option.isSome_map] at q;rw [<- q,<- l];exact h _ (I.tok _)
theorem Fe (hu:A.units+1<cLine) (I:Inv X pins Z H s) (g:DGet H a y o) (ry:RelV y u) (h: ∀s',Inv X pins Z H s'->Q (.bool (!o.isSome)) s'):
  wpAny (model X.prog X.w) A (compareOp .NotIn u (.ref a)) Q E s:=by
 rcases g with ⟨kvs,k,e,ey,l⟩ | ⟨kvs,k,b,e,ey,eb,l⟩
 .subst ey;obtain ⟨z,hd,vs,rel,dd⟩:=mU I.hok e;refine wpAny_notIn_of (mQ ry) hd dd.mapOf ?_;rw [<- (rel.val k).isSome_eq,<- l];exact h _ (I.tok _)
 .subst ey
  cases (show u=Value.ref b from ry);obtain ⟨z,hd,xs,rel,dd⟩:=mV I.hok e;refine wpAny_notIn_heap (tupleKind_room_in1 hu) (gG I.hok eb) hd dd ?_;have q:=(rel.val k).isSome_eq;rw [Option.isSome_map] at q;rw [<- q,<- l];exact h _ (I.tok _)
theorem fP {t':Nat} {ob:HO} (I:Inv X pins Z H s) (mu:Oz (H a)) (hs:Heap.SameBut a s.heap h') (he: ∃q,h'.get? a=some q) (new:ObjOk X.prog X.w (upd H a ob) h' a ob):
  Inv X pins Z (upd H a ob) { s with heap:=h',toks:=t' }:=
 I.write (x:=a) (e:=a) mu (.inl rfl) (λ b q hb z=>(hs.2 b hb).trans z) he new
theorem zm {P:Program} {kvs:List (Key×V)} {vs:List (Key×Value)} (z:kvs.length<=sizeLine) (hd:(a==sysModules)=false) (rel:KV kvs vs) (dd:h'.DictOf (bD P w) a vs):
  ObjOk P w H' h' a (.dK kvs):=⟨z,hd,vs,rel,dd⟩
theorem xH {Q:Unit->Shared->Prop} (hu:A.units+1<cLine) (I:Inv X pins Z H s) (g:DPut H a y v H') (ry:RelV y u) (rv:RelV v r) (h: ∀s',Inv X pins Z H' s'->Q () s'):
  wpAny (model X.prog X.w) A (setItem (.ref a) u r) Q E s:=by
 rcases g with ⟨kvs,k,e,ey,l,eH⟩ | ⟨kvs,k,b,e,ey,eb,l,eH⟩
 .subst ey eH;obtain ⟨z,hd,vs,rel,dd⟩:=Im I.hok e;have hz:vs.length<=sizeLine:=by rw [<- rel.length];exact z
  have hl:(putK kvs k v).length<=sizeLine:=by have:=gD kvs k v;rfl'
  refine wpAny_setItem_pairs (hsz:=hz) (mQ ry) dd λ h' dd' hs=>h _ ?_
  have he: ∃q,h'.get? a=some q:=let ⟨q,_,_,hq,_⟩:=dd';⟨q,hq⟩;exact fP I (by rw [e];exact True.intro) hs he (zm hl hd (rel.put k rv) dd')
 .subst ey eH
  cases (show u=Value.ref b from ry);obtain ⟨z,hd,xs,rel,dd⟩:=mW I.hok e;have hz:xs.length<=sizeLine:=by rw [<- Wp rel];exact z
  have hl:(putK kvs k v).length<=sizeLine:=by have:=gD kvs k v;rfl'
  refine wpAny_setItem_heap (hsz:=hz) (tupleKind_room_in1 hu) (gG I.hok eb) dd λ h' dd' hs=>h _ ?_
  obtain ⟨q,es,ep,hq,h2,h3,h4,_,h5⟩:=dd';refine fP I (by rw [e];exact True.intro) hs ⟨q,hq⟩ ⟨hl,hd,_,(rel.put k eb rv).keeps λ c ys ec=> ?_,q,es,ep,hq,h2,h3,h4,h5⟩;rw [au (bx ec e (λ z=>nomatch z))];exact ec
end
def JR (i:Expr):Prop:= ∀ov iv,subscripted i false ov iv=operate [ov,iv] (getItem ov iv)
theorem vM {s:Shared} {env:Env} {value slice:Expr} {T:String}
  (hl:typeLookup (.type T) "__getitem__"=pure (some (.builtin id))) (hs:JR slice)
  (h:wpAny (model prog w) A (eval value env) (λ o s₁=>wpAny (model prog w) A (eval slice env) (λ i s₂=>s₂.TypeIs o T/\wpAny (model prog w) A (getItem o i) Q E s₂) E s₁) E s):
  wpAny (model prog w) A (eval (.Subscript value slice pos) env) Q E s:=by
 refine Subscript_ (Wv h (λ o s₁ h₁=>Wv h₁ (λ i s₂ h₂=> ?_) λ _ _ x=>x) λ _ _ x=>x);obtain ⟨hT,h₂⟩:=h₂;unfold subscriptTail;refine Qb ?_;rw [getitemInPython_of_ne hT.not_modules];refine Qb (wpAny_specialOf hT hl ?_);have fin:wpAny (model prog w) A (subscripted slice false o i) (λ r s₃=>wpAny (model prog w) A (letTemporaryGo value o r >>= λ _=>pure r) Q E s₃) E s₂:=by
  rw [hs o i];exact wpAny_operating (Wv h₂ (λ r s₃ h₃=>Qb (wpAny_letTemporaryGo (Zc h₃))) λ _ _ x=>x)
 first
  | exact Zc (Qb fin)
  | exact Qb (Zc (Qb fin))
  | exact Qb fin
theorem qC {X:Cx} {s:Shared} {o:Option V} (I:Inv X pins Z H s) (g:DGet H a y o):s.TypeIs (.ref a) "dict":=by
 rcases g with ⟨kvs,k,e,_,_⟩ | ⟨kvs,k,b,e,_,_,_⟩
 .obtain ⟨_,_,vs,_,dd⟩:=mU I.hok e;exact dd.typeIs
 .obtain ⟨_,_,xs,_,dd⟩:=mV I.hok e;exact dd.typeIs
def gn (td ty:TE):TE:=λ Z H Q=>td Z H λ x H1=>ty Z H1 λ y H2=> ∃a v,x= .ref a/\DGet H2 a y (some v)/\Q v H2
def Ff (ty td:TE):TE:=λ Z H Q=>ty Z H λ y H1=>td Z H1 λ x H2=> ∃a o,x= .ref a/\DGet H2 a y o/\Q (.bl o.isSome) H2
def jN (ty td:TE):TE:=λ Z H Q=>ty Z H λ y H1=>td Z H1 λ x H2=> ∃a o,x= .ref a/\DGet H2 a y o/\Q (.bl (!o.isSome)) H2
def mX (td ty tv:TE):TS:=λ D Z H=>tv Z H λ v H1=>td Z H1 λ x H2=>ty Z H2 λ y H3=> ∃a H4,x= .ref a/\DPut H3 a y v H4/\D.nx Z H4
section
variable {X:Cx} {o i e value:Expr} {pos pos' tpos:Pos} {td ty tv:TE}
theorem dw (hu:X.A.units+1<cLine) (ho:PE X o td) (hi:PE X i ty) (hs:JR i):PE X (.Subscript o i pos) (gn td ty):=by
 intro pins s Z H Q I h;refine vM PySem.F.slot_dict_getitem.lookup hs (bB (ho pins s Z H _ I h) λ u s1 ⟨x,H1,I1,rx,q1⟩=>bB (hi pins s1 Z H1 _ I1 q1) λ iv s2 ⟨y,H2,I2,ry,a,v,ex,g,q2⟩=> ?_);subst ex;obtain rfl:u=Value.ref a:=rx;exact ⟨qC I2 g,xG hu I2 g ry λ w' s3 I3 rw'=>⟨v,H2,I3,rw',q2⟩⟩
theorem zp (hu:X.A.units+1<cLine) (hi:PE X i ty) (ho:PE X o td):PC X .In i o (Ff ty td):=by
 intro pins s Z H Q I h;refine bB (hi pins s Z H _ I h) λ iv s1 ⟨y,H1,I1,ry,q1⟩=>bB (ho pins s1 Z H1 _ I1 q1) λ u s2 ⟨x,H2,I2,rx,a,ov,ex,g,q2⟩=> ?_
 subst ex;obtain rfl:u=Value.ref a:=rx;exact Tu hu I2 g ry λ s3 I3=>⟨.bl ov.isSome,H2,I3,rfl,q2⟩
theorem mY (hu:X.A.units+1<cLine) (hi:PE X i ty) (ho:PE X o td):PC X .NotIn i o (jN ty td):=by
 intro pins s Z H Q I h;refine bB (hi pins s Z H _ I h) λ iv s1 ⟨y,H1,I1,ry,q1⟩=>bB (ho pins s1 Z H1 _ I1 q1) λ u s2 ⟨x,H2,I2,rx,a,ov,ex,g,q2⟩=> ?_
 subst ex;obtain rfl:u=Value.ref a:=rx;exact Fe hu I2 g ry λ s3 I3=>⟨.bl (!ov.isSome),H2,I3,rfl,q2⟩
theorem jO (hu:X.A.units+1<cLine) (ho:PE X o td) (hi:PE X i ty) (hv:PE X value tv) (hs:swapsWith value (some (.Subscript o i pos')) pos.line X.env=pure false):
  PS X (.Assign [.Subscript o i pos'] value pos) (mX td ty tv):=by
 intro pins s Z H D I h;refine wpAny_Assign_Subscript (bB (hv pins s Z H _ I h) λ r s1 ⟨v,H1,I1,rv,q1⟩=>bB (ho pins s1 Z H1 _ I1 q1) λ u s2 ⟨x,H2,I2,rx,q2⟩=>bB (hi pins s2 Z H2 _ I2 q2) λ iv s3 ⟨y,H3,I3,ry,a,H4,ex,g,q3⟩=> ?_) hs;subst ex;obtain rfl:u=Value.ref a:=rx;exact xH hu I3 g ry rv λ s4 I4=>⟨Z,H4,I4,q3⟩
end
theorem qD {P:Program} (h:Heap) (hb:sysModules<h.objs.size):ObjOk P w H (h.push { cls:= .type "dict",data:= .dict #[] }) h.objs.size (.dK []):=
 ⟨Nat.zero_le _,Wu.mpr (Ne.symm (Yo hb)),[], .nil,Heap.DictOf.new h⟩
theorem qF {P:Program} (h:Heap) (hb:sysModules<h.objs.size):ObjOk P w H (h.push { cls:= .type "dict",data:= .dict #[] }) h.objs.size (.dT []):=
 ⟨Nat.zero_le _,Wu.mpr (Ne.symm (Yo hb)),[], .nil,_,#[],0,Zt _ rfl,⟨rfl,rfl,rfl⟩,rfl,rfl,List.nodup_nil⟩
def oM:TE:=λ _ H Q=> ∀p,H p=none->Q (.ref p) (upd H p (.dK []))
def tQ:TE:=λ _ H Q=> ∀p,H p=none->Q (.ref p) (upd H p (.dT []))
section
variable {X:Cx} {pos:Pos}
theorem qG:PE X (.Dict [] [] pos) oM:=λ pins s Z H Q I h=>
 wpAny_Dict_empty ⟨.ref s.heap.objs.size,_,I.laid (a:=s.heap.objs.size) (o:= .dK []) (t':=s.toks) (λ _ _ q=>Zf _ q) (Zk _) (qD s.heap I.big),rfl,h _ (I.hok.fresh (Zk _))⟩
theorem zq:PE X (.Dict [] [] pos) tQ:=λ pins s Z H Q I h=>
 wpAny_Dict_empty ⟨.ref s.heap.objs.size,_,I.laid (a:=s.heap.objs.size) (o:= .dT []) (t':=s.toks) (λ _ _ q=>Zf _ q) (Zk _) (qF s.heap I.big),rfl,h _ (I.hok.fresh (Zk _))⟩
end
def tR:List (TE×TE)->St->Hp->(List (V×V)->Hp->Prop)->Prop
 | [],_,H,Q=>Q [] H
 | (tk,tv)::r,Z,H,Q=>tk Z H λ x H1=>tv Z H1 λ y H2=>tR r Z H2 λ ps H3=>Q ((x,y)::ps) H3
abbrev VV:List (V×V)->List (Value×Value)->Prop:=Paired λ p q=>RelV p.1 q.1/\RelV p.2 q.2
def Sw (X:Cx) (pos:Pos) (keys:List (Option Expr)) (values:List Expr) (trs:List (TE×TE)):Prop:=
 ∀ (pins:List (Addr×Obj)) (s:Shared) (Z:St) (H:Hp) (Q:List (V×V)->Hp->Prop),Inv X pins Z H s->tR trs Z H Q->
  wpAny (model X.prog X.w) X.A (evalPairs (pairTrees keys values X.env pos)) (λ vs s'=> ∃ps H',Inv X pins Z H' s'/\VV ps vs/\Q ps H') X.xe s
theorem vN {X:Cx}:Sw X pos [] [] []:=λ pins s Z H Q I h=>pairTrees_nil_walk ⟨[],H,I, .nil,h⟩
theorem qH {X:Cx} {k v:Expr} {vs:List Expr} {tk tv:TE} (hk:PE X k tk) (hv:PE X v tv) (hr:Sw X pos ks vs trs):
  Sw X pos (some k::ks) (v::vs) ((tk,tv)::trs):=λ pins s Z H Q I h=>
 pairTrees_cons_walk (bB (hk pins s Z H _ I h) λ u s1 ⟨x,H1,I1,rx,q1⟩=>bB (hv pins s1 Z H1 _ I1 q1) λ w2 s2 ⟨y,H2,I2,ry,q2⟩=>
  bB (hr pins s2 Z H2 _ I2 q2) λ ws s3 ⟨ps,H3,I3,rel,q3⟩=>⟨(x,y)::ps,H3,I3, .cons ⟨rx,ry⟩ rel,q3⟩)
def fQ (kvs more:List (Key×V)):List (Key×V):=more.foldl (λ acc kv=>putK acc kv.1 kv.2) kvs
theorem KV.merge: ∀ {more:List (Key×V)} {rs:List (Key×Value)} {kvs:List (Key×V)} {vs:List (Key×Value)},KV more rs->KV kvs vs->KV (fQ kvs more) (merged vs rs):=by
 intro more rs kvs vs r;unfold KV at r;induction r generalizing kvs vs with
 | nil=>intro q;exact q
 | @cons p q ps qs h t ih=>
  intro r0;have e:KV (putK kvs p.1 p.2) (stored vs q.1 q.2):=by
   have:=r0.put p.1 h.2;rw [<- h.1];exact this
  exact ih e
theorem iB: ∀ (more kvs:List (Key×V)),(fQ kvs more).length<=kvs.length+more.length
 | [],kvs=>by show kvs.length<=kvs.length+0;rfl'
 | p::r,kvs=>by
  have h1:=iB r (putK kvs p.1 p.2);have h2:=gD kvs p.1 p.2;show (fQ (putK kvs p.1 p.2) r).length<=_;rw [Yu];rfl'
theorem kW {P:Program} {w:World}: ∀ {kvs:List (Key×V)} {ws:List (Value×Value)},VV (kvs.map λ kv=>(kV kv.1,kv.2)) ws-> ∃rs,Carries (bD P w) ws rs/\KV kvs rs
 | [],_,r=>by rw [Xq] at r;cases r;exact ⟨[],True.intro, .nil⟩
 | p::kvs,_,r=>by
  rw [Zl] at r
  cases r with
  | @cons a b as bs h t=>
   obtain ⟨rs,c,q⟩:=kW (P:=P) (w:=w) t;obtain ⟨b1,b2⟩:=b;exact ⟨(p.1,b2)::rs,⟨mQ h.1,rfl,c⟩, .cons ⟨rfl,h.2⟩ q⟩
def zr (trs:List (TE×TE)):TE:=λ Z H Q=> ∀p,H p=none->tR trs Z (upd H p (.dK [])) λ ps H2=>H2 p=some (.dK [])/\ ∃kvs:List (Key×V),ps=kvs.map (λ kv=>(kV kv.1,kv.2))/\kvs.length<=15/\Q (.ref p) (upd H2 p (.dK (fQ [] kvs)))
theorem Fg {X:Cx} (h:Sw X pos keys values trs) (hall:keys.all (·.isSome)=true) (hl:keys.length=values.length) (h0:keys≠[])
  (h15:keys.length<=15):PE X (.Dict keys values pos) (zr trs):=by
 intro pins s Z H Q I q;have hn:=I.hok.fresh (Zk s.heap.objs.size);have I1:=I.laid (a:=s.heap.objs.size) (o:= .dK []) (h':=s.heap.push { cls:= .type "dict",data:= .dict #[] }) (t':=s.toks) (λ _ _ q=>Zf _ q) (Zk _) (qD s.heap I.big);refine wpAny_Dict_walk (knd:=bD X.prog X.w) hall hl h0 h15 (bB (h pins _ Z _ _ I1 (q _ hn)) λ ws s2 ⟨ps,H2,I2,rel,e,kvs,ep,lk,q2⟩=> ?_);subst ep;obtain ⟨rs,c,rk⟩:=kW (P:=X.prog) (w:=X.w) rel;obtain ⟨z,hd,vs0,r0,dd⟩:=Im I2.hok e
 cases r0;refine ⟨rs,c,dd,λ h' dd' hs=>⟨.ref s.heap.objs.size,_,?_,rfl,q2⟩⟩;have hz:(fQ [] kvs).length<=sizeLine:=by
  have h1:=iB kvs [];rw [List.length_nil] at h1;rw [sizeLine_eq];rfl'
 have he: ∃q,h'.get? s.heap.objs.size=some q:=let ⟨q,_,_,hq,_⟩:=dd';⟨q,hq⟩;exact fP I2 (by rw [e];exact True.intro) hs he (zm hz hd (rk.merge .nil) dd')
structure M1 (X:Cx) (o:Expr) (m:Str) (apos:Pos) (e:Expr) (cpos:Pos):Prop where
 base:attributeBase o m X.env (eval o X.env)=eval o X.env
 few:((backTo cpos (starEach [e] X.env)).all (λ x=> !x.1)&&(backToKw cpos (keywordEach [] X.env)).all (λ x=>x.1.isSome)
  &&decide (([e]:List Expr).length+([]:List Keyword).length+(if ([]:List Keyword).isEmpty then 0 else 1)<30))=true
 line:(apos.endLine==cpos.line)=true
 trees:backTo cpos (starEach [e] X.env)=[(false,eval e X.env)]
structure M2 (X:Cx) (o:Expr) (m:Str) (apos:Pos) (e f:Expr) (cpos:Pos):Prop where
 base:attributeBase o m X.env (eval o X.env)=eval o X.env
 few:((backTo cpos (starEach [e,f] X.env)).all (λ x=> !x.1)&&(backToKw cpos (keywordEach [] X.env)).all (λ x=>x.1.isSome)
  &&decide (([e,f]:List Expr).length+([]:List Keyword).length+(if ([]:List Keyword).isEmpty then 0 else 1)<30))=true
 line:(apos.endLine==cpos.line)=true
 trees:backTo cpos (starEach [e,f] X.env)=[(false,eval e X.env),(false,eval f X.env)]
def JS (H:Hp) (a:Addr):Prop:=(∃kvs,Rd H a (.dK kvs))\/ ∃kvs,Rd H a (.dT kvs)
theorem zu {X:Cx} {s:Shared} (I:Inv X pins Z H s) (d:JS H a):
  s.TypeIs (.ref a) "dict"/\(∀b,Value.ref a= .ref b-> ∃ob,s.heap.get? b=some ob/\ob.dict=none)/\(a==sysModules)=false:=by
 rcases d with ⟨kvs,e⟩ | ⟨kvs,e⟩
 .obtain ⟨_,hd,vs,_,dd⟩:=mU I.hok e;refine ⟨dd.typeIs,λ b q=> ?_,hd⟩
  cases q;obtain ⟨ob,_,_,h1,h2,_⟩:=dd;exact ⟨ob,h1,h2.2.1⟩
 .obtain ⟨_,hd,xs,_,dd⟩:=mV I.hok e;refine ⟨dd.typeIs,λ b q=> ?_,hd⟩
  cases q;obtain ⟨ob,_,_,h1,h2,_⟩:=dd;exact ⟨ob,h1,h2.2.1⟩
def Tv (td ty:TE):TE:=λ Z H Q=>td Z H λ x H1=> ∃a,x= .ref a/\JS H1 a/\ty Z H1 λ y H2=> ∃o,DGet H2 a y o/\Q (o.getD .non) H2
def Tz (td ty tx:TE):TE:=λ Z H Q=>td Z H λ x H1=> ∃a,x= .ref a/\JS H1 a/\ty Z H1 λ y H2=>tx Z H2 λ z H3=> ∃o,DGet H3 a y o/\Q (o.getD z) H3
end L2
set_option linter.all false
namespace Bm
def pop:Nat->Nat
 | 0=>0
 | n+1=>(n+1)%2+pop ((n+1) / 2)
decreasing_by rfl'
theorem iV:pop 0=0:=by rw [pop]
theorem tU (n:Nat):pop n=n%2+pop (n / 2):=by
 cases n with
 | zero=>simp [iV]
 | succ n=>rw [pop]
theorem oN (m:Nat):pop (2*m)=pop m:=by
 rw [tU,show 2*m%2=0 by rfl',show 2*m / 2=m by rfl',Nat.zero_add]
theorem Fi (m:Nat):pop (2*m+1)=pop m+1:=by
 rw [tU,show (2*m+1)%2=1 by rfl',show (2*m+1) / 2=m by rfl',Nat.add_comm]
theorem zx (a b:Nat):(2*a)&&& (2*b+1)=2*(a&&& b):=by
 apply Nat.eq_of_testBit_eq;intro i
 cases i with
 | zero=>simp [Nat.testBit_and]
 | succ i=>
  rw [Nat.testBit_and,Nat.testBit_succ,Nat.testBit_succ,Nat.testBit_succ,show 2*a / 2=a by rfl',show (2*b+1) / 2=b by rfl',show 2*(a&&& b) / 2=(a&&& b) by rfl',Nat.testBit_and]
theorem JT (a b:Nat):(2*a+1)&&& (2*b)=2*(a&&& b):=by rw [Nat.and_comm,zx,Nat.and_comm]
theorem Fj (n:Nat) (h:0<n):pop (n&&& (n-1))+1=pop n:=by
 induction n using Nat.strongRecOn with
 | ind n ih=>
  rcases Nat.mod_two_eq_zero_or_one n with e | e
  .obtain ⟨m,rfl⟩: ∃m,n=2*m:=⟨n / 2,by rfl'⟩;have q:=ih m (by rfl') (by rfl');rw [show 2*m-1=2*(m-1)+1 by rfl',zx,oN,oN];exact q
  .obtain ⟨m,rfl⟩: ∃m,n=2*m+1:=⟨n / 2,by rfl'⟩;rw [show 2*m+1-1=2*m by rfl',JT,Nat.and_self,oN,Fi]
theorem JV (n:Nat) (h:0<n):n&&& (n-1)<n:=Yb Nat.and_le_right (by rfl')
theorem zy (a b:Nat):(a^^^b) / 2=(a / 2)^^^(b / 2):=by
 apply Nat.eq_of_testBit_eq;intro i;simp [<- Nat.testBit_succ,Nat.testBit_xor]
theorem eQ (x:Nat):x%2=(x.testBit 0).toNat:=by
 rcases Nat.mod_two_eq_zero_or_one x with h | h<;>simp [Nat.testBit_zero,h]
def bits (k n:Nat):List Nat:=(List.range k).filter λ i=>n.testBit i
end Bm
set_option linter.all false
namespace Bx
open PySem
theorem iK (m n:Nat):Builtin.bitAnd (m:Int) (n:Int)=((m&&& n:Nat):Int):=by
 rw [PyProof.Rows.bitAnd_pp (by rfl') (by rfl')];simp
theorem zA (m n:Nat):(m||| n)+(m&&& n)=m+n:=by
 induction m using Nat.strongRecOn generalizing n with
 | ind m ih=>
  by_cases hz:m=0
  .subst hz;simp
  .have q:=ih (m / 2) (by rfl') (n / 2);have h1:(m||| n) / 2=(m / 2)||| (n / 2):=by
    apply Nat.eq_of_testBit_eq;intro i;simp [<- Nat.testBit_succ,Nat.testBit_or]
   have h2:(m&&& n) / 2=(m / 2)&&& (n / 2):=by
    apply Nat.eq_of_testBit_eq;intro i;simp [<- Nat.testBit_succ,Nat.testBit_and]
   have h3:(m||| n)%2+(m&&& n)%2=m%2+n%2:=by
    rw [Bm.eQ (m||| n),Bm.eQ (m&&& n),Bm.eQ m,Bm.eQ n,Nat.testBit_or,Nat.testBit_and]
    cases m.testBit 0<;>cases n.testBit 0<;>rfl
   rfl'
theorem xJ (m n:Nat):Builtin.bitOr (m:Int) (n:Int)=((m||| n:Nat):Int):=by
 rw [PyProof.Rows.bitOr_and,iK];have:=zA m n;rfl'
theorem Fl (m n:Nat):(m^^^n)+2*(m&&& n)=m+n:=by
 induction m using Nat.strongRecOn generalizing n with
 | ind m ih=>
  by_cases hz:m=0
  .subst hz;simp
  .have q:=ih (m / 2) (by rfl') (n / 2);have h1:=Bm.zy m n;have h2:(m&&& n) / 2=(m / 2)&&& (n / 2):=by
    apply Nat.eq_of_testBit_eq;intro i;simp [<- Nat.testBit_succ,Nat.testBit_and]
   have h3:(m^^^n)%2+2*((m&&& n)%2)=m%2+n%2:=by
    rw [Bm.eQ (m^^^n),Bm.eQ (m&&& n),Bm.eQ m,Bm.eQ n,Nat.testBit_xor,Nat.testBit_and]
    cases m.testBit 0<;>cases n.testBit 0<;>rfl
   rfl'
theorem kY (m n:Nat):Builtin.bitXor (m:Int) (n:Int)=((m^^^n:Nat):Int):=by
 unfold Builtin.bitXor;rw [xJ,iK];have h1:=zA m n;have h2:=Fl m n;rfl'
theorem zB (k:Nat):((2^k:Nat):Int)=(2:Int)^k:=by simp
end Bx
section
namespace L2
open PySem PySem.Spec PyProof.Rows
variable {H:Hp} {Q:VK} {n:Nat} {wi:TI} {x:Str} {env:Env} {h':Heap} {pos:Pos} {tg:Expr} {w:World} {xs:List V} {C a p:Addr} {N':List Str} {ms:List Int} {ch:List Addr} {es ifs:List Expr} {esc sc scope:Scope} {κ:List (Option Nat)} {m':Str->Option Value} {pins:List (Addr×Obj)} {E:Value->Shared->Prop} {RR:Value->Addr->Result->Shared->Prop}
abbrev blk (X:Cx) (sc:Scope) (N':List Str) (cl:List (Str×Addr)) (C:Addr) (s:Shared) (H:Hp) (fp:List Addr) (pins:List (Addr×Obj)):Cx where
 prog:=X.prog
 w:=X.w
 K:=X.K
 mg:=X.mg
 base:=X.base
 A:=X.A
 N:=N'
 s₀:=s
 H₀:=H
 env:=compEnvC sc cl C X.env
 outer:=X.stack
 stack:=X.stack
 ex:=fp
 fn:=λ _=>false
 calm:=X.calm
 pn:=X.pn++pins
 xe:=λ _ _=>False
structure CScope (esc sc:Scope):Prop where
 kind:sc.kind= .function
 nocell: ∀y∈sc.names,y.2≠ .cell
 locs: ∀y∈sc.names,y.2= .local->sc.names.lookup y.1=some .local
 frees: ∀y∈sc.names,y.2= .free->esc.names.lookup y.1=some .cell\/esc.names.lookup y.1=some .free
theorem mem_lookup {β:Type} {x:Str} {k:β}: ∀ {l:List (Str×β)},l.lookup x=some k->(x,k)∈l
 | [],h=>by simp at h
 | (n,k')::r,h=>by
  rw [List.lookup_cons] at h
  cases e:x==n with
  | true=>
   rw [e] at h;have e':x=n:=eq_of_beq e;injection h with h
   subst e';subst h;exact Zs
  | false=>
   rw [e] at h;exact Zv _ (mem_lookup h)
theorem oO {env:Env}: ∀ (names:List (Str×NameKind)) (cs:List (Str×Addr)),(∀y∈names,y.2= .free-> ∃c,env.cells.lookup y.1=some c)->(∀x c,cs.lookup x=some c->env.cells.lookup x=some c)->
  ∃cl:List (Str×Addr),(forIn names cs λ (y:Str×NameKind) (r:List (Str×Addr))=>(if (y.2==NameKind.free)=true then (cellOf env y.1 >>= λ c=>pure (ForInStep.yield ((y.1,c)::r))) else pure (ForInStep.yield r):Sem (ForInStep (List (Str×Addr)))))=pure cl/\
   (∀x c,cl.lookup x=some c->env.cells.lookup x=some c)/\ ∀x c,env.cells.lookup x=some c->((x,NameKind.free)∈names\/cs.lookup x=some c)->cl.lookup x=some c
 | [],cs,_,hcs=>⟨cs,rfl,hcs,λ x c _ h=>h.elim (λ z=>nomatch z) id⟩
 | (n, k) :: r, cs, hf, hcs => by
  have hf': ∀y∈r,y.2= .free-> ∃c,env.cells.lookup y.1=some c:=λ y hy=>hf y (Zv _ hy)
  by_cases hk:k= .free
  .subst hk;obtain ⟨c,hc⟩:=hf (n, .free) Zs rfl;have ec:cellOf env n=pure c:=by
    have hc':env.cells.lookup n=some c:=hc;unfold cellOf;rw [hc']
   have hcs': ∀x c',((n,c)::cs).lookup x=some c'->env.cells.lookup x=some c':=λ x c' h=>by
    rw [List.lookup_cons] at h
    cases e:x==n with
    | true=>
     rw [e] at h;injection h with h
     have e':x=n:=eq_of_beq e;subst e';subst h;exact hc
    | false=>rw [e] at h;exact hcs x c' h
   obtain ⟨cl,e,h1,h2⟩:=oO r ((n,c)::cs) hf' hcs';refine ⟨cl,?_,h1,λ x c' hx hm=>h2 x c' hx ?_⟩
   .rw [Xd];simp only [beq_self_eq_true,if_true];rw [ec];exact e
   .rw [List.lookup_cons]
    cases ex:x==n with
    | true=>
     right;have e':x=n:=eq_of_beq ex;subst e';exact hc.symm.trans hx
    | false=>
     rcases hm with hm | hm
     .rcases Zm.mp hm with z | z
      .have e':x=n:=Yt Prod.fst z;subst e';rw [beq_self_eq_true] at ex
       cases ex
      .exact .inl z
     .exact .inr hm
  .obtain ⟨cl,e,h1,h2⟩:=oO r cs hf' hcs;have hk':(k==NameKind.free)=false:=by
    cases k<;>first | rfl | exact absurd rfl hk
   refine ⟨cl,?_,h1,λ x c' hx hm=>h2 x c' hx ?_⟩
   .rw [Xd];simp only [hk',Yl,Xr];exact e
   .rcases hm with hm | hm
    .rcases Zm.mp hm with z | z
     .exact absurd (Yt Prod.snd z).symm hk
     .exact .inl z
    .exact .inr hm
theorem vO (hf: ∀y∈sc.names,y.2= .free-> ∃c,env.cells.lookup y.1=some c):
  ∃cl:List (Str×Addr),closureFor sc env=pure cl/\(∀x c,cl.lookup x=some c->env.cells.lookup x=some c)/\ ∀x c,env.cells.lookup x=some c->(x,NameKind.free)∈sc.names->cl.lookup x=some c:=by
 obtain ⟨cl,e,h1,h2⟩:=oO (env:=env) sc.names [] hf (λ x c h=>by simp at h);refine ⟨cl,?_,h1,λ x c hx hm=>h2 x c hx (.inl hm)⟩;have q:closureFor sc env=((forIn sc.names [] λ (y:Str×NameKind) (r:List (Str×Addr))=>(if (y.2==NameKind.free)=true then (cellOf env y.1 >>= λ c=>pure (ForInStep.yield ((y.1,c)::r))) else pure (ForInStep.yield r):Sem (ForInStep (List (Str×Addr))))) >>= λ cs=>pure cs):=by
  first
   | rfl
   | (unfold closureFor;congr 1)
 rw [q,e];rfl
theorem fU {env:Env} {x:Str}: ∀ {names:List (Str×NameKind)},
  (names.map λ (n,k)=>if (k==NameKind.free&&env.scope.kind== .function&&env.kindOf n==some .cell) then (n,NameKind.cell) else (n,k)).lookup x=
   (names.lookup x).map λ k=>if (k==NameKind.free&&env.scope.kind== .function&&env.kindOf x==some .cell) then NameKind.cell else k
 | []=>rfl
 | (n, k) :: r => by
  have ih:=fU (env:=env) (x:=x) (names:=r);show List.lookup x ((if (k==NameKind.free&&env.scope.kind== .function&&env.kindOf n==some .cell)=true then (n,NameKind.cell) else (n,k))::_)=_;rw [List.lookup_cons (b:=k)]
  cases hx:x==n with
  | true=>
   have e:x=n:=eq_of_beq hx;subst e;by_cases hc:(k==NameKind.free&&env.scope.kind== .function&&env.kindOf x==some .cell)=true
   .rw [if_pos hc,List.lookup_cons,hx];show some NameKind.cell=some (if (k==NameKind.free&&env.scope.kind== .function&&env.kindOf x==some .cell)=true then NameKind.cell else k);rw [if_pos hc]
   .rw [if_neg hc,List.lookup_cons,hx];show some k=some (if (k==NameKind.free&&env.scope.kind== .function&&env.kindOf x==some .cell)=true then NameKind.cell else k);rw [if_neg hc]
  | false=>
   by_cases hc:(k==NameKind.free&&env.scope.kind== .function&&env.kindOf n==some .cell)=true
   .rw [if_pos hc,List.lookup_cons,hx];exact ih
   .rw [if_neg hc,List.lookup_cons,hx];exact ih
theorem CScope.free_of (S:CScope esc sc) (h:(relabel sc env).names.lookup x=some .cell\/(relabel sc env).names.lookup x=some .free):(x,NameKind.free)∈sc.names:=by
 have q:(relabel sc env).names.lookup x=_:=fU (env:=env) (x:=x) (names:=sc.names);rw [q] at h
 cases e:sc.names.lookup x with
 | none=>rw [e] at h;simp at h
 | some k=>
  have hm:=mem_lookup e;have hn:=S.nocell _ hm
  cases k with
  | free=>exact hm
  | cell=>exact absurd rfl hn
  | _=>rw [e] at h;simp at h
theorem CScope.cell_of (S:CScope esc sc) (he:env.scope=esc) (hk:env.scope.kind= .function) (h:sc.names.lookup x=some .free):(relabel sc env).names.lookup x=some .cell\/(relabel sc env).names.lookup x=some .free:=by
 have q:(relabel sc env).names.lookup x=_:=fU (env:=env) (x:=x) (names:=sc.names);rw [q,h];simp only [Option.map_some];split
 .exact .inl rfl
 .exact .inr rfl
def cap (κ:List (Option Nat)) (Z:St):St:=κ.map λ o=>o.bind λ i=>(Z[i]?).join
def capOk (κ:List (Option Nat)) (N' N:List Str) (sc:Scope):Bool:=
 decide (κ.length=N'.length)&&(κ.zip N').all λ p=>match p.1 with
  | none=>true
  | some i=>N[i]? ==some p.2&&sc.names.lookup p.2==some .free
theorem capOk.len {N:List Str} (h:capOk κ N' N sc=true):κ.length=N'.length:=by
 unfold capOk at h;rw [Xo] at h;exact Xx h.1
theorem capOk.at {κ:List (Option Nat)} {N' N:List Str} {sc:Scope} (h:capOk κ N' N sc=true) {j:Nat} {y:Str} {v:V} {Z:St} (hN:N'[j]? =some y) (hv:(cap κ Z)[j]? =some (some v)):
  ∃i:Nat,N[i]? =some y/\Z[i]? =some (some v)/\sc.names.lookup y=some .free:=by
 unfold capOk at h;rw [Xo,List.all_eq_true] at h;unfold cap at hv;rw [Zj] at hv
 cases e:κ[j]? with
 | none=>rw [e] at hv;simp at hv
 | some o=>
  rw [e] at hv;simp only [Option.map_some,Option.some.injEq] at hv
  cases o with
  | none=>simp at hv
  | some i=>
   have hm:(some i,y)∈κ.zip N':=Ze (i:=j) (by rw [List.getElem?_zip_eq_some];exact ⟨e,hN⟩);have q:=h.2 _ hm;simp only [Xo,beq_iff_eq] at q;refine ⟨i,q.1,?_,q.2⟩;simp only [Option.bind_some] at hv
   cases r:Z[i]? with
   | none=>rw [r] at hv;simp at hv
   | some z=>rw [r] at hv;simp at hv;rw [hv]
def oR (a b:St):Prop:=b.length=a.length/\ ∀ (i:Nat) v,a[i]? =some (some v)->b[i]? =some (some v)
def zE (X:Cx) (ifs:List Expr) (t:TT):Prop:=
 ∀ (pins:List (Addr×Obj)) (s:Shared) (Z:St) (H:Hp) (Q:Bool->Hp->Prop),Inv X pins Z H s->t Z H Q->
  wpAny (model X.prog X.w) X.A (forIn ifs true λ c r=>if r=true then do let ok <- isTrue c X.env (eval c X.env);pure (ForInStep.yield ok) else pure (ForInStep.yield r)) (TP X pins Z Q) X.xe s
def eZ:TT:=λ _ H Q=>Q true H
theorem cT {X:Cx}:zE X [] eZ:=λ pins s Z H Q I h=>wpAny_tests_nil ⟨H,I,h⟩
theorem iW {X:Cx} {c:Expr} {t:TT} (h:PT X c t):zE X [c] t:=λ pins s Z H Q I q=>wpAny_tests_one (h pins s Z H Q I q)
section
variable {prog:Program} {w:World} {A:Around} {R:Result->Shared->Prop} {s:Shared}
theorem oU {elt target iter:Expr} {it acc:Value} (I:Nat->Shared->Prop)
  (turn: ∀n s,I n s->wpAny (model prog w) A (pyNext it) (λ r s₁=>match r with
   | none=>R (.ok .next) s₁
   | some v=>wpAny (model prog w) A (letOwnedTupleGo target it v) (λ _ s₁'=>wpAny (model prog w) A (assign target env v) (λ _ s₂=>
     wpAny (model prog w) A (forIn ifs true λ c r=>if r=true then do let ok <- isTrue c env (eval c env);pure (ForInStep.yield ok) else pure (ForInStep.yield r)) (λ ok s₃=>
      if ok=true then wpAny (model prog w) A (eval elt env) (λ x s₄=>
       wpAny (model prog w) A (call (.builtin "list.append") [acc,x]) (λ _ s₅=> ∃m,m<n/\I m s₅) (λ _ _=>False) s₄) (λ _ _=>False) s₃
      else ∃m,m<n/\I m s₃) (λ _ _=>False) s₂) (λ _ _=>False) s₁') (λ _ _=>False) s₁) (λ _ _=>False) s)
  (n:Nat) (h:I n s):
  codeAny (model prog w) A (.compLoop (.ListComp elt [⟨target,iter,ifs,0⟩] scope pos) 0 it acc env) R s:=by
 refine codeAny_loop rfl I (λ n s hI=> ?_) n h;show wpAny _ A ((compTurn (.ListComp elt [⟨target,iter,ifs,0⟩] scope pos) 0 it acc env).onRaise (λ x=>do noteFrame x env;theTreesLotGoes x)) _ _ s;refine wpAny_noted ?_;rw [compTurn_list];refine Wv (E:=λ _ _=>False) ?_ (λ _ _ q=>q) (λ _ _ z=>z.elim);refine Qb (wpAny_standAt (Qb (Wv (turn n s hI) (λ r s₁ h₁=> ?_) λ _ _ h'=>h')))
 cases r with
 | none=>exact Zc h₁
 | some v=>
  refine Qb (Wv h₁ (λ _ s₁' h₁'=> ?_) λ _ _ h'=>h');refine Qb (Wv h₁' (λ _ s₂ h₂=>Qb (Wv h₂ (λ ok s₃ h₃=> ?_) λ _ _ h'=>h')) λ _ _ h'=>h')
  cases ok with
  | false=>exact Zc ⟨rfl,h₃⟩
  | true=>
   exact Qb (Qb (Wv h₃ (λ x s₄ h₄=>Qb (Wv h₄ (λ _ s₅ h₅=>Zc (Zc ⟨rfl,h₅⟩)) λ _ _ h'=>h')) λ _ _ h'=>h'))
end
theorem HOk.track {P:Program} {h:Heap} {o:HO} (x:HOk P w H h) (hn:H a=none) (new:ObjOk P w (upd H a o) h a o):HOk P w (upd H a o) h:=λ b u e=>by
 by_cases hb:b=a
 .subst hb;rw [aa] at e;cases e;exact new
 .rw [au hb] at e;exact (x b u e).stay (λ c v _ q=>q) (λ c q=>by rw [au (aO q hn)];exact q) λ c xs q=>by rw [au (aO q hn)];exact q
section
variable {X:Cx} {pins:List (Addr×Obj)} {Z:St} {H2:Hp} {s₂:Shared} {tg iter elt:Expr} {ifs:List Expr} {sc:Scope} {pos:Pos} {N':List Str} {κ:List (Option Nat)} {cl:List (Str×Addr)} {it:Addr} {fp:List Addr} {tn:Nat->Heap->Prop} {J:It} {g:TG} {tc:TT} {te:TE}
theorem JW (I:Inv X pins Z H2 s₂) (f2: ∀b∈fp,kh X pins H2 b) (fl: ∀b∈fp,b<s₂.heap.objs.size) (S:CScope X.env.scope sc)
  (hcl1: ∀x c,cl.lookup x=some c->X.env.cells.lookup x=some c) (hcl2: ∀x c,X.env.cells.lookup x=some c->(x,NameKind.free)∈sc.names->cl.lookup x=some c) (hC:s₂.heap.objs.size<=C):
  (blk X sc N' cl C s₂ H2 fp pins).Ok where
 mod:=I.mod
 kind:=S.kind
 glob:=I.ok.glob
 blt:=I.ok.blt
 above:=hC
 inj:=λ x y c h1 h2=>I.ok.inj x y c (hcl1 _ _ h1) (hcl1 _ _ h2)
 has:=λ x h=>by
  have hm:=S.free_of (env:=X.env) h;obtain ⟨c,hc⟩:=I.ok.has x (S.frees _ hm rfl);exact ⟨c,hcl2 x c hc hm⟩
 cab:=λ x c h _=>by cases h
 hd:=I.ok.hd
 frames:=I.ok.frames
 stk:= .inl rfl
 exf:=λ b hb=>⟨Nat.ne_of_lt (Yc (fl b hb) hC),λ x c hx=>(f2 b hb).2.2.2.2.1 x c (hcl1 x c hx)⟩
 bs:=I.bs
 bsz:=Yg I.ok.bsz I.sz
 noex:=λ b o hb hm=>by
  obtain ⟨_,_,_,h4,_⟩:=f2 b hm;rcases h4 with h4 | h4
  .exact I.ok.noex b o hb h4
  .exact absurd (Zp (I.ok.bs b o hb).1) (Nat.not_lt.mpr h4)
 exfs:=λ b hb hm=>by
  rcases Zm.mp (I.stkSub b hm) with z | z
  .exact (f2 b hb).2.1 z
  .exact (f2 b hb).2.2.1 z
 funs:=I.stack
 frf:=I.stkFree
theorem Fp (I:Inv X pins Z H2 s₂) (f2: ∀b∈fp,kh X pins H2 b) (fl: ∀b∈fp,b<s₂.heap.objs.size) (S:CScope X.env.scope sc) (hcap:capOk κ N' X.N sc=true)
  (hcl1: ∀x c,cl.lookup x=some c->X.env.cells.lookup x=some c) (hcl2: ∀x c,X.env.cells.lookup x=some c->(x,NameKind.free)∈sc.names->cl.lookup x=some c) (hC:s₂.heap.objs.size<=C)
  {tk:Nat} (hn:h'.Ns C m') (old: ∀b o,s₂.heap.get? b=some o->h'.get? b=some o):
  Inv (blk X sc N' cl C s₂ H2 fp pins) [] (cap κ Z) H2 { s₂ with heap:=h',toks:=tk } where
 ok:=JW I f2 fl S hcl1 hcl2 hC
 os:=rfl
 bare:=I.bare
 base:=Un.kept old
 loc:=⟨m',hn,λ j y v hy hv hvis=>by
  obtain ⟨i,hi,hs,hf⟩:=capOk.at hcap hy hv;have hm:=mem_lookup hf;have hfr:=S.frees _ hm rfl;obtain ⟨m,_,hl⟩:=I.loc;obtain ⟨u,ru,lk⟩:=hl i y v hi hs (.inr hfr);refine ⟨u,ru, .inr ⟨S.cell_of (env:=X.env) rfl I.ok.kind hf,?_⟩⟩;rcases lk with ⟨hk,_⟩ | ⟨_,c,hc,hu⟩
  .have hk':X.env.scope.names.lookup y=some .local:=hk;rcases hfr with z | z<;>(have z':X.env.scope.names.lookup y=_:=z;rw [hk'] at z';cases z')
  .obtain ⟨o,e,r⟩:=hu;exact ⟨c,hcl2 y c hc hm,o,old _ _ e,r⟩⟩
 cell:=λ x c hx=>by
  obtain ⟨v,o,e,r⟩:=I.cell x c (hcl1 x c hx);exact ⟨v,o,old _ _ e,r⟩
 free:=I.hok.fresh hC
 freeC:=λ x c hx=>I.freeC x c (hcl1 x c hx)
 pin:=λ p hp=>by
  have hp':p∈X.pn++pins:=by simpa using hp
  obtain ⟨h1,h2,h3,h4,h5⟩:=I.pin p hp';refine ⟨old _ _ h1,h2,Yo (Yc (Zp h1) hC),λ z=> ?_,h5⟩;rcases Zm.mp (I.stkSub p.1 z) with y | y
  .exact h3 y
  .exact h4 y
 hok:=I.hok.kept old
 len:=by
  show (cap κ Z).length=N'.length;unfold cap;rw [Qr];exact capOk.len hcap
structure Left (X:Cx) (pins:List (Addr×Obj)) (Z:St) (C:Addr) (H:Hp) (s:Shared):Prop where
 inv:Inv X pins Z H s
 ns: ∃m,s.heap.Ns C m
 un:H C=none
 nl:C≠X.env.locals
 nf:C∉X.fs
 ab:X.s₀.heap.objs.size<=C
 nc: ∀x c,X.env.cells.lookup x=some c->c≠C
 np: ∀p∈X.pn++pins,p.1≠C
theorem Left.go {s:Shared} (l:Left X pins Z C H s) (hs:Heap.SameBut C s.heap h'):Inv X pins Z H { s with heap:=h' }:=
 l.inv.turned (t':=s.toks) (λ b o hb e=>hs.extBut b o hb e) l.un l.nl (.inr l.ab) l.nc l.np
theorem vP (hc:X.calm=true) (I:Inv X pins Z H2 s₂) (T:Turn X.prog X.w X.K tg J fp it tn) (st:tn 0 s₂.heap) (f2: ∀b∈fp,kh X pins H2 b)
  (S:CScope X.env.scope sc) (hcap:capOk κ N' X.N sc=true) (hcl1: ∀x c,cl.lookup x=some c->X.env.cells.lookup x=some c) (hcl2: ∀x c,X.env.cells.lookup x=some c->(x,NameKind.free)∈sc.names->cl.lookup x=some c)
  (hg: ∀C,PG (blk X sc N' cl C s₂ H2 fp pins) tg g) (hi: ∀C,zE (blk X sc N' cl C s₂ H2 fp pins) ifs tc) (he: ∀C,PE (blk X sc N' cl C s₂ H2 fp pins) elt te)
  {W:Nat->Nat->List V->Hp->Prop} {m0:Nat} (w0:W 0 m0 [] H2)
  (turn: ∀i m ys H,W i m ys H->(J.stop i H/\ ∀p,H p=none->Q (.ref p) (upd H p (.lst ys)))\/
   (J.go i H/\ys.length<sizeLine/\ ∃N:List V->Hp->Prop,(∀ys' H',N ys' H'-> ∃m',m'<m/\W (i+1) m' ys' H')/\ ∀x H',J.yld i H x H'->g x (cap κ Z) H' λ Z2 H2=>oR (cap κ Z) Z2/\tc Z2 H2 λ b H3=>if b=true then te Z2 H3 λ y H4=>N (ys++[y]) H4 else N ys H3))
  (hRR: ∀D C H' s1,Left X pins Z C H' s1->Q (.ref D) H'->RR (.ref D) C (.ok .next) s1):
  wpAny (model X.prog X.w) X.A (newList []) (λ acc s₃=>wpAny (model X.prog X.w) X.A (newFunctionEnv sc X.env.globals cl [] X.env.qual none .none (some X.env)) (λ cenv s₄=>
   codeAny (model X.prog X.w) X.A (.compStart (.ListComp elt [⟨tg,iter,ifs,0⟩] sc pos) 0 (.ref it) acc { cenv with scope:=relabel sc X.env }) (RR acc cenv.locals) s₄) E s₃) E s₂:=by
 refine Xe (wpAny_newFunctionEnv S.nocell (by intro y hy;simp at hy) (λ h₁ hns₁ hsb₁=> ?_) S.kind);dsimp only at hns₁ hsb₁ ⊢;generalize hH2:s₂.heap.push { cls:= .type "list",dict:=none,data:= .seq ([]:List Value).toArray }=P2 at hns₁ hsb₁ ⊢;have hCs:P2.objs.size=s₂.heap.objs.size+1:=by rw [<- hH2,Heap.size_push]
 generalize hCe:P2.objs.size=C at hns₁ hsb₁ hCs ⊢;generalize hDe:s₂.heap.objs.size=D at hCs ⊢;have hDC:D≠C:=by rw [hCs];exact Yo (Nat.lt_succ_self _)
 have hC:s₂.heap.objs.size<=C:=by rw [hDe,hCs];exact Nat.le_succ _
 have hD:s₂.heap.objs.size<=D:=by rw [hDe];exact Zk _
 have below: ∀b,b<s₂.heap.objs.size->b≠C/\b≠D:=λ b hb=>⟨Nat.ne_of_lt (Yc hb hC),Yo (Yc hb hD)⟩
 have old: ∀b o,s₂.heap.get? b=some o->h₁.get? b=some o:=λ b o e=>hsb₁.extBut b o (below b (Zp e)).1 (Zf _ (hH2▸Zf _ e))
 have hacc:h₁.get? D=some { cls:= .type "list",data:= .seq ([]:List Value).toArray ([]:List Value).length }:=by
  have q:P2.get? s₂.heap.objs.size=some { cls:= .type "list",data:= .seq ([]:List Value).toArray 0 }:=hH2▸Zt _ rfl;rw [hDe] at q;exact hsb₁.extBut _ _ hDC (Zf _ q)
 have fl: ∀b∈fp,b<s₂.heap.objs.size:=λ b hb=>by
  obtain ⟨o,e,_⟩:=T.obj 0 _ st b hb;exact Zp e
 have st₁:tn 0 h₁:=T.keep 0 _ _ st λ b _ o e=>old b o e
 have IB: ∀tk,Inv (blk X sc N' cl C s₂ H2 fp pins) [] (cap κ Z) H2 { s₂ with heap:=h₁,toks:=tk }:=λ tk=>Fp I f2 fl S hcap hcl1 hcl2 hC hns₁ old
 have cells: ∀x c,cl.lookup x=some c->c<s₂.heap.objs.size:=λ x c hx=>by
  obtain ⟨v,o,e,_⟩:=I.cell x c (hcl1 x c hx);exact Zp e
 have pnlt: ∀p∈X.pn++pins,p.1<s₂.heap.objs.size:=λ p hp=>Zp (I.pin p hp).1
 have stat: ∀ {H':Hp} {pl:List (Addr×Obj)},(∀b∈fp,H' b=none)->(∀p∈pl,p.1=D)-> ∀b∈fp,kh (blk X sc N' cl C s₂ H2 fp pins) pl H' b:=λ {H' pl} hn hpl b hb=>by
  refine ⟨hn b hb,(below b (fl b hb)).1,λ z=> ?_, .inl hb,λ x c hx=>(f2 b hb).2.2.2.2.1 x c (hcl1 x c hx),λ p hp=> ?_⟩
  .rcases Zm.mp (I.stkSub b z) with z | z
   .exact (f2 b hb).2.1 z
   .exact (f2 b hb).2.2.1 z
  .rcases Zi.mp hp with z | z
   .exact (f2 b hb).2.2.2.2.2 p z
   .rw [hpl p z];exact Ne.symm (below b (fl b hb)).2
 have pinD: ∀ {s':Shared} {Z':St} {H':Hp} {o:Obj},Inv (blk X sc N' cl C s₂ H2 fp pins) [] Z' H' s'->s'.heap.get? D=some o->H' D=none->(∀v,o.data≠ .cell v)->Inv (blk X sc N' cl C s₂ H2 fp pins) [(D,o)] Z' H' s':=λ {s' Z' H' o} I' e n d=>
  I'.pins_of λ p hp=>by
   rw [Za.mp hp];refine ⟨e,n,hDC,λ z=> ?_,d⟩;have z':D<s₂.heap.objs.size:=by
    rcases Zm.mp (I.stkSub D z) with y | y
    .have y':D=X.env.locals:=y;rw [y'];exact I.lt
    .exact absurd y (I.nofs hD)
   exact absurd z' (Nat.not_lt.mpr hD)
 have loop : ∀ s₃ : Shared, s₃ = { s₂ with heap := h₁, toks := s₂.toks + ([] : List (Str × Value)).length } ->
   codeAny (model X.prog X.w) X.A (.compLoop (.ListComp elt [⟨tg,iter,ifs,0⟩] sc pos) 0 (.ref it) (.ref D) (compEnvC sc cl C X.env)) (RR (.ref D) C) s₃:=by
  rintro s₃ rfl;refine oU (λ n s'=> ∃ (i:Nat) (ys:List V) (its:List Value) (H':Hp),Inv (blk X sc N' cl C s₂ H2 fp pins) [] (cap κ Z) H' s'/\tn i s'.heap/\(∀b∈fp,H' b=none)/\
   s'.heap.get? D=some { cls:= .type "list",data:= .seq its.toArray its.length }/\Vals ys its/\H' D=none/\ys.length<=sizeLine/\W i n ys H') ?_ m0
   ⟨0,[],[],H2,IB _,st₁,λ b hb=>(f2 b hb).1,hacc, .nil,I.hok.fresh hD,Yz _,w0⟩
  rintro n s3 ⟨i,ys,its,H3,I3,st3,fr3,d3,v3,n3,z3,w3⟩;have I3':=pinD I3 d3 n3 (by intro v z;cases z);have ff:=stat (pl:=[(D,({ cls:= .type "list",data:= .seq its.toArray its.length }:Obj))]) fr3 (λ p hp=>by rw [Za.mp hp]);rcases turn i n ys H3 w3 with ⟨stop,qn⟩ | ⟨go,hlt,N,hN,step⟩
  .refine bB (T.done (blk X sc N' cl C s₂ H2 fp pins) rfl rfl rfl hc i _ s3 (cap κ Z) H3 _ I3' ff st3 stop) λ r s4 ⟨hr,I4⟩=> ?_
   subst hr;show RR (.ref D) C (.ok .next) s4;obtain ⟨dD,nD,_⟩:=I4.pin (D,_) (Zw _ Zs);have nC:H3 C=none:=I4.free;have u4:=I4.base;have hok:HOk X.prog X.w (upd H3 D (.lst ys)) s4.heap:=HOk.track I4.hok nD ⟨z3,its,its.length,v3,dD⟩;have un:Un (frs X.stack) fp H2 (upd H3 D (.lst ys)) s₂.heap s4.heap:=
    ⟨u4.keep,u4.slot,λ b o q n hx=>by rw [au (below b (Zp q)).2];exact u4.free b o q n hx,u4.there,
     λ b xs q=>by rw [au (aO (u4.tups b xs q) nD)];exact u4.tups b xs q,
     λ b o x q=>by rw [au (aO (u4.frzs b o x q) nD)];exact u4.frzs b o x q,
     λ b ps q=>by
      obtain ⟨m1,e1⟩:=u4.tbls b ps q;exact ⟨m1,by rw [au (aO e1 nD)];exact e1⟩⟩
   have IX:Inv X pins Z (upd H3 D (.lst ys)) s4:=I.call' (by exact I4.os) un hok I4.bare λ b hb=>⟨(f2 b hb).2.2.2.1,(f2 b hb).2.1,(f2 b hb).2.2.2.2⟩
   obtain ⟨m4,hn4,_⟩:=I4.loc;refine hRR D C _ s4 ⟨IX,⟨m4,hn4⟩,by rw [au (Ne.symm hDC)];exact nC,Ne.symm (below _ I.lt).1,I.nofs hC,Yg I.sz hC,λ x c hx=> ?_,λ p hp=>(below _ (pnlt p hp)).1⟩ (qn D nD);obtain ⟨v,o,e,_⟩:=I.cell x c hx;exact (below c (Zp e)).1
  .refine bB (T.item (blk X sc N' cl C s₂ H2 fp pins) rfl rfl rfl hc i _ s3 (cap κ Z) H3 _ I3' ff st3 go) λ r s4 ⟨u,hr,h4⟩=> ?_
   subst hr;refine bB h4 λ _ s5 ⟨x,H5,I5,r5,y5,st5,fr5⟩=> ?_
   have ff5:=stat (pl:=[(D,({ cls:= .type "list",data:= .seq its.toArray its.length }:Obj))]) fr5 (λ p hp=>by rw [Za.mp hp]);have I5':=I5.pinned ff5 (T.obj _ _ st5);refine bB (hg C _ s5 (cap κ Z) H5 x u _ I5' r5 (step x H5 y5)) λ _ s6 ⟨Z6,H6,I6,ex6,q6⟩=> ?_
   refine bB (hi C _ s6 Z6 H6 _ I6 q6) λ ok s7 ⟨H7,I7,q7⟩=> ?_
   have keep: ∀ {Z8:St} {H8:Hp} {s8:Shared},Inv (blk X sc N' cl C s₂ H2 fp pins) ([(D,({ cls:= .type "list",data:= .seq its.toArray its.length }:Obj))]++kj fp s5.heap) Z8 H8 s8->
     tn (i+1) s8.heap/\(∀b∈fp,H8 b=none)/\s8.heap.get? D=some { cls:= .type "list",data:= .seq its.toArray its.length }/\H8 D=none:=λ {Z8 H8 s8} I8=>by
    refine ⟨T.keep _ _ _ st5 λ b hb o e=>(I8.pin (b,o) (Zw _ (Zw _ (fK hb e)))).1,λ b hb=> ?_,?_⟩
    .obtain ⟨o,e,d⟩:=T.obj _ _ st5 b hb;exact (I8.pin (b,o) (Zw _ (Zw _ (fK hb e)))).2.1
    .obtain ⟨e,n,_⟩:=I8.pin (D,_) (Zw _ (Zz _ Zs));exact ⟨e,n⟩
   cases ok with
   | false=>
    have q7':N ys H7:=by simpa using q7
    obtain ⟨m',hm,w7⟩:=hN _ _ q7';obtain ⟨t8,f8,d8,n8⟩:=keep I7;show ∃m,m<n/\_;exact ⟨m',hm,i+1,ys,its,H7,(I7.pins_of (pins':=[]) (λ p hp=>nomatch hp)).weak ex6.1.symm ex6.2,t8,f8,d8,v3,n8,z3,w7⟩
   | true=>
    have q7':te Z6 H7 λ y H4=>N (ys++[y]) H4:=by simpa using q7
    show wpAny _ _ (eval elt (compEnvC sc cl C X.env)) _ _ s7;refine bB (he C _ s7 Z6 H7 _ I7 q7') λ v s8 ⟨y,H8,I8,r8,q8⟩=> ?_
    obtain ⟨m',hm,w8⟩:=hN _ _ q8;obtain ⟨t8,f8,d8,n8⟩:=keep I8;refine append_at (hsz:=by rw [Zu,<- v3.length];exact z3) d8 λ h9 hs9 hd9=> ?_
    have I9:Inv (blk X sc N' cl C s₂ H2 fp pins) [] Z6 H8 { s8 with heap:=h9,toks:=s8.toks }:=by
     refine (I8.pins_of (pins':=[]) (λ p hp=>nomatch hp)).turned (λ b o hb e=>hs9.extBut b o hb e) n8 hDC (.inr hD) (λ x c hx=>(below c (cells x c hx)).2) λ p hp=> ?_
     have hp':p∈X.pn++pins:=by simpa using hp
     exact (below _ (pnlt p hp')).2
    refine ⟨m',hm,i+1,ys++[y],its++[v],H8,I9.weak ex6.1.symm ex6.2,T.keep _ _ _ t8 λ b hb o e=>hs9.extBut b o (below b (fl b hb)).2 e,f8,?_,Vals.append v3 (.cons r8 .nil),n8,?_,w8⟩
    .show h9.get? D=_;rw [hd9];simp
    .rw [Zg,Yn];exact hlt
 exact codeAny_compStart_list (loop _ rfl) (T.self X.A 0 _ _ _ st₁ (loop _ rfl))
def oV (κ:List (Option Nat)) (wi:TI) (g:TG) (tc:TT) (te:TE):TE:=λ Z H Q=>wi Z H λ J H1=> ∃W:Nat->Nat->List V->Hp->Prop,(∃m,W 0 m [] H1)/\ ∀i m ys H,W i m ys H->
 (J.stop i H/\ ∀p,H p=none->Q (.ref p) (upd H p (.lst ys)))\/
 (J.go i H/\ys.length<sizeLine/\ ∃N:List V->Hp->Prop,(∀ys' H',N ys' H'-> ∃m',m'<m/\W (i+1) m' ys' H')/\ ∀x H',J.yld i H x H'->g x (cap κ Z) H' λ Z2 H2=>oR (cap κ Z) Z2/\tc Z2 H2 λ b H3=>if b=true then te Z2 H3 λ y H4=>N (ys++[y]) H4 else N ys H3)
theorem Pr (κ:List (Option Nat)) (N':List Str) (hc:X.calm=true) (hit:PI X tg iter wi) (S:CScope X.env.scope sc) (hcap:capOk κ N' X.N sc=true)
  (hg: ∀cl C s H fp pins,PG (blk X sc N' cl C s H fp pins) tg g) (hi: ∀cl C s H fp pins,zE (blk X sc N' cl C s H fp pins) ifs tc) (he: ∀cl C s H fp pins,PE (blk X sc N' cl C s H fp pins) elt te)
  (hs: ∀x,foldedSetIterable iter X.env x=pure x:=by intro _;rfl):PE X (.ListComp elt [⟨tg,iter,ifs,0⟩] sc pos) (oV κ wi g tc te):=by
 intro pins s Z H Q I h;obtain ⟨cl,hclos,hcl1,hcl2⟩:=vO (sc:=sc) (env:=X.env) λ y hy hf=>I.ok.has y.1 (S.frees y hy hf)
 rw [eval_ListComp];refine wpAny_comprehension_free (use:=none) rfl hs hclos S.kind S.locs (bB (hit pins s Z H _ I h) λ v s1 h1=>bB h1 λ itv s2 h2=> ?_);obtain ⟨it,fp,tn,J,H2,e,I2,T,st2,f2,W,⟨m0,w0⟩,turn⟩:=h2;subst e;refine vP hc I2 T st2 f2 S hcap hcl1 hcl2 (λ C=>hg cl C s2 H2 fp pins) (λ C=>hi cl C s2 H2 fp pins) (λ C=>he cl C s2 H2 fp pins) w0 turn λ D C H' s1 l q=> ?_
 obtain ⟨m,hn⟩:=l.ns;exact ⟨m,hn,λ h' hs'=>⟨V.ref D,H',l.go hs',rfl,q⟩⟩
theorem qI {i:Nat} {px spos:Pos} (κ:List (Option Nat)) (N':List Str) (hc:X.calm=true) (hN:X.N.Nodup) (hix:X.N[i]? =some x) (hlx:X.env.scope.names.lookup x=some .local)
  (hit:PI X tg iter wi) (S:CScope X.env.scope sc) (hcap:capOk κ N' X.N sc=true)
  (hg: ∀cl C s H fp pins,PG (blk X sc N' cl C s H fp pins) tg g) (hi: ∀cl C s H fp pins,zE (blk X sc N' cl C s H fp pins) ifs tc) (he: ∀cl C s H fp pins,PE (blk X sc N' cl C s H fp pins) elt te)
  (hsw:swapsWith (.ListComp elt [⟨tg,iter,ifs,0⟩] sc pos) (some (.Name x px)) spos.line X.env=pure true:=by rfl)
  (hs: ∀x,foldedSetIterable iter X.env x=pure x:=by intro _;rfl):PS X (.Assign [.Name x px] (.ListComp elt [⟨tg,iter,ifs,0⟩] sc pos) spos) (aJ (oV κ wi g tc te) (az i)):=by
 intro pins s Z H D I h;obtain ⟨cl,hclos,hcl1,hcl2⟩:=vO (sc:=sc) (env:=X.env) λ y hy hf=>I.ok.has y.1 (S.frees y hy hf)
 rw [exec_Assign_Name_used _ _ _ _ hsw];refine Qb (wpAny_standAt (Qb ?_));show wpAny _ X.A (do let _ <- comprehension (.ListComp elt [⟨tg,iter,ifs,0⟩] sc pos) sc X.env _ (newList []) false (eval iter X.env) (some (assign (.Name x px) X.env))) _ _ s;refine Qb (Wv (wpAny_comprehension_free (use:=some (assign (.Name x px) X.env)) (Q:=λ _ s'=>SP X pins D .next s') rfl hs hclos S.kind S.locs
  (bB (hit pins s Z H _ I h) λ v s1 h1=>bB h1 λ itv s2 h2=> ?_)) (λ _ s' hq=>Zc (Zc hq)) λ _ _ e=>e)
 obtain ⟨it,fp,tn,J,H2,e,I2,T,st2,f2,W,⟨m0,w0⟩,turn⟩:=h2;subst e;refine vP (Q:=λ y H1=>az i y Z H1 D.nx) hc I2 T st2 f2 S hcap hcl1 hcl2 (λ C=>hg cl C s2 H2 fp pins) (λ C=>hi cl C s2 H2 fp pins) (λ C=>he cl C s2 H2 fp pins) w0 turn λ Dl C H' s1 l q=> ?_
 show wpAny _ X.A (assign (.Name x px) X.env (.ref Dl)) _ _ _;refine wpAny_assign_Name (mF l.inv hN hix (.inl hlx) (v:= .ref Dl) rfl (λ s3 I3 ⟨a,hsa,ha⟩=> ?_) (.inr hlx));obtain ⟨m,hn⟩:=l.ns;have hCa:C≠a:=by
  rcases ha with z | z
  .rw [z];exact l.nl
  .exact Ne.symm (l.nc x a z)
 refine ⟨m,hn.sameBut hsa hCa,λ h' hs'=> ?_⟩;have I4:Inv X pins (Z.set i (some (.ref Dl))) H' { s3 with heap:=h' }:=I3.turned (t':=s3.toks) (λ b o hb e=>hs'.extBut b o hb e) l.un l.nl (.inr l.ab) l.nc l.np;exact ⟨_,_,I4,q⟩
end
section
variable {κ:List (Option Nat)} {g:TG} {tc:TT} {te:TE} {Z:St} {H:Hp} {Q:VK}
theorem zF {lo:Int} (Pv:Nat->List V->Hp->Prop) (h0:Pv 0 [] H) (hn:n<=sizeLine) (hz: ∀i ys H,Pv i ys H->ys.length<=i)
  (hs: ∀i ys H,i<n->Pv i ys H->g (.int (lo+i)) (cap κ Z) H λ Z2 H2=>oR (cap κ Z) Z2/\tc Z2 H2 λ b H3=>if b=true then te Z2 H3 λ y H4=>Pv (i+1) (ys++[y]) H4 else Pv (i+1) ys H3)
  (hd: ∀ys H,Pv n ys H-> ∀p,H p=none->Q (.ref p) (upd H p (.lst ys))):
  ∃W:Nat->Nat->List V->Hp->Prop,(∃m,W 0 m [] H)/\ ∀i m ys H,W i m ys H->
   ((wU lo n).stop i H/\ ∀p,H p=none->Q (.ref p) (upd H p (.lst ys)))\/
   ((wU lo n).go i H/\ys.length<sizeLine/\ ∃N:List V->Hp->Prop,(∀ys' H',N ys' H'-> ∃m',m'<m/\W (i+1) m' ys' H')/\ ∀x H',(wU lo n).yld i H x H'->g x (cap κ Z) H' λ Z2 H2=>oR (cap κ Z) Z2/\tc Z2 H2 λ b H3=>if b=true then te Z2 H3 λ y H4=>N (ys++[y]) H4 else N ys H3):=by
 refine ⟨λ i m ys H=>m=n-i/\i<=n/\Pv i ys H,⟨n,by simp,Yz _,h0⟩,?_⟩;rintro i m ys H ⟨rfl,hi,p⟩;by_cases hlt:i<n
 .refine .inr ⟨hlt,Yc (Yb (hz _ _ _ p) hlt) hn,Pv (i+1),λ ys' H' p'=>⟨n-(i+1),by rfl',rfl,hlt,p'⟩,λ x H' y=> ?_⟩;obtain ⟨e,y⟩:=y;subst e y;exact hs i ys _ hlt p
 .have e:i=n:=by rfl'
  subst e;exact .inl ⟨Nat.le_refl _,hd ys H p⟩
theorem Ft {K:W.Frag} (Pv:Nat->List V->Hp->Prop) (h0:Pv 0 [] H) (hn:xs.length<=sizeLine) (hl: ∀i ys H,i<=xs.length->Pv i ys H->SqL K H a xs) (hz: ∀i ys H,Pv i ys H->ys.length<=i)
  (hs: ∀i x ys H,xs[i]? =some x->Pv i ys H->g x (cap κ Z) H λ Z2 H2=>oR (cap κ Z) Z2/\tc Z2 H2 λ b H3=>if b=true then te Z2 H3 λ y H4=>Pv (i+1) (ys++[y]) H4 else Pv (i+1) ys H3)
  (hd: ∀ys H,Pv xs.length ys H-> ∀p,H p=none->Q (.ref p) (upd H p (.lst ys))):
  ∃W:Nat->Nat->List V->Hp->Prop,(∃m,W 0 m [] H)/\ ∀i m ys H,W i m ys H->
   ((Er K a).stop i H/\ ∀p,H p=none->Q (.ref p) (upd H p (.lst ys)))\/
   ((Er K a).go i H/\ys.length<sizeLine/\ ∃N:List V->Hp->Prop,(∀ys' H',N ys' H'-> ∃m',m'<m/\W (i+1) m' ys' H')/\ ∀x H',(Er K a).yld i H x H'->g x (cap κ Z) H' λ Z2 H2=>oR (cap κ Z) Z2/\tc Z2 H2 λ b H3=>if b=true then te Z2 H3 λ y H4=>N (ys++[y]) H4 else N ys H3):=by
 refine ⟨λ i m ys H=>m=xs.length-i/\i<=xs.length/\Pv i ys H,⟨xs.length,by simp,Yz _,h0⟩,?_⟩;rintro i m ys H ⟨rfl,hi,p⟩;have q:=hl i ys H hi p;by_cases hlt:i<xs.length
 .refine .inr ⟨⟨xs,xs[i],q,by simp [hlt]⟩,Yc (Yb (hz _ _ _ p) hlt) hn,Pv (i+1),λ ys' H' p'=>⟨xs.length-(i+1),by rfl',rfl,hlt,p'⟩,λ x H' y=> ?_⟩;obtain ⟨e,y⟩:=y;subst e;exact hs i x ys _ (y xs q) p
 .have e:i=xs.length:=by rfl'
  subst e;exact .inl ⟨⟨xs,q,Zk _⟩,hd ys H p⟩
end
mutual
inductive Dp (K:W.Frag) (H:Hp):V->PyData->Prop where
 | non:Dp K H .non .none
 | bl (b:Bool):Dp K H (.bl b) (.bool b)
 | int (i:Int):Dp K H (.int i) (.int i)
 | str (x:Str):Dp K H (.str x) (.str x)
 | lst {a:Addr} {xs:List V} {ds:List PyData}:SqL K H a xs->DpAll K H xs ds->Dp K H (.ref a) (.list ds)
 | tup {a:Addr} {xs:List V} {ds:List PyData}:SqT K H a xs->DpAll K H xs ds->Dp K H (.ref a) (.tuple ds)
inductive DpAll (K:W.Frag) (H:Hp):List V->List PyData->Prop where
 | nil:DpAll K H [] []
 | cons {x:V} {xs:List V} {d:PyData} {ds:List PyData}:Dp K H x d->DpAll K H xs ds->DpAll K H (x::xs) (d::ds)
end
theorem DpAll.ints {K:W.Frag}: ∀ns:List Int,DpAll K H (ns.map V.int) (ns.map PyData.int)
 | []=> .nil
 | n::r=> .cons (.int n) (DpAll.ints r)
theorem Dp.ints {K:W.Frag} {ns:List Int} (h:SqL K H a (ns.map V.int)):Dp K H (.ref a) (.list (ns.map PyData.int)):= .lst h (DpAll.ints ns)
section
variable {X:Cx} {pins:List (Addr×Obj)} {Z:St} {H:Hp} {s:Shared}
mutual
theorem Dp.reads (I:Inv X pins Z H s): ∀ {x:V} {d:PyData} {u:Value},Dp X.K H x d->RelV x u-> ∃as,Reads s.heap u d as
 | _,_,_, .non,r=>by cases (show _=Value.none from r);exact ⟨_, .none⟩
 | _,_,_, .bl b,r=>by cases (show _=Value.bool b from r);exact ⟨_, .bool b⟩
 | _,_,_, .int i,r=>by obtain ⟨t,rfl⟩:=r;exact ⟨_, .int i t⟩
 | _,_,_, .str x,r=>by obtain ⟨t,rfl⟩:=r;exact ⟨_, .str x t⟩
 | _,_,_, .lst (a:=a) h hs,r=>by
  cases (show _=Value.ref a from r);obtain ⟨its,rv,p,_⟩:=I.list h;obtain ⟨as,q⟩:=DpAll.reads I hs rv;obtain ⟨o,n,e,hc,_,hd⟩:=p;exact ⟨_, .list e hc hd (by simpa using q)⟩
 | _,_,_, .tup (a:=a) h hs,r=>by
  cases (show _=Value.ref a from r);obtain ⟨its,rv,p,_⟩:=I.tuple h;obtain ⟨as,q⟩:=DpAll.reads I hs rv;obtain ⟨o,e,hc,n,hd⟩:=p;exact ⟨_, .tuple e hc hd (by simpa using q)⟩
theorem DpAll.reads (I:Inv X pins Z H s): ∀ {xs:List V} {ds:List PyData} {us:List Value},DpAll X.K H xs ds->Vals xs us-> ∃as,ReadsAll s.heap us ds as
 | _,_,_, .nil,r=>by cases r;exact ⟨_, .nil⟩
 | _,_,_, .cons h hs,r=>by
  cases r with
  | cons r rr=>
   obtain ⟨as,q⟩:=Dp.reads I h r;obtain ⟨bs,p⟩:=DpAll.reads I hs rr;exact ⟨_, .cons q p⟩
end
def rEqD (K:W.Frag):R2:=λ x y H Q=> ∃d e,Dp K H x d/\Dp K H y e/\SeqAt.shaped d=true/\SeqAt.shaped e=true/\Q (.bl (PyData.eqv d e)) H
def rNeD (K:W.Frag):R2:=λ x y H Q=> ∃d e,Dp K H x d/\Dp K H y e/\SeqAt.shaped d=true/\SeqAt.shaped e=true/\Q (.bl (!PyData.eqv d e)) H
theorem JX (hu:X.A.units+64<cLine):ir X (compareOp .Eq) (rEqD X.K):=by
 intro pins s Z H x y v u Q I rx ry h;obtain ⟨d,e,h1,h2,h3,h4,q⟩:=h;obtain ⟨as,r1⟩:=h1.reads I rx;obtain ⟨bs,r2⟩:=h2.reads I ry;exact eq_dataH r1 r2 h3 h4 hu ⟨.bl _,H,I,rfl,q⟩
theorem JZ (hu:X.A.units+64<cLine):ir X (compareOp .NotEq) (rNeD X.K):=by
 intro pins s Z H x y v u Q I rx ry h;obtain ⟨d,e,h1,h2,h3,h4,q⟩:=h;obtain ⟨as,r1⟩:=h1.reads I rx;obtain ⟨bs,r2⟩:=h2.reads I ry;exact ne_dataH r1 r2 h3 h4 hu ⟨.bl _,H,I,rfl,q⟩
end
theorem eU: ∀ns ms:List Int,PyData.eqvAll (ns.map PyData.int) (ms.map PyData.int)=decide (ns=ms)
 | [],[]=>by simp [PyData.eqvAll]
 | [],_::_=>by simp [PyData.eqvAll]
 | _::_,[]=>by simp [PyData.eqvAll]
 | n::r,m::q=>by
  simp only [Zl,PyData.eqvAll,PyData.eqv,eU r q];by_cases h:n=m<;>simp [h]
theorem zG (ns ms:List Int):PyData.eqv (.list (ns.map PyData.int)) (.list (ms.map PyData.int))=decide (ns=ms):=by
 simp only [PyData.eqv];exact eU ns ms
theorem rEqD.ints {K:W.Frag} {b:Addr} {ns:List Int} (h1:SqL K H a (ns.map V.int)) (h2:SqL K H b (ms.map V.int)) (q:Q (.bl (decide (ns=ms))) H):rEqD K (.ref a) (.ref b) H Q:=
 ⟨_,_,Dp.ints h1,Dp.ints h2,PySem.W.shaped_ints ns,PySem.W.shaped_ints ms,by rw [zG];exact q⟩
section
variable {X:Cx}
theorem qJ:bH X (.builtin "isinstance") (λ xs H Q=> ∃T x t b,xs=[x, .ty T]/\TyOf X.K H x t/\PySem.W.kitOne X.K t (.type T)=some b/\Q (.bl b) H):=by
 intro pins s Z H xs us Q I rv h;obtain ⟨T,x,t,b,rfl,ty,e,q⟩:=h;obtain ⟨u,u',rfl,ru,ru'⟩:=rv.two
 cases (show u'=Value.type T from ru');exact xf I ru ty e λ tk=>⟨.bl b,H,I.tok tk,rfl,q⟩
theorem zH (hc:X.calm=true):bH X (.builtin "sum") (λ xs H Q=> ∃ (a:Addr) (ns:List Int),xs=[.ref a]/\SqL X.K H a (ns.map V.int)/\Q (.int ns.sum) H):=by
 intro pins s Z H xs us Q I rv h;obtain ⟨a,ns,rfl,hx,q⟩:=h;obtain ⟨u,rfl,ru⟩:=rv.one
 cases (show u=Value.ref a from ru);obtain ⟨its,r,ht,hz⟩:=I.list hx;have hi:=intsAre_of r;obtain ⟨xs,e⟩:=hi.allInts.items;rw [e] at ht;refine sum_intListG (I.ok.hd hc) ht.isList λ h' tk t' hk=> ?_
 have es:preSum (numAt xs) xs.size=ns.sum:=by
  rw [preSum_eq,Xb (by simp),<- nums_intItems,<- e];show (numsOf its.toArray.toList).sum=_;rw [show its.toArray.toList=its from rfl,hi.numsOf]
 rw [es];exact ⟨.int _,H,I.kept hk,⟨_,rfl⟩,q⟩
end
section
variable {X:Cx} {tg:Expr}
def V5 (x:Str):It:=⟨λ i _=>i<x.cps.size,λ i H v H'=>H'=H/\ ∃c,x.cps[i]? =some c/\v= .str ⟨#[c]⟩,λ i _=>i=x.cps.size⟩
def Vu (tl:TE):TI:=λ Z H R=>tl Z H λ x H1=> ∃z,x= .str z/\R (V5 z) H1
def Pu (lo c:Int) (n:Nat):It:=⟨λ i _=>i<n,λ i H x H'=>H'=H/\x= .int (lo+i*c),λ i _=>n<=i⟩
def V6 (ta:TA):TI:=λ Z H R=>ta Z H λ vs H1=> ∃ (i j c:Int) (n:Nat),vs=[.int i, .int j, .int c]/\c≠0/\Builtin.Range.small i j c=true/\Builtin.divisionGoesByPylong (j-i) c=false/\Builtin.Range.rangeSize i j c=(n:Int)/\R (Pu i c n) H1
end
def V7 (K:W.Frag) (a b:Addr):It:=
 ⟨λ i H=> ∃xs ys x y,SqL K H a xs/\SqL K H b ys/\xs[i]? =some x/\ys[i]? =some y,
  λ i H v H'=> ∃p x y,H p=none/\v= .ref p/\H'=upd H p (.tup [x,y])/\(∀xs,SqL K H a xs->xs[i]? =some x)/\ ∀ys,SqL K H b ys->ys[i]? =some y,
  λ i H=> ∃xs ys,SqL K H a xs/\SqL K H b ys/\(xs.length<=i\/ys.length<=i)⟩
structure ZipSt (z TI TO i1 i2 a b:Addr) (i:Nat) (h:Heap):Prop where
 hz:IsZip h z TI TO .none
 hTI:IsPair h TI (.ref i1) (.ref i2)
 hTO: ∃u v,IsPair h TO u v
 h1:h.IsListIter i1 a i
 h2:h.IsListIter i2 b i
structure ZipNe (z TI TO i1 i2:Addr):Prop where
 TIz:TI≠z
 TOz:TO≠z
 i1z:i1≠z
 i2z:i2≠z
 TITO:TI≠TO
 TIi1:TI≠i1
 TIi2:TI≠i2
 TOi1:TO≠i1
 TOi2:TO≠i2
 i12:i1≠i2
theorem Inv.turnedAll {X:Cx} {Z:St} {s:Shared} {t':Nat} (I:Inv X pins Z H s) (k: ∀b o,b∉ch->s.heap.get? b=some o->h'.get? b=some o)
  (hf: ∀b∈ch,kh X pins H b):Inv X pins Z H { s with heap:=h',toks:=t' }:=by
 have nit: ∀b u,H b=some u->b∉ch:=λ b u e z=>by rw [(hf b z).1] at e;cases e
 refine I.step (g':=s.gens) (d':=s.drawn) (ch:=ch) (λ b hb=> ?_) (λ b o _ _ hc e _=>k b o hc e) (λ b o _ _ hc e _=>⟨o.slots,k b o hc e⟩) (λ _ _ _ _ n=>n)
  (λ b o hc e=>⟨o,k b o hc e⟩) (λ _ _ e=>e) (λ _ _ _ e=>e) (λ b ps e=>⟨#[],by rw [e];simp⟩) (λ m hm=> ?_) (λ b u e=> ?_) I.bare
 .exact ⟨(hf b hb).2.2.2.1,(hf b hb).2.1,(hf b hb).2.2.2.2.1,(hf b hb).2.2.2.2.2⟩
 .obtain ⟨o,es,ep,ho,r⟩:=hm;exact ⟨o,es,ep,k _ o (λ z=>(hf _ z).2.1 rfl) ho,r⟩
 .refine (I.hok b u e).stay (λ c v hc q=>k c v ?_ q) (λ _ q=>q) λ _ _ q=>q
  rcases hc with z | z
  .rw [z];exact nit b u e
  .exact nit c _ z
def Vv (K:W.Frag) (ta:TA):TI:=λ Z H R=>ta Z H λ vs H1=> ∃a b xs ys,vs=[.ref a, .ref b]/\SqL K H1 a xs/\SqL K H1 b ys/\R (V7 K a b) H1
structure Cal (P:Program) (w:World) (K:W.Frag) (mg:Str->Option Value) (base:Heap) (n:Nat) (x:Str) (ps:List Str) (sp:Sp):Prop where
 ex: ∃ (f:Addr) (fd:FuncData),FnOk P w K mg base Ik n f fd ps sp/\Binds K fd ps []/\W.keepIn K (.ref f)=true/\mg x=some (.ref f)
section
variable {X:Cx} {n k:Nat} {x:Str} {ps:List Str} {sp:Sp} {p pos:Pos} {e:Expr} {es:List Expr} {t:TA}
theorem K1 (c:Cal X.prog X.w X.K X.mg X.base n x ps sp) (hr:Room k X.A) (hk:n<=k) (hg:Gl X x) (ha:PA X (e::es) t) (hdb:(x==("__debug__":Str))=false:=by decide)
  (he:starEach (e::es) X.env=(false,eval e X.env)::starEach es X.env:=by rfl) (hpl:(backTo pos (starEach es X.env)).any (·.1)=false:=by rfl):
  PE X (.Call (.Name x p) (e::es) [] pos) (aU sp [] E0 t):=by
 obtain ⟨f,fd,F,hb,kp,hm⟩:=c.ex;exact Ey F (hr.mono hk) hg hm kp hb .nil Pq ha hdb he hpl
end
theorem small (h:n<=1000):n<=sizeLine:=Xw (xF h)
theorem aB (h:H p=none) (o:HO):Same H (upd H p o):=λ b u q=>by rw [au (aO q h)];exact q
theorem Same.get {H':Hp} (e:Same H H') {o:HO} (h:H a=some o):H' a=some o:=e a o h
theorem aA {o o':HO} (h:H p=none) (q:H a=some o):upd H p o' a=some o:=aB h o' a o q
section
variable {X:Cx} (K:W.Frag) (hK:X.K=K)
include hK
theorem zJ:Om X (cA K):=hK▸EY
theorem Fv:Om X (aR K):=hK▸JG
theorem gH:Ii X (qy K):=hK▸Fb
theorem Fw:Ii X (JD K):=hK▸yZ
theorem fV:ir X (compareOp .In) (yt K false):=hK▸xn
theorem iC:ir X (compareOp .NotIn) (yt K true):=hK▸oH
theorem jP (hu:X.A.units+64<cLine):ir X (compareOp .Eq) (rEqD K):=hK▸JX hu
theorem vQ (hu:X.A.units+64<cLine):ir X (compareOp .NotEq) (rNeD K):=hK▸JZ hu
def cB (K:W.Frag):List V->Hp->VK->Prop:=λ xs H Q=> ∃x n,xs=[x]/\Ph K x H n/\Q (.int n) H
theorem aK:bH X (.builtin "len") (cB K):=by subst hK;exact yS
def oW (K:W.Frag):List V->Hp->VK->Prop:=λ xs H Q=> ∃p ys,xs=[.ref p]/\(SqL K H p ys\/SqT K H p ys)/\ ∀l,H l=none->Q (.ref l) (upd H l (.lst ys))
theorem mj:bH X (.type "list") (oW K):=by subst hK;exact oJ
def cU (K:W.Frag):List V->Hp->VK->Prop:=λ xs H Q=> ∃p ys,xs=[.ref p]/\((SqL K H p ys/\ ∀l,H l=none->Q (.ref l) (upd H l (.tup ys)))\/(SqT K H p ys/\Q (.ref p) H))
theorem bL:bH X (.type "tuple") (cU K):=by subst hK;exact m9
def iY (K:W.Frag):List V->Hp->VK->Prop:=λ xs H Q=> ∃T x t b,xs=[x, .ty T]/\TyOf K H x t/\PySem.W.kitOne K t (.type T)=some b/\Q (.bl b) H
theorem fW:bH X (.builtin "isinstance") (iY K):=by subst hK;exact qJ
def K3 (K:W.Frag):List V->Hp->VK->Prop:=λ xs H Q=> ∃ (a:Addr) (ns:List Int),xs=[.ref a]/\SqL K H a (ns.map V.int)/\Q (.int ns.sum) H
theorem xK (hc:X.calm=true):bH X (.builtin "sum") (K3 K):=by subst hK;exact zH hc
theorem bC {l:Expr} {tl:TE} (hl:PE X l tl):PI X tg l (cQ K tl):=hK▸Es hl
theorem j0 {l:Expr} {tl:TE} (hl:PE X l tl):PI X tg l (qt K tl):=hK▸Jq hl
def qK (K:W.Frag) (ta:TE):TT:=λ Z H Q=>ta Z H λ x H'=> ∃k,yQ K x H' k/\Q k H'
theorem dZ {a:Expr} {ta:TE} (ha:PE X a ta) (he: ∀whole,isTrue a X.env whole=(do let v <- whole;standAt a.pos;holding [v] (truthy v))):PT X a (qK K ta):=by subst hK;exact yR ha he
theorem dB {k:Nat} {t:El} (hc:X.calm=true) (h:OJ X es t)
  (hn:(assignEach es X.env).length=n:=by rfl) (hst:(assignEach es X.env).findIdx? (·.1)=none:=by rfl):PG X (.Tuple es k pos) (ji K n t):=by subst hK;exact Jl hc h hn hst
end
section
variable {X:Cx} (K:W.Frag) (hK:X.K=K) {o e:Expr} {es:List Expr} {to:TE} {t:TA} {name:Str} {apos cpos:Pos} {T id:String} {r:V->List V->Hp->VK->Prop}
include hK
theorem Fx (pa:PlainAttrs T) (slot:Slot T name id) (hty:typeOf (.builtin id)=pure (.type "method_descriptor")) (hm:Su X id r) (ho:PE X o to) (hbase:attributeBase o name X.env (eval o X.env)=eval o X.env:=by rfl)
  (hline:(apos.endLine==cpos.line)=true:=by rfl):PE X (.Call (.Attribute o name apos) [] [] cpos) (Fd K T r to):=by subst hK;exact JM pa slot hty hm ho hbase hline
theorem tV (pa:PlainAttrs T) (slot:Slot T name id) (hty:typeOf (.builtin id)=pure (.type "method_descriptor")) (hm:Su X id r) (ho:PE X o to) (ha:PA X (e::es) t) (hbase:attributeBase o name X.env (eval o X.env)=eval o X.env:=by rfl)
  (hfew:((backTo cpos (starEach (e::es) X.env)).all (λ x=> !x.1)&&(backToKw cpos (keywordEach [] X.env)).all (λ x=>x.1.isSome)&&decide ((e::es).length+([]:List Keyword).length+(if ([]:List Keyword).isEmpty then 0 else 1)<30))=true:=by rfl)
  (hline:(apos.endLine==cpos.line)=true:=by rfl) (hs:starEach (e::es) X.env=(false,eval e X.env)::starEach es X.env:=by rfl) (hplain:(backTo cpos (starEach es X.env)).any (·.1)=false:=by rfl):
  PE X (.Call (.Attribute o name apos) (e::es) [] cpos) (qz K T r to t):=by subst hK;exact Pk pa slot hty hm ho ha hbase hfew hline hs hplain
end
abbrev cC:R2:=qe λ i j=> .int (i+j)
abbrev j4:R2:=qe λ i j=> .int (i-j)
abbrev kZ:R2:=rI CMul λ i j=> .int (i*j)
abbrev bM:R2:=rI Pa λ i j=> .int (i / j)
abbrev bN:R2:=rI (λ _ j=>0<j) λ i j=> .int (i%j)
abbrev Io:R2:=rI Ew λ i j=> .int (i^j.toNat)
abbrev vR:R2:=rI Ew λ i j=> .int (i*2^j.toNat)
abbrev Px:R2:=qe λ i j=> .int (Builtin.bitAnd i j)
abbrev Ip:R2:=qe λ i j=> .int (Builtin.bitXor i j)
abbrev K4:R2:=qe λ i j=> .bl (decide (i<j))
abbrev Py:R2:=qe λ i j=> .bl (decide (i<=j))
abbrev jK:R2:=qe λ i j=> .bl (decide (j<i))
abbrev d9:R2:=λ x y H Q=> ∃i j,x= .str i/\y= .str j/\i.length+j.length<=sizeLine/\Q (.str (i++j)) H
abbrev Pz:R2:=λ x y H Q=> ∃i j,x= .str i/\y= .str j/\Q (.bl (!(decide (j.cps.toList<i.cps.toList)))) H
abbrev zK:R2:=λ x y H Q=>y= .non/\Q (.bl (decide (x= .non))) H
abbrev TJ:R2:=λ x y H Q=>y= .non/\Q (.bl (!decide (x= .non))) H
abbrev PB:V->List V->Hp->VK->Prop:=λ x xs H Q=> ∃i,x= .int i/\xs=[]/\Q (.int (Builtin.Int.intBits i)) H
abbrev jl:List V->Hp->VK->Prop:=λ xs H Q=> ∃i j,xs=[.int i, .int j]/\Q (.int (if j<i then j else i)) H
abbrev TQ:List V->Hp->VK->Prop:=λ xs H Q=> ∃i j,xs=[.int i, .int j]/\Q (.int (if j>i then j else i)) H
abbrev Fy:Jk:=Tq λ i j=>i+j
def V8 (P:Program) (w:World):yq:=λ outer H s E e s'=>
 ∃ (x:Addr) (C a0:Value) (B:Heap) (H':Hp),e= .ref x/\s'.os=s.os/\AllBare s'.gens/\Un (frs outer) [] H H' s.heap s'.heap/\HOk P w H' s'.heap/\H' x=none/\
  Heap.FlyingW B outer x C a0 s'.heap/\s.heap.get? x=none/\(∀b o,s.heap.get? b=some o->b∉frs outer-> ∃u,B.get? b=some u)/\(∀b o,H' b=some o-> ∃u,B.get? b=some u)/\E C none H'
structure CalX (P:Program) (w:World) (K:W.Frag) (mg:Str->Option Value) (base:Heap) (n:Nat) (x:Str) (ps:List Str) (sp:Sp):Prop where
 ex: ∃ (f:Addr) (fd:FuncData),FnOk P w K mg base (V8 P w) n f fd ps sp/\Binds K fd ps []/\W.keepIn K (.ref f)=true/\mg x=some (.ref f)
section
variable {X:Cx} {x:Str} {np cpos pos:Pos} {e:Expr} {es:List Expr} {t:TA} {E:XK} {C:Addr} {bm:List Value} {B newId initId:String}
def TV (E:XK) (C:Addr) (t:TA):TS:=λ _ Z H=>t Z H λ vs H1=>vs.length<=sizeLine/\E (.ref C) none H1
end
def ExcAt (x:Addr) (C:Value) (h:Heap):Prop:= ∃o vs,h.get? x=some o/\o.cls=C/\o.data= .fields vs
abbrev Vw (x:Addr) (C:Value):HO:= .ext (ExcAt x C)
section
variable {X:Cx} {body:List Stmt} {b₀:Stmt} {suite:List Stmt} {c n:Str} {np hpos pos:Pos} {tb th:TS} {Cc:Addr} {i:Nat}
def behind (i:Nat) (D:Ends):Ends where
 nx:=λ Z H=>D.nx (Z.set i none) H
 rt:=D.rt
 bk:=λ Z H=>D.bk (Z.set i none) H
 ct:=λ Z H=>D.ct (Z.set i none) H
end
end L2
end
section
namespace L2
open PySem PySem.Spec PySem.Calls PyProof.Rows PySem.W PySem.Builtin PySem.Builtin.ObjectAttr PySem.Builtin.Getset_descriptor
structure ExcK (K:W.Frag) (C:Addr):Prop where
 ex:PySem.W.excIn K C [.type "ValueError", .type "Exception", .type "BaseException", .type "object"] "ValueError.__new__"=true
 ga:findIn K (.ref C) "__getattribute__"=some (some (.builtin "BaseException.__getattribute__"))
 gt:findIn K (.ref C) "__getattr__"=some none
 cl:findIn K (.ref C) "__class__"=some (some (.builtin "object.__class__"))
 ge:specialIn K (.builtin "object.__class__") "__get__"=some (some (.builtin "getset_descriptor.__get__"))
 tk:takesIn K (.builtin "object.__class__")=some true
 mo:mroIn K C (.type "object")=some true
 mb:subIn K (.ref C) (.type "BaseException")=some true
def PJ (K:W.Frag):List V->Hp->VK->Prop:=λ xs H Q=> ∃ (x C:Addr) (y:V) (b:Bool),xs=[.ref x,y]/\H x=some (Vw x (.ref C))/\ExcK K C/\
 ((∃T,y= .ty T/\kitOne K (.ref C) (.type T)=some b)\/(∃D,y= .ref D/\kitOne K (.ref C) (.ref D)=some b)\/ ∃ (p:Addr) (ds:List Addr),y= .ref p/\H p=some (.tup (ds.map V.ref))/\kitAny K (.ref C) (ds.map Value.ref)=some b)/\Q (.bl b) H
end L2
end
section
namespace L2
open PySem PySem.Spec PyProof.Rows
variable {k:Nat} {ta:TA} {a:Expr} {w:World} {elts:List Expr} {p pos tpos:Pos} {R:Value->Shared->Prop}
def FJ:V->Option Int->Option Int->Hp->VK->Prop:=λ x lo hi H Q=> ∃s:Str,x= .str s/\s.length<=sizeLine/\Q (.str (Txt.slice s lo hi)) H
section
variable {X:Cx}
theorem zL:Ii X FJ:=by
 intro pins s Z H x v vl vu lo hi sl Q I rx hs pl pu h;obtain ⟨z,rfl,hz,q⟩:=h;obtain ⟨t,rfl⟩:=rx;have fin: ∀ (l u:Option (Int×Tok)),l.map (·.1)=lo->u.map (·.1)=hi->s.heap.IsSlice sl l u none->wpAny (model X.prog X.w) X.A (getItem (.str z t) (.ref sl)) (EP X pins Z Q) X.xe s:=by
  intro l u e1 e2 hh;refine wpAny_getItem_str_slice (l:=l) (u:=u) (st:=none) hh rfl ?_;subst e1 e2;exact post_val_or_str ⟨Nat.le_trans (Txt.slice_le z _ _) hz,λ t' k=>⟨.str _,H,I.tok k,⟨t',rfl⟩,q⟩⟩
 refine ⟨"str",_,F.slot_str_getitem.lookup,typeIs_str _ _ _,?_⟩
 cases pl with
 | none=>
  cases pu with
  | none=>exact fin none none rfl rfl hs
  | int j u=>exact fin none (some (j,u)) rfl rfl hs
 | int i u=>
  cases pu with
  | none=>exact fin (some (i,u)) none rfl rfl hs
  | int j u'=>exact fin (some (i,u)) (some (j,u')) rfl rfl hs
end
def TX (K:W.Frag) (a:Addr):It:=
 ⟨λ i H=> ∃xs x,SqL K H a xs/\xs[i]? =some x,
  λ i H v H'=> ∃p x,H p=none/\v= .ref p/\H'=upd H p (.tup [.int (i:Int),x])/\ ∀xs,SqL K H a xs->xs[i]? =some x,
  λ i H=> ∃xs,SqL K H a xs/\xs.length<=i⟩
structure EnSt (e it a:Addr) (i:Nat) (h:Heap):Prop where
 he: ∃old,IsEnum h e it (i:Int) old
 h1:h.IsListIter it a i
theorem xM {P:Program} {K:W.Frag} {e it:Addr} (a:Addr) (D:e≠it):
  Turn P w K (.Tuple elts k tpos) (TX K a) [e,it] e (EnSt e it a) where
 mem:=by simp
 obj:=λ i h st c hc=>by
  obtain ⟨⟨old,he⟩,⟨o1,e1,c1,d1⟩⟩:=st;simp only [Zm,Yq,Xz] at hc;rcases hc with rfl | rfl
  .exact ⟨_,he,λ v z=>by cases z⟩
  .exact ⟨o1,e1,λ v z=>by rw [d1] at z;cases z⟩
 keep:=λ i h h' st kk=>by
  obtain ⟨⟨old,he⟩,h1⟩:=st;exact ⟨⟨old,kk e (by simp) _ he⟩,h1.at λ o e=>kk it (by simp) o e⟩
 item:=by
  intro X hP hw hK hc i pins s Z H E I hf st hg;subst hP hw hK;obtain ⟨xs,x,hxs,hx⟩:=hg;obtain ⟨its,rv,p,hz1⟩:=I.list hxs;obtain ⟨u,hu,ru⟩:=rv.get hx;obtain ⟨⟨old,he⟩,h1⟩:=id st;refine wpAny_pyNext_enum_item (x:=u) he h1 p.isList (by simpa using hu) D λ h' a1 a2 a3 a4 a5=> ?_
  refine ⟨_,rfl,wpAny_letOwnedTupleGo_enum a1 λ h'' b1 hs=> ?_⟩;have hT:s.heap.objs.size≠e:=Nat.ne_of_gt (Zp he);have kk: ∀c o,c∉[e,it]->s.heap.get? c=some o->h''.get? c=some o:=λ c o hc' q=>by
   simp only [Zm,Yq,Xz,not_or] at hc';exact hs.extBut _ _ hc'.1 (a5 c o hc'.1 hc'.2 q)
  have I1:Inv X pins Z H { s with heap:=h'',toks:=s.toks+1 }:=I.turnedAll kk hf;have hnew:H s.heap.objs.size=none:=I.hok.fresh (Zk _);have e5:h''.get? s.heap.objs.size=some { cls:= .type "tuple",data:= .seq #[.int i s.toks,u] }:=hs.extBut _ _ hT a3;have un:Un (frs X.stack) [e,it] H (upd H s.heap.objs.size (.tup [.int (i:Int),x])) s.heap h'':=
   ⟨λ b o q _ _ hx=>kk b o hx q,λ b o q _ _ hx=>⟨o.slots,kk b o hx q⟩,λ b o q n _=>by rw [au (Yo (Zp q))];exact n,λ b o q hx=>⟨o,kk b o hx q⟩,
    λ b xs q=>by rw [au (aO q hnew)];exact q,λ b o x q=>by rw [au (aO q hnew)];exact q,λ b ps q=>⟨#[],by rw [au (aO q hnew),q];simp⟩⟩
  have hok:HOk X.prog X.w (upd H s.heap.objs.size (.tup [.int (i:Int),x])) h'':=HOk.track I1.hok hnew ⟨by show 2<=sizeLine;decide,[.int i s.toks,u], .cons ⟨_,rfl⟩ (.cons ru .nil),_,e5,rfl,_,rfl⟩;have I2:Inv X pins Z (upd H s.heap.objs.size (.tup [.int (i:Int),x])) { s with heap:=h'',toks:=s.toks+1 }:=I.call' (s':={ s with heap:=h'',toks:=s.toks+1 }) rfl un hok I.bare λ c hc'=>⟨(hf c hc').2.2.2.1,(hf c hc').2.1,(hf c hc').2.2.2.2⟩
  refine ⟨.ref s.heap.objs.size,_,I2,rfl,⟨_,x,hnew,rfl,rfl,λ xs' h=>by rw [I.list_inj h hxs];exact hx⟩,⟨⟨u,by have:=b1;rwa [show ((i:Int)+1)=((i+1:Nat):Int) by rfl'] at this⟩,a2.extBut hs.extBut (Ne.symm D)⟩,λ c hc'=> ?_⟩;have hlt:c<s.heap.objs.size:=by
   obtain ⟨o1,e1,_⟩:=h1;simp only [Zm,Yq,Xz] at hc';rcases hc' with rfl | rfl
   .exact Zp he
   .exact Zp e1
  rw [au (Yo hlt)];exact (hf c hc').1
 done:=by
  intro X hP hw hK hc i pins s Z H E I hf st hg;subst hP hw hK;obtain ⟨xs,hxs,hend⟩:=hg;obtain ⟨its,rv,p,hz1⟩:=I.list hxs;obtain ⟨⟨old,he⟩,h1⟩:=id st;have hl1:=rv.length;refine wpAny_pyNext_enum_end (I.ok.hd hc) he h1 p.isList (by simp;rfl') λ h' kk=> ?_
  refine ⟨rfl,I.turnedAll (t':=s.toks) (λ c o hc' q=> ?_) hf⟩;simp only [Zm,Yq,Xz,not_or] at hc';exact kk c o hc'.2 q
 self:=λ _ _ _ _ _ st h=>by
  obtain ⟨old,he⟩:=st.he;exact wpAny_pyIter_enum he h
def vU (K:W.Frag) (ta:TA):TI:=λ Z H R=>ta Z H λ vs H1=> ∃a xs,vs=[.ref a]/\SqL K H1 a xs/\R (TX K a) H1
theorem FN {X:Cx} (hg:Gl X "enumerate") (hc:X.calm=true) (hm:X.mg "enumerate"=none) (ha:PA X [a] ta) (hs:starEach [a] X.env=[(false,eval a X.env)]:=by rfl):
  PI X (.Tuple elts k tpos) (.Call (.Name "enumerate" p) [a] [] pos) (vU X.K ta):=by
 intro pins s Z H R I h;refine Call_ (jh I hg hm (show bootBuiltins "enumerate"=some (.type "enumerate") by ac_nf) (PyProof.Rows.callWith_type1 (bB (ha pos pins s Z H _ I h) λ us s1 ⟨vs,H1,I1,r1,q1⟩=> ?_) (by rw [hs];rfl) (by rfl)));obtain ⟨la,xs,e,hxs,q⟩:=q1;subst e
 cases r1 with
 | cons r rr=>
  cases rr
  cases r;obtain ⟨its,rv,p1,hz1⟩:=I1.list hxs;refine call_enumerate_list p1.isList λ h' z1 z2 z3 kk=> ?_
  refine wpAny_pyIter_enum z1 ?_;refine ⟨s1.heap.objs.size+1,[s1.heap.objs.size+1,s1.heap.objs.size],_,_,H1,rfl,I1.kept (t':=s1.toks) kk,xM la (by show (_:Nat)≠_;rfl'),⟨⟨_,z1⟩,z2⟩,λ c hc'=> ?_,q⟩;have hle:s1.heap.objs.size<=c:=by
   simp only [Zm,Yq,Xz] at hc';rcases hc' with rfl | rfl<;>(show (_:Nat)<=_;rfl')
  exact I1.fpOk hle (I1.hok.fresh hle)
theorem zM {X:Cx} (K:W.Frag) (hK:X.K=K) (hg:Gl X "enumerate") (hc:X.calm=true) (hm:X.mg "enumerate"=none) (ha:PA X [a] ta) (hs:starEach [a] X.env=[(false,eval a X.env)]:=by rfl):
  PI X (.Tuple elts k tpos) (.Call (.Name "enumerate" p) [a] [] pos) (vU K ta):=by subst hK;exact FN hg hc hm ha hs
section
variable {prog:Program} {w:World} {A:Around} {E:Value->Shared->Prop} {s:Shared} {it d:Addr} {i ep:Nat} {od:Obj} {es:Array DictEntry} {Q:Option Value->Shared->Prop}
theorem lq (hit:s.heap.IsKeyIter it d i es.size ep) (hod:s.heap.get? d=some od) (hdd:od.data= .dict es ep) (hi:i<es.size)
  (hQ: ∀h',h'.IsKeyIter it d (i+1) es.size ep->Heap.SameBut it s.heap h'->Q (some es[i].key) { s with heap:=h' }):wpAny (model prog w) A (pyNext (.ref it)) Q E s:=by
 obtain ⟨o,ho,hc,hd⟩:=id hit;have T:=hit.typeIs (s:=s);unfold pyNext;refine Qb (wpAny_attempt (wpAny_callSpecial?_slot (name:=Str.ofString "__next__") T F.slot_dict_keyiterator_next (Yv F.slot_dict_keyiterator_next T F.entry_dict_keyiterator_next ?_ (F.args_dict_keyiterator_next_1 _))));have f0:Builtin.Dict_items.ownsTuple "dict_keyiterator"=false:=by decide
 have f1: ¬ (Value.ref d==Value.none)=true:=Zr;have f2: ¬ ((i:Int)<0):=by rfl'
 have tn: ∀ {s':Shared} {A':Around} {E':Value->Shared->Prop} {R:String->Shared->Prop},s'.TypeIs (.ref it) "dict_keyiterator"->R "dict_keyiterator" s'->wpAny (model prog w) A' (typeNameOfWhole (.ref it)) R E' s':=λ a b=>wpAny_typeNameOfWhole_keyiter a b
 repeat (first
  | (refine tn T ?_)
  | (refine wpAny_fieldsOf ho hd ?_)
  | (refine Xy hod hdd ?_)
  | (refine wpAny_dictEpoch hod hdd ?_)
  | (refine wpAny_isOneOf_keyiter T ?_)
  | (refine Zc ?_)
  | (refine Qb ?_)
  | (simp only [f0,Yl,Xr])
  | (rw [if_neg f1])
  | (rw [if_neg (by simp)]))
 rw [Yh,Wt hi];have hit':(s.heap.update it (Obj.mapFields (·.setIfInBounds 1 (rawInt ((i:Int)+1))))).IsKeyIter it d (i+1) es.size ep:=⟨_,Ww _ ho (Obj.isFreed_of_fields (Obj.data_mapFields hd _)),(Obj.cls_mapFields ..).trans hc,by rw [Obj.data_mapFields hd];simp [rawInt]⟩;have T':=hit'.typeIs (s:={ s with heap:=s.heap.update it (Obj.mapFields (·.setIfInBounds 1 (rawInt ((i:Int)+1)))) });dsimp only;refine Qb (Qb (tn T (Zc (Qb (wpAny_isOneOf_keyiter T ?_)))));show wpAny (model prog w) A.in1 (do setField (.ref it) 1 (rawInt ((i:Int)+1));_) _ _ s;refine Qb (wpAny_setField ho hd (by simp) (Qb (Xg (Qb (wpAny_isOneOf_keyiter T' (Zc ?_))))));exact Zc ⟨_,rfl,Zc (hQ _ hit' (Xn ..))⟩
theorem oX (hh:A.handled=none) (hit:s.heap.IsKeyIter it d i es.size ep) (hod:s.heap.get? d=some od) (hdd:od.data= .dict es ep) (hi:es.size<=i)
  (hQ: ∀h',Heap.ExtBut it s.heap h'->Q none { s with heap:=h' }):wpAny (model prog w) A (pyNext (.ref it)) Q E s:=by
 obtain ⟨o,ho,hc,hd⟩:=id hit;have T:=hit.typeIs (s:=s);unfold pyNext;refine Qb (wpAny_attempt (wpAny_callSpecial?_slot (name:=Str.ofString "__next__") T F.slot_dict_keyiterator_next (Yv F.slot_dict_keyiterator_next T F.entry_dict_keyiterator_next ?_ (F.args_dict_keyiterator_next_1 _))));have f0:Builtin.Dict_items.ownsTuple "dict_keyiterator"=false:=by decide
 have f1: ¬ (Value.ref d==Value.none)=true:=Zr;have f2: ¬ ((i:Int)<0):=by rfl'
 have tn: ∀ {s':Shared} {A':Around} {E':Value->Shared->Prop} {R:String->Shared->Prop},s'.TypeIs (.ref it) "dict_keyiterator"->R "dict_keyiterator" s'->wpAny (model prog w) A' (typeNameOfWhole (.ref it)) R E' s':=λ a b=>wpAny_typeNameOfWhole_keyiter a b
 repeat (first
  | (refine tn T ?_)
  | (refine wpAny_fieldsOf ho hd ?_)
  | (refine Xy hod hdd ?_)
  | (refine wpAny_dictEpoch hod hdd ?_)
  | (refine wpAny_isOneOf_keyiter T ?_)
  | (refine Zc ?_)
  | (refine Qb ?_)
  | (simp only [f0,Yl,Xr])
  | (rw [if_neg f1])
  | (rw [if_neg (by simp)]))
 rw [Yh,Array.getElem?_eq_none hi];dsimp only;refine Qb (Qb (tn T (Zc ?_)));show wpAny (model prog w) A.in1 (do setField (.ref it) 0 .none;_) _ _ s;refine Qb (wpAny_setField ho hd (by simp) (Qb ?_));have fin: ∀h' x,Heap.ExtBut it s.heap h'->(∃ob,h'.get? x=some ob/\ob.cls= .type "StopIteration")->wpAny (model prog w) A (do let b <- isInstance (.ref x) (.type "StopIteration");if b=true then pure none else throw (.ref x)) Q E { s with heap:=h' }:=λ h' x eb ⟨ob,e1,e2⟩=>Qb (wpAny_isInstance (T:="StopIteration") (b:=true) ⟨ob,e1,e2⟩ isSubtype_stop (Zc (hQ h' eb)))
 simp only [newExc,newTuple,raiseNew];repeat (first
  | exact fin _ _ (((Xn ..).extBut.push _).push _) ⟨_,Zt _ rfl,rfl⟩
  | (refine Xe ?_ (by size_fits))
  | (refine wpAny_handled ?_)
  | (refine wpAny_throw ?_)
  | (refine Zc ?_)
  | (rw [show A.in1.handled=none from hh])
  | (refine Qb (m:=firstArgMember _ _) (wpAny_of_eq (a:=Value.none) (by first | rfl | (simp only [firstArgMember];rfl)) ?_))
  | (refine Qb ?_))
theorem j5 (hsm:(d==sysModules)=false) (T:s.TypeIs (.ref d) "dict") (hod:s.heap.get? d=some od) (hdd:od.data= .dict es ep)
  (hQ:R (.ref s.heap.objs.size) { s with heap:=s.heap.push { cls:= .type "dict_keyiterator",data:= .fields #[.ref d, .int 0 0, .int es.size 0, .int ep 0] } }):wpAny (model prog w) A (pyIter (.ref d)) R E s:=by
 refine wpAny_pyIter_slot T F.slot_dict_iter (Yv F.slot_dict_iter T F.entry_dict_iter ?_ (F.args_dict_iter_1 _));unfold Builtin.«dict.__iter__» Builtin.Dict.dictSlotNone Builtin.Dict.showsAll;have nq: ¬ ((d==sysModules)=true):=by rw [hsm];exact Zr
 refine Qb (Qb (wpAny_notOrdered_dict T ?_));show wpAny _ _ (pure (Value.ref d)) _ _ s;refine Zc ?_;show wpAny _ _ ((if (d==sysModules)=true then _ else _) >>= _) _ _ s;rw [if_neg nq];refine Qb (Zc (Qb (Xy hod hdd (Qb (wpAny_dictEpoch hod hdd ?_)))));exact Qb (Xe (Zc ⟨_,rfl,"dict_keyiterator",_,⟨_,Zt _ rfl,rfl⟩,F.slot_dict_keyiterator_next.lookup,by simpa [rawInt] using hQ⟩))
end
theorem fC {α β:Type} {F:α->β->Prop}: ∀ {l₁:List α} {l₂:List β} (i:Nat),Paired F l₁ l₂->i<l₁.length-> ∃a b,l₁[i]? =some a/\l₂[i]? =some b/\F a b
 | _,_,_, .nil,h=>by simp at h
 | _,_,0, .cons r _,_=>⟨_,_,rfl,rfl,r⟩
 | _,_,i+1, .cons _ t,h=>by
  obtain ⟨a,b,h1,h2,h3⟩:=fC i t (by simpa using h);exact ⟨a,b,by simpa using h1,by simpa using h2,h3⟩
def V9 (od:Obj) (a:Addr):It:=
 ⟨λ i H=> ∃kvs,H a=some (.frz od (.dT kvs))/\i<kvs.length,
  λ i H v H'=>H'=H/\ ∀kvs,H a=some (.frz od (.dT kvs))-> ∃k x b,kvs[i]? =some (k,x)/\v= .ref b/\H b=some (.tup (k.map kV)),
  λ i H=> ∃kvs,H a=some (.frz od (.dT kvs))/\kvs.length<=i⟩
def Va (tl:TE):TI:=λ Z H R=>tl Z H λ x H1=> ∃a kvs,x= .ref a/\H1 a=some (.dT kvs)/\ ∀od,R (V9 od a) (upd H1 a (.frz od (.dT kvs)))
def oY (K:W.Frag):List V->Hp->VK->Prop:=λ xs H Q=> ∃ (a:Addr) (ns:List Int),xs=[.ref a]/\SqL K H a (ns.map V.int)/\ns.length<64/\ ∀r (ns':List Int),ns'.Perm ns->ns'.Pairwise (· <= ·)->H r=none->Q (.ref r) (upd H r (.lst (ns'.map V.int)))
theorem tW {X:Cx}:bH X (.builtin "sorted") (oY X.K):=by
 intro pins s Z H xs us Q I rv h;obtain ⟨a,ns,rfl,hx,h64,q⟩:=h;obtain ⟨u,rfl,ru⟩:=rv.one
 cases (show u=Value.ref a from ru);obtain ⟨its,r,ht,hz⟩:=I.list hx;have hi:=intsAre_of r;have hl:=hi.length;refine sorted_ints (vs:=its) ht.isList hi (by rfl') λ out ns' hI hp hs=> ?_
 obtain ⟨e,he⟩:=sortedAll_at s.heap its out;have hr:H (s.heap.objs.size+1)=none:=I.hok.fresh (Nat.le_succ _);refine ⟨.ref _,_,I.laid (t':=s.toks) (a:=s.heap.objs.size+1) (o:= .lst (ns'.map V.int)) (λ b o hb=>sortedAll_old hb) (Nat.le_succ _) (show ObjOk X.prog X.w _ _ _ (.lst _) from ⟨?_,out.toList,e,jk hI,?_⟩),rfl,q _ ns' hp hs hr⟩
 .rw [Qr,hp.length_eq];exact Xw (Nat.lt_trans h64 (by decide))
 .rw [he]
theorem qM {X:Cx} (K:W.Frag) (hK:X.K=K):bH X (.builtin "sorted") (oY K):=hK▸tW
end L2
end
section
namespace Sx
open PySem PyProof.Rows
variable {v:Value} {s':Shared}
structure Wk (B:Keyed->Keyed->Bool):Prop where
 rf: ∀p,B p p=false
 tr: ∀ {p q r},B q p=false->B r q=false->B r p=false
 an: ∀ {p q},B p q=true->B q p=false
def gt (xs:Array Keyed) (i:Nat):Keyed:=xs[i]?.getD (.none, .none)
def Up (B:Keyed->Keyed->Bool) (xs:Array Keyed) (k:Nat):Prop:= ∀i j,i<=j->j<k->B (gt xs j) (gt xs i)=false
def Dn (B:Keyed->Keyed->Bool) (xs:Array Keyed) (k:Nat):Prop:= ∀i j,i<=j->j<k->B (gt xs i) (gt xs j)=false
def Eb (B:Keyed->Keyed->Bool) (xs:Array Keyed) (l k:Nat):Prop:= ∀i j,l<=i->i<k->l<=j->j<k->B (gt xs i) (gt xs j)=false
structure Bs (kd:SortKind) (a0:Array Keyed) (st:SortSt):Prop where
 pm:(arrOf st).Perm a0
 kn:kindOf st=kd
 fl:failedOf st=none
 pe:pendingOf st= #[]
section
variable {kd:SortKind} {a0 xs:Array Keyed} {st:SortSt} {B:Keyed->Keyed->Bool} {k l m:Nat}
theorem K5 {src d:Nat} (hs:src<xs.size) (hd:d<=src):gt (bubble xs src d) k=if k=src-d then gt xs src else if src-d<k/\k<=src then gt xs (k-1) else gt xs k:=by
 unfold gt;rw [getElem?_bubble hs d hd k];split
 .rfl
 .split<;>rfl
theorem K6 (hm:m<=xs.size):gt (mirror xs l m ((m-l) / 2)) k=if l<=k/\k<m then gt xs (l+m-1-k) else gt xs k:=by
 unfold gt;rw [getElem?_mirror_all hm k];split<;>rfl
end
section
variable {prog:Program} {w:World} {A:Around} {E:Value->Shared->Prop} {s:Shared} {kd:SortKind} {a0:Array Keyed} {B:Keyed->Keyed->Bool} {st:SortSt} {n k:Nat}
def Dd (B:Keyed->Keyed->Bool) (a0:Array Keyed) (st:SortSt):Prop:=(arrOf st).Perm a0/\failedOf st=none/\pendingOf st= #[(0,a0.size,0)]/\Up B (arrOf st) a0.size
def Kp (s s':Shared):Prop:=(∀b o,s.heap.get? b=some o->s'.heap.get? b=some o)/\s'={ s with heap:=s'.heap }
def mid (h:Heap) (a:Addr) (vs:List Value):Heap:=((h.update a (Obj.mapSeq λ _=> #[])).push (seqObj "tuple" vs.toArray 0)).push (seqObj "list" #[] 0)
end
theorem oZ (b:Bool) (x y:Value):keyLt' (tuples' b) x y=(do
  let xs <- Builtin.List.listItems x;let ys <- Builtin.List.listItems y
  for ((p,q),i) in (xs.toList.zip ys.toList).zipIdx do
   if !(<- eqBool p q) then return <- oneLt' (b&&i==0) p q
  return xs.size<ys.size):=rfl
theorem zN (v:Value):firstOfTuple' v=(do
  if (<- typeOf v)!= .type "tuple" then return none
  return (<- Builtin.List.listItems v)[0]?):=rfl
def Fs (h:Heap) (f:Value->Str) (v:Value):Prop:= ∃b ob its tk n rest,v= .ref b/\h.get? b=some ob/\ob.cls= .type "tuple"/\ob.data= .seq its n/\its.toList= .str (f v) tk::rest
section
variable {prog:Program} {w:World} {A:Around} {E:Value->Shared->Prop} {s:Shared} {f:Value->Str}
theorem qN {α β:Type} {g:α->Sem β} {r:α->β}: ∀ {vs:List α} {Q:List β->Shared->Prop},(∀v∈vs,∀R:β->Shared->Prop,R (r v) s->wpAny (model prog w) A (g v) R E s)->Q (vs.map r) s->wpAny (model prog w) A (vs.mapM g) Q E s
 | [],Q,_,q=>by rw [List.mapM_nil];exact Zc q
 | v::vs,Q,h,q=>by
  rw [List.mapM_cons];exact Qb (h v Zs _ (Qb (qN (λ u hu=>h u (Zv _ hu)) (Zc q))))
theorem Fs.keep (k:Kp s s') (h:Fs s.heap f v):Fs s'.heap f v:=by
 obtain ⟨b,ob,its,tk,n,rest,e1,e2,e3⟩:=h;exact ⟨b,ob,its,tk,n,rest,e1,k.1 _ _ e2,e3⟩
theorem qO {vs:List Value} (h2:vs≠[]) (hF: ∀v∈vs,Fs s.heap f v):wpAny (model prog w) A (keyKind' vs.toArray) (λ k s'=>s'=s/\k=tuples' true) E s:=by
 rw [keyKind'_eq,List.mapM_toArray];have ht: ∀v∈vs,∃tk,∀R:Option Value->Shared->Prop,R (some (.str (f v) tk)) s->wpAny (model prog w) A (firstOfTuple' v) R E s:=by
  intro v hv;obtain ⟨b,ob,its,tk,n,rest,rfl,e2,e3,e4,e5⟩:=hF v hv;refine ⟨tk,λ R r=> ?_⟩;rw [zN];refine Qb (wpAny_typeOf_ref e2 ?_);rw [e3];refine Qb (listItems_at e2 e4 (Zc ?_));have:its[0]? =some (.str (f (.ref b)) tk):=by rw [<- Xf,e5];rfl
  rw [this];exact r
 let tk:Value->Tok:=λ v=>if hv:v∈vs then (ht v hv).choose else 0
 have htk: ∀v∈vs,∀R:Option Value->Shared->Prop,R (some (.str (f v) (tk v))) s->wpAny (model prog w) A (firstOfTuple' v) R E s:=by
  intro v hv R r;refine (ht v hv).choose_spec R ?_;have:tk v=(ht v hv).choose:=dif_pos hv;rwa [<- this]
 have sa: ∀us:List Value,StrsAre (us.map λ v=> .str (f v) (tk v)) (us.map f):=by
  intro us;induction us with
  | nil=>exact .nil
  | cons u us ih=>exact .cons _ _ ih
 rw [map_eq_pure_bind,bind_assoc];refine Qb (qN (r:=λ v=>some (.str (f v) (tk v))) htk ?_);rw [pure_bind];have a1:((vs.map λ v=>some (Value.str (f v) (tk v))).toArray.all (·.isSome))=true:=by
  rw [List.all_toArray,List.all_map,List.all_eq_true];intro _ _;rfl
 have a2:(vs.map λ v=>some (Value.str (f v) (tk v))).toArray.filterMap id=(vs.map λ v=>Value.str (f v) (tk v)).toArray:=by
  rw [List.filterMap_toArray,List.filterMap_map];congr 1;show vs.filterMap (λ v=>some (Value.str (f v) (tk v)))=_;rw [List.filterMap_eq_map']
 rw [if_pos a1,a2,oneTypeOnly'_eq,List.mapM_toArray,mapM_typeOf_strs (sa vs)];simp only [map_pure,pure_bind];refine Qb (wpAny_rule ?_);obtain ⟨v,vs',rfl⟩:=List.exists_cons_of_ne_nil h2;have a3:((List.map (λ _=>Value.type "str") ((v::vs').map λ v=>Value.str (f v) (tk v))).toArray.all λ x=>x==Value.type "str")=true:=by
  rw [List.all_toArray,List.all_map,List.all_eq_true];intro _ _;rfl
 have a4:(List.map (λ _=>Value.type "str") ((v::vs').map λ v=>Value.str (f v) (tk v))).toArray[0]? =some (Value.type "str"):=by simp
 rw [a4];simp only [a3,if_true,pure_bind];exact Zc ⟨rfl,rfl⟩
def Bf (f:Value->Str) (p q:Keyed):Bool:=strKind.blt (f p.1).cps.toList (f q.1).cps.toList
theorem TY:Wk (Bf f):=⟨λ p=>strKind.irrefl _,λ {p q r} h1 h2=>KeyOrd.kle_trans (O:=strKind.toKeyOrd) h1 h2,λ {p q} h=>KeyOrd.klt_asymm (O:=strKind.toKeyOrd) h⟩
end
end Sx
namespace L2
open PySem PySem.Spec PyProof.Rows
theorem FP {α β:Type} {g:α->β} {l out:List β} (h:l.Perm out): ∀ {zs:List α},l=zs.map g-> ∃ws:List α,ws.Perm zs/\out=ws.map g:=by
 induction h with
 | nil=>intro zs e;exact ⟨zs, .refl _,e⟩
 | cons x _ ih=>
  intro zs e
  cases zs with
  | nil=>cases e
  | cons z zs=>
   rw [Zl] at e;injection e with e1 e2
   obtain ⟨ws,p,q⟩:=ih e2;exact ⟨z::ws,p.cons z,by rw [Zl,q,e1]⟩
 | swap x y l=>
  intro zs e
  match zs,e with
  | z1::z2::r,e=>
   rw [Zl,Zl] at e;injection e with e1 e2
   injection e2 with e2 e3
   exact ⟨z2::z1::r, .swap _ _ _,by rw [Zl,Zl,e1,e2,e3]⟩
 | trans _ _ ih1 ih2=>
  intro zs e;obtain ⟨ws,p,q⟩:=ih1 e;obtain ⟨us,p',q'⟩:=ih2 q;exact ⟨us,p'.trans p,q'⟩
def lr (h:Heap):Value->Str
 | .ref b=>match h.get? b with
  | some ob=>match ob.data with
   | .seq its _=>match (its[0]? :Option Value) with
    | some (Value.str x _)=>x
    | _=>⟨#[]⟩
   | _=>⟨#[]⟩
  | none=>⟨#[]⟩
 | _=>⟨#[]⟩
theorem lA {α:Type} {g:α->Addr}: ∀ {zs:List α} {us:List Value},Vals (zs.map λ z=>V.ref (g z)) us->us=zs.map λ z=>Value.ref (g z)
 | [],_,r=>by cases r;rfl
 | z::zs,_,r=>by
  cases r with
  | cons r rr=>
   rw [lA rr,Zl];congr 1
theorem mZ {α:Type} {g:α->Addr}: ∀zs:List α,Vals (zs.map λ z=>V.ref (g z)) (zs.map λ z=>Value.ref (g z))
 | []=> .nil
 | _::zs=> .cons rfl (mZ zs)
abbrev K7 (a b:Str):Prop:=a.cps.toList<b.cps.toList
def SJ (td:TE):TE:=λ Z H Q=>td Z H λ x H1=> ∃ (a:Addr) (kvs:List (Str×V)),x= .ref a/\H1 a=some (.dK (kvs.map λ p=>(Sum.inr p.1,p.2)))/\kvs.length<64/\ ∀r (zs:List (Addr×Str×V)) (H2:Hp),(zs.map (·.2)).Perm kvs->(zs.map (·.2.1)).Pairwise K7->H1 r=none->Same H1 H2->H2 r=some (.lst (zs.map λ z=>V.ref z.1))->(∀z∈zs,H2 z.1=some (.tup [.str z.2.1,z.2.2]))->Q (.ref r) H2
def FQ (K:W.Frag):List V->Hp->VK->Prop:=λ xs H Q=> ∃ (a:Addr) (bs:List Bool),xs=[.ref a]/\SqL K H a (bs.map V.bl)/\Q (.bl (bs.all id)) H
def Vb (te:TE):TE:=λ Z H Q=>te Z H λ x H1=> ∃cs:List Nat,x= .str ⟨cs.toArray⟩/\cs.length<=1000000/\Q (.str ⟨cs.reverse.toArray⟩) H1
theorem zO {X:Cx} (hc:X.calm=true):bH X (.builtin "all") (FQ X.K):=by
 intro pins s Z H xs us Q I rv h;obtain ⟨a,bs,rfl,hx,q⟩:=h;obtain ⟨u,rfl,ru⟩:=rv.one
 cases (show u=Value.ref a from ru);obtain ⟨its,r,ht,hz⟩:=I.list hx;have hlt:a<s.heap.objs.size:=by obtain ⟨o,ho,_⟩:=ht.isList;exact Zp ho
 have hit:its=bs.map Value.bool:=by
  clear q hx ht hz;induction bs generalizing its with
  | nil=>cases r;rfl
  | cons b bs ih=>
   cases r with
   | cons h t=>rw [ih _ t,Zl];congr 1
 have hb: ∀i v,its.toArray[i]? =some v->v=Value.bool ((bs[i]?).getD true):=λ i v hv=>by
  rw [hit,Wx,Zj] at hv;obtain ⟨b,e1,e2⟩:=Yp.mp hv;rw [e1,<- e2];rfl
 refine call_all_walk (wpAny_pyIter_list ht.isList ?_);refine ⟨_,_,_,_,_,_,λ i=>(bs[i]?).getD true,rfl,Walks.list (A:=X.A.in1) (I.ok.hd hc) s.heap.objs.size a (Yo hlt) its.toArray,⟨⟨_,Zt _ rfl,rfl,rfl⟩,ht.isList.push _⟩,λ i v s Q E hP hQ=>by rw [hb i v hP];exact wpAny_truthy_bool hQ,λ h' tk hk=> ?_⟩;have e:(List.range its.toArray.size).all (λ i=>(bs[i]?).getD true)=bs.all id:=by
  rw [hit,Zu,Qr];rw [Bool.eq_iff_iff,List.all_eq_true,List.all_eq_true];constructor
  .intro h b hb;obtain ⟨i,hi,e⟩:=List.mem_iff_getElem.mp hb;have:=h i (Yw.mpr hi);rw [Zd hi,e] at this;exact this
  .intro h i hi;have hi:=Yw.mp hi;rw [Zd hi];exact h _ (Yy hi)
 rw [e];exact ⟨.bl _,H,I.kept (t':=tk) λ b o hb=>hk b o (λ m=>by rw [Za.mp m] at hb;exact absurd (Zp hb) (Xj _)) (Zf _ hb),rfl,q⟩
theorem xN {X:Cx} (K:W.Frag) (hK:X.K=K) (hc:X.calm=true):bH X (.builtin "all") (FQ K):=hK▸zO hc
end L2
end
section
namespace Sy
open PySem PyProof.Rows
variable {n:Nat} {a:Addr} {h₀:Heap} {v:Value} {its:Array Value} {R:Result->Shared->Prop} {Q:Option Value->Shared->Prop}
theorem n6:entryFor table "dict.update.loop"=some Builtin.«dict.update.loop»:=entryFor_of_tree (by kernel_rfl)
theorem gU:plainId "dict.update.loop"=true:=by ac_nf
theorem zP:typeLookup (.type "tuple") "keys"=pure none:=am_miss_of_fast (by ac_nf)
theorem K8:typeLookup (.type "tuple") "__getattr__"=pure none:=by rw [typeLookup_type,builtinLookup_eq_fast];kernel_rfl
theorem stored_new {K:Type} [DecidableEq K] {kvs:List (K×Value)} {k:K} (h:k∉kvs.map (·.1)):stored kvs k v=kvs++[(k,v)]:=by
 unfold stored;rw [if_neg];intro z;obtain ⟨p,m,e⟩:=List.any_eq_true.mp z;exact h (Zb.mpr ⟨p,m,Xx e⟩)
section
variable {prog:Program} {w:World} {A:Around} {E:Value->Shared->Prop} {s:Shared}
theorem zQ (a:Addr) (o:Obj) (its:Array Value) (n:Nat) (hc:o.cls= .type "tuple") (hd:o.dict=none) (hdt:o.data= .seq its n) (u:Tok):Meets (Builtin.«object.__getattribute__» ⟨[.ref a, .str "keys" u],[]⟩) (λ A R s=>s.heap.get? a=some o/\raisesAttr (.ref a) "keys" A R s):=
 Meets.of_wp λ prog w A R s hs=>by
  obtain ⟨hp,g,d,tk,os⟩:=s;obtain ⟨hx,hs⟩:=hs;dsimp only at hx;obtain ⟨cls,dict,data,slots⟩:=o;simp only at hc hd hdt;subst hc hd hdt;have hT:(⟨hp,g,d,tk,os⟩:Shared).TypeIs (.ref a) "tuple":=⟨_,hx,rfl⟩;have f1:=zP;unfold Builtin.«object.__getattribute__»;repeat (any_goals (first | assumption | wp_step | (refine PySem.AutoSeq1.wpAny_loadPart' hx ?_)))
  exact wpAny_raiseAttrError hs.1 hs.2 (attrMsg_fits (by ac_nf) (by rw [sizeLine_eq];decide+kernel))
theorem FT {o:Obj} (hh:A.handled=none) (hx:s.heap.get? a=some o) (hc:o.cls= .type "tuple") (hd:o.dict=none) (hdt:o.data= .seq its n)
  (hQ: ∀h' tk,(∀b ob,s.heap.get? b=some ob->h'.get? b=some ob)->Q none { s with heap:=h',toks:=tk }):wpAny (model prog w) A (getAttr? (.ref a) "keys") Q E s:=by
 obtain ⟨hp,g,d,tk,os⟩:=s;dsimp only at hx;have M:=λ u=>zQ a o its n hc hd hdt u
 obtain ⟨cls,dict,data,slots⟩:=o;simp only at hc hd hdt;subst hc hd hdt;have hT: ∀tk,(⟨hp,g,d,tk,os⟩:Shared).TypeIs (.ref a) "tuple":=λ _=>⟨_,hx,rfl⟩
 have f1:=sub_AttributeError;have f3:=F.slot_tuple_getattribute.lookup;have f4:=F.slot_tuple_getattribute.bind (.ref a);have f5:=K8;unfold getAttr? getAttrBy? getAttrBy;repeat (any_goals (first | assumption | exact hT _ | ((with_reducible show wpAny _ _ (call (Value.builtin "tuple.__getattribute__") _ _) _ _ _);refine call_meets F.slot_tuple_getattribute (hT _) F.entry_tuple_ga (F.args_tuple_getattribute_2 _ _) (M _) ⟨hx,hh,λ h' tk' e hx=> ?_⟩) | wp_step))
 obtain ⟨t',u',he⟩:=hx.there;show wpAny _ _ (getattributeRaised _ _ _ _ _ _ _) _ _ _;unfold getattributeRaised;repeat (any_goals (first | assumption | wp_step))
 exact hQ _ _ hx.keeps
theorem zR {K:Type} [DecidableEq K] {knd:PySem.KeyKind prog w K} {I D:Addr} {fp wr:List Addr} {zs:List (Addr×Value×K×Value)} {St:Nat->Heap->Prop}
  (W:Walks prog w A.in1 I fp wr zs.length (λ i v=> ∃z,zs[i]? =some z/\v= .ref z.1) St) (hDf:D∉fp)
  (hz: ∀z∈zs,z.1∉D::wr/\knd.is z.2.2.1 z.2.1=true/\ ∃o n,h₀.get? z.1=some o/\o.cls= .type "tuple"/\o.data= .seq #[z.2.1,z.2.2.2] n) (hnd:(zs.map (·.2.2.1)).Nodup) (hsz:zs.length<=sizeLine) (res:Value)
  (hR: ∀h' tk',h'.DictOf knd D (zs.map λ z=>(z.2.2.1,z.2.2.2))->(∀b o,b∉D::wr->h₀.get? b=some o->h'.get? b=some o)->R (.ok (.ret res)) { s with heap:=h',toks:=tk' }):
  ∀ (k i:Nat) (h:Heap) (tk:Nat) (j:Int),zs.length-i=k->i<=zs.length->St i h->h.DictOf knd D ((zs.take i).map λ z=>(z.2.2.1,z.2.2.2))->(∀b o,b∉D::wr->h₀.get? b=some o->h.get? b=some o)->
   codeAny (model prog w) A (.builtin "dict.update.loop" ⟨[.ref D, .ref I, .int j 0,res],[]⟩) R { s with heap:=h,toks:=tk }:=by
 have hDw:D∉wr:=λ m=>hDf (W.sub _ m)
 have sub: ∀ {b},b∉D::wr->b∉wr:=λ {b} n m=>n (Zv _ m)
 intro k;induction k with
 | zero=>
  intro i h tk j hk hi hst hD hkeep;have hin:i=zs.length:=by rfl'
  subst hin;rw [Xh] at hD;refine codeAny_builtin n6 ?_;rw [Around.under_plainId gU _];show wpAny _ A.in1 (pyNext (.ref I) >>= _) _ _ _;refine Qb (W.done { s with heap:=h,toks:=tk } _ _ hst λ h' tk' hk'=> ?_);show wpAny _ A.in1 (Builtin.Dict.addKeywords D [] >>= _) _ _ _;refine Qb (Zc (Zc (hR h' tk' ?_ λ b o hb e=>hk' b o (sub hb) (hkeep b o hb e))));obtain ⟨o,es,ep,ho,r⟩:=hD;exact ⟨o,es,ep,hk' D o hDw ho,r⟩
 | succ k ih=>
  intro i h tk j hk hi hst hD hkeep;have hlt:i<zs.length:=by rfl'
  refine codeAny_builtin n6 ?_;rw [Around.under_plainId gU _];show wpAny _ A.in1 (pyNext (.ref I) >>= _) _ _ _;refine Qb (W.item i { s with heap:=h,toks:=tk } _ _ hlt hst λ v h' tk' hP hst' hk'=> ?_);obtain ⟨z,ez,rfl⟩:=hP;have hm:=Ze ez;obtain ⟨n1,n2,o,n,g1,g2,g3⟩:=hz z hm;have g1':h'.get? z.1=some o:=hk' _ _ (sub n1) (hkeep _ _ n1 g1);have hD':h'.DictOf knd D ((zs.take i).map λ z=>(z.2.2.1,z.2.2.2)):=by
   obtain ⟨o,es,ep,ho,r⟩:=hD;exact ⟨o,es,ep,hk' D o hDw ho,r⟩
  refine Qb (Xg ?_);refine Qb (wpAny_tryCatch ?_);unfold Builtin.Dict.pairItems;refine Qb (wpAny_typeOf (T:="tuple") ⟨o,g1',g2⟩ ?_);rw [if_pos (by decide)];refine Qb ?_;unfold seqItems?;refine Qb (wpAny_load g1' ?_);rw [g3];refine Zc (Zc ?_);show wpAny _ _ (holding [z.2.1,z.2.2.2] (dictSet D z.2.1 z.2.2.2)) _ _ _;refine Xg (wpAny_dictSet_pairs n2 hD' (λ h'' hd'' hs''=> ?_) (by rw [Qr,Yd];rfl'));have et:zs.take (i+1)=zs.take i++[z]:=by rw [Ys,ez];rfl
  have hnew:z.2.2.1∉((zs.take i).map λ z=>(z.2.2.1,z.2.2.2)).map (·.1):=by
   intro m;rw [Zq] at m;obtain ⟨y,my,ey⟩:=Zb.mp m;have hnd2:((zs.take (i+1)).map (·.2.2.1)).Nodup:=List.Nodup.sublist ((List.take_sublist _ _).map _) hnd;rw [et,Zh,Xc] at hnd2;exact hnd2.2.2 _ (Zb.mpr ⟨y,my,rfl⟩) z.2.2.1 (by simp) ey
  rw [stored_new hnew] at hd'';refine Zc ⟨plainId_quiet gU _,ih (i+1) h'' _ (j+1) (by rfl') hlt (W.frame _ _ _ hst' λ b hb o e=> ?_) (by rw [et,Zh];exact hd'') λ b o hb e=> ?_⟩
  .rw [hs''.2 b (λ q=>hDf (by rw [<- q];exact hb))];exact e
  .rw [hs''.2 b (λ q=>hb (by rw [q];exact Zs))];exact hk' b o (sub hb) (hkeep b o hb e)
theorem jL {K:Type} [DecidableEq K] {knd:PySem.KeyKind prog w K} {o:Obj} {zs:List (Addr×Value×K×Value)} {Q:Value->Shared->Prop} (hh:A.handled=none) (hx:s.heap.get? a=some o) (hc:o.cls= .type "tuple") (hd:o.dict=none) (hdt:o.data= .seq (zs.map λ z=>Value.ref z.1).toArray n)
  (hz: ∀z∈zs,knd.is z.2.2.1 z.2.1=true/\ ∃o n,s.heap.get? z.1=some o/\o.cls= .type "tuple"/\o.data= .seq #[z.2.1,z.2.2.2] n) (hnd:(zs.map (·.2.2.1)).Nodup) (hsz:zs.length<=sizeLine)
  (hQ: ∀h' tk,h'.DictOf knd s.heap.objs.size (zs.map λ z=>(z.2.2.1,z.2.2.2))->(∀b o,s.heap.get? b=some o->h'.get? b=some o)->Q (.ref s.heap.objs.size) { s with heap:=h',toks:=tk }):
  wpAny (model prog w) A (call (.type "dict") [.ref a]) Q E s:=by
 refine callType_codes (Q₁:=λ obj s₁=>obj= .ref s.heap.objs.size/\s₁={ s with heap:=s.heap.push { cls:= .type "dict",data:= .dict #[] } }) F.kt_called_dict (F.kt_typeCall_dict_1 _) F.entry_dict_init (kt_code_dict_new _ ⟨rfl,rfl⟩) ?_;rintro obj s₁ ⟨rfl,rfl⟩;have hal:a<s.heap.objs.size:=Zp hx;have hnew:(s.heap.push { cls:= .type "dict",data:= .dict #[] }).DictOf knd s.heap.objs.size []:=Heap.DictOf.new s.heap;have hx':(s.heap.push { cls:= .type "dict",data:= .dict #[] }).get? a=some o:=Zf _ hx;refine ⟨hnew.typeIs,F.args_dict_init_2 _ _,?_⟩;unfold Builtin.«dict.__init__»;refine Qb ?_;unfold Builtin.Dict.selfAndRest;refine Qb (wpAny_notOrdered_dict hnew.typeIs ?_);show wpAny _ _ (pure (s.heap.objs.size,[Value.ref a])) _ _ _;refine Zc ?_;show wpAny _ _ (Builtin.Dict.updateFrom "dict.__init__" s.heap.objs.size (.ref a) [] .none) _ _ _;unfold Builtin.Dict.updateFrom;refine Qb (wpAny_typeOf (T:="tuple") ⟨o,hx',hc⟩ ?_);rw [if_pos (by decide)];refine Qb (FT hh hx' hc hd hdt λ h1 tk1 hk1=> ?_);rw [if_pos (show (none:Option Value).isNone=true from rfl)];refine Qb (wpAny_rule ?_);have hxa:h1.IsTuple a (zs.map λ z=>Value.ref z.1).toArray:=⟨o,hk1 _ _ hx',hc,n,hdt⟩;refine Qb (wpAny_pyIter_tuple hxa ?_);have hs1:s.heap.objs.size<h1.objs.size:=Zp (hk1 s.heap.objs.size _ (Zt _ rfl));have hne:a≠h1.objs.size:=Yo (Nat.lt_trans hal hs1);have esz:(zs.map λ z=>Value.ref z.1).toArray.size=zs.length:=by simp
 have W0:=Walks.tuple (prog:=prog) (w:=w) (A:=A.in1.in1) hh h1.objs.size a hne (zs.map λ z=>Value.ref z.1).toArray;have W : Walks prog w A.in1.in1 h1.objs.size [h1.objs.size, a] [h1.objs.size] zs.length (λ i v => ∃ z, zs[i]? = some z /\ v = .ref z.1) (λ i h => h.IsTupleIter h1.objs.size a i /\ h.IsTuple a (zs.map λ z => Value.ref z.1).toArray) :=
  { sub:=W0.sub,frame:=W0.frame,self:=W0.self
    item:=λ i s Q E hi st hQ=>W0.item i s Q E (by rw [esz];exact hi) st λ v h' tk hP=>hQ v h' tk (by
      rw [Wx,Zj] at hP;obtain ⟨z,e1,e2⟩:=Yp.mp hP;exact ⟨z,e1,e2.symm⟩)
    done:=λ s Q E st hQ=>W0.done s Q E (by rw [esz];exact st) hQ }
 have hk2: ∀b ob,s.heap.get? b=some ob->(h1.push { cls:= .type "tuple_iterator",data:= .fields #[.ref a, .int 0 0] }).get? b=some ob:=λ b ob e=>Zf _ (hk1 b ob (Zf _ e))
 have hnw: ∀b ob,s.heap.get? b=some ob->b∉[s.heap.objs.size,h1.objs.size]:=λ b ob e m=>by
  have:=Zp e;simp only [Zm,Yq,Xz] at m;rcases m with rfl | rfl
  .exact Xj _ this
  .exact Xj _ (Nat.lt_trans this hs1)
 refine Zc ⟨plainId_quiet gU _,zR (s:=s) (A:=A.in1) (knd:=knd) (D:=s.heap.objs.size) (h₀:=h1.push { cls:= .type "tuple_iterator",data:= .fields #[.ref a, .int 0 0] }) W ?_ (λ z m=> ?_) hnd hsz .none (λ h' tk' hD hk=>⟨rfl,hQ h' tk' hD λ b ob e=>hk b ob (hnw b ob e) (hk2 b ob e)⟩) zs.length 0 _ _ 0 rfl (Yz _) ⟨⟨_,Zt _ rfl,rfl,rfl⟩,?_⟩ ?_ λ _ _ _ e=>e⟩
 .simp only [Zm,Yq,Xz,not_or];exact ⟨Nat.ne_of_lt hs1,Nat.ne_of_gt hal⟩
 .obtain ⟨n1,o',n',g1,g2,g3⟩:=hz z m;exact ⟨hnw _ _ g1,n1,o',n',hk2 _ _ g1,g2,g3⟩
 .obtain ⟨o',ho,r⟩:=hxa;exact ⟨o',Zf _ ho,r⟩
 .obtain ⟨o',es,ep,ho,r⟩:=hnew;exact ⟨o',es,ep,Zf _ (hk1 _ _ ho),r⟩
end
end Sy
namespace L2
open PySem PySem.Spec PyProof.Rows
def vV (K:W.Frag):List V->Hp->VK->Prop:=λ xs H Q=> ∃p ys,xs=[.ref p]/\SqL K H p ys/\ ∀l (ob:Obj),ob.dict=none->H l=none->Q (.ref l) (upd H l (.frz ob (.tup ys)))
theorem xO {X:Cx}:bH X (.type "tuple") (vV X.K):=by
 intro pins s Z H xs us Q I r h;obtain ⟨p,ys,rfl,hq,q⟩:=h;obtain ⟨u,rfl,rx⟩:=vals1 r
 cases rx;obtain ⟨its,r',pl,hz⟩:=I.list hq;have hlen:=r'.length;refine call_tuple_list pl.isList (λ h' kp=> ?_) (by simp only [Zu]<;>rfl');have I1:Inv X pins Z H { s with heap:=h' }:=I.kept (t':=s.toks) kp;have I2:Inv X pins Z (upd H h'.objs.size (.frz { cls:= .type "tuple",data:= .seq its.toArray } (.tup ys))) { s with heap:=h'.push { cls:= .type "tuple",data:= .seq its.toArray } }:=
  I1.laid (t':=s.toks) (λ b o e=>Zf _ e) (Zk _) (show ObjOk X.prog X.w _ _ _ (.frz _ (.tup ys)) from ⟨Heap.get?_push_size _ rfl,hz,its,r',IsTup.new _ _⟩)
 exact ⟨.ref h'.objs.size,_,I2,rfl,q _ _ rfl (I1.hok.fresh (Zk _))⟩
theorem tX {X:Cx} (K:W.Frag) (hK:X.K=K):bH X (.type "tuple") (vV K):=hK▸xO
def gW (K:W.Frag):List V->Hp->VK->Prop:=λ xs H Q=> ∃ (a:Addr) (ob:Obj) (zs:List (Addr×Str×V)),xs=[.ref a]/\ob.dict=none/\H a=some (.frz ob (.tup (zs.map λ z=>V.ref z.1)))/\(∀z∈zs,SqT K H z.1 [.str z.2.1,z.2.2])/\(zs.map (·.2.1)).Nodup/\zs.length<=1000/\ ∀r,H r=none->Q (.ref r) (upd H r (.dK (zs.map λ z=>(Sum.inr z.2.1,z.2.2))))
theorem qP {X:Cx} (hc:X.calm=true):bH X (.type "dict") (gW X.K):=by
 intro pins s Z H xs us Q I r h;obtain ⟨a,ob,zs,rfl,hob,ha,hz,hnd,hn,q⟩:=h;obtain ⟨u,rfl,rx⟩:=vals1 r
 cases rx;obtain ⟨hg,hlen,its,rv,o',ho',hcl,n,hdt⟩:=I.hok a _ ha;rw [hg] at ho'
 cases ho';have ei:=lA rv;subst ei;have hp: ∀z∈zs,∃t v',RelV z.2.2 v'/\ ∃o n,s.heap.get? z.1=some o/\o.cls= .type "tuple"/\o.data= .seq #[.str z.2.1 t,v'] n:=λ z m=>by
  obtain ⟨is,r1,p1,_⟩:=I.tuple (hz z m);obtain ⟨o,ho,hc,n,hd⟩:=p1
  cases r1 with
  | cons r2 rr=>
   obtain ⟨t,rfl⟩:=r2
   cases rr with
   | cons r3 r4=>
    cases r4;exact ⟨t,_,r3,o,n,ho,hc,hd⟩
 have hch: ∃ws:List (Addr×Value×Key×Value),ws.map (λ w=>Value.ref w.1)=zs.map (λ z=>Value.ref z.1)/\ws.map (·.2.2.1)=zs.map (λ z=>(Sum.inr z.2.1:Key))/\KV (zs.map λ z=>((Sum.inr z.2.1:Key),z.2.2)) (ws.map λ w=>(w.2.2.1,w.2.2.2))/\ ∀w∈ws,iM w.2.2.1 w.2.1=true/\ ∃o n,s.heap.get? w.1=some o/\o.cls= .type "tuple"/\o.data= .seq #[w.2.1,w.2.2.2] n:=by
  clear ha hnd hn q rv hdt hz hlen;induction zs with
  | nil=>exact ⟨[],rfl,rfl, .nil,by simp⟩
  | cons z zs ih=>
   obtain ⟨ws,e1,e2,e3,e4⟩:=ih λ y my=>hp y (Zv _ my)
   obtain ⟨t,v',r1,o,n,g1,g2,g3⟩:=hp z Zs;refine ⟨(z.1, .str z.2.1 t,Sum.inr z.2.1,v')::ws,by rw [Zl,Zl,e1],by rw [Zl,Zl,e2], .cons ⟨rfl,r1⟩ e3,λ w mw=> ?_⟩;rcases Zm.mp mw with rfl | mw
   .exact ⟨mD _ _,o,n,g1,g2,g3⟩
   .exact e4 w mw
 obtain ⟨ws,e1,e2,e3,e4⟩:=hch;rw [<- e1] at hdt;have hwl:ws.length=zs.length:=by have:=Yt List.length e1;rw [Qr,Qr] at this;exact this
 refine Sy.jL (knd:=bD X.prog X.w) (I.ok.hd hc) hg hcl hob hdt e4 (by rw [e2,show (zs.map λ z=>(Sum.inr z.2.1:Key))=(zs.map (·.2.1)).map Sum.inr by rw [Zq];rfl];exact List.pairwise_map.mpr (List.Pairwise.imp (λ {a b} h e=>h (Sum.inr.inj e)) hnd)) (by rw [hwl,sizeLine_eq];rfl') λ h' tk hD hk=> ?_
 refine ⟨.ref _,_,I.laid (t':=tk) (o:= .dK (zs.map λ z=>((Sum.inr z.2.1:Key),z.2.2))) hk (Zk _) (show ObjOk X.prog X.w _ _ _ (.dK _) from ⟨by rw [Qr,sizeLine_eq];rfl',?_,_,e3,hD⟩),rfl,q _ (I.hok.fresh (Zk _))⟩;exact Wu.mpr (Nat.ne_of_gt I.big)
theorem fX {X:Cx} (K:W.Frag) (hK:X.K=K) (hc:X.calm=true):bH X (.type "dict") (gW K):=hK▸qP hc
end L2
end
section
namespace L2
open PySem PySem.Spec PyProof.Rows PySem.SeqAt
def Vc:V->Bool
 | .non=>true
 | .bl _=>true
 | .int _=>true
 | .str _=>true
 | .ref _=>true
 | _=>false
def Sm (K:W.Frag) (H:Hp):Nat->V->V->Prop
 | 0,x,y=>x=y/\Vc x=true
 | n+1,x,y=>(x=y/\Vc x=true)\/ ∃a b xs ys,x= .ref a/\y= .ref b/\((SqL K H a xs/\SqL K H b ys)\/(SqT K H a xs/\SqT K H b ys))/\xs.length=ys.length/\ ∀ (i:Nat) u v,xs[i]? =some u->ys[i]? =some v->Sm K H n u v
end L2
end
section
namespace L2
open PySem PySem.Spec PyProof.Rows
variable {i:Addr} {w:World} {a b:Value} {prog:Program} {xs:Array Value} {Q:Option Value->Shared->Prop}
structure Drw (prog:Program) (w:World) (i l:Addr) (xs:Array Value) (St:Nat->Heap->Prop):Prop where
 keep: ∀k h h',St k h->(∀c,c=i\/c=l-> ∀o,h.get? c=some o->h'.get? c=some o)->St k h'
 item: ∀ (A:Around) (s:Shared) k x (Q:Value->Shared->Prop) (E:Value->Shared->Prop),St k s.heap->xs[k]? =some x->(∀h',St (k+1) h'->Heap.SameBut i s.heap h'->Q x { s with heap:=h' })->
  wpAny (model prog w) A (Builtin.SmallTypes.nextOf (.ref i)) Q E s
 stop: ∀ (A:Around) (s:Shared) k (Q:Value->Shared->Prop) (E:Value->Shared->Prop),A.handled=none->St k s.heap->xs[k]? =none->(∀h' e,Heap.ExtBut i s.heap h'->(∃o,h'.get? e=some o/\o.cls= .type "StopIteration")->E (.ref e) { s with heap:=h' })->
  wpAny (model prog w) A (Builtin.SmallTypes.nextOf (.ref i)) Q E s
theorem Drw.but {l b:Addr} {St:Nat->Heap->Prop} (D:Drw prog w i l xs St) {k:Nat} {h h':Heap} (st:St k h) (e:Heap.ExtBut b h h') (hi:i≠b) (hl:l≠b):St k h':=
 D.keep k h h' st λ c hc o q=>e c o (by rcases hc with rfl | rfl;exact hi;exact hl) q
theorem jQ {l:Addr} (hne:l≠i):Drw prog w i l xs λ k h=>h.IsTupleIter i l k/\h.IsTuple l xs where
 keep:=λ k h h' st kk=>⟨st.1.at λ o e=>kk i (.inl rfl) o e,by obtain ⟨o,e,q⟩:=st.2;exact ⟨o,kk l (.inr rfl) o e,q⟩⟩
 item:=λ A s k x Q E st hx hQ=>by
  obtain ⟨hit,ht⟩:=st;obtain ⟨o,ho,hc,hd⟩:=id hit;obtain ⟨ol,hol,_,nl,hdl⟩:=id ht;unfold Builtin.SmallTypes.nextOf;refine Qb (wpAny_callSpecial?_slot (name:=Str.ofString "__next__") hit.typeIs F.slot_tuple_iterator_next (Yv F.slot_tuple_iterator_next hit.typeIs F.entry_tuple_iterator_next ?_ (F.args_tuple_iterator_next_1 _)));refine Qb (m:=field (.ref i) 0) (Xl ho hd (x:= .ref l) rfl ?_);show wpAny _ _ (if (Value.ref l==Value.none)=true then _ else _) _ _ s;rw [if_neg (by intro z;cases z)];refine Qb (m:=field (.ref i) 1) (Xl ho hd (x:= .int k 0) rfl ?_);refine Qb (m:=seqItems? (.ref l)) (Xs hol hdl ?_);simp only [Yh,hx];refine Qb (wpAny_setField ho hd (by simp) (Zc ⟨x,rfl,Zc (hQ _ ⟨?_,ht.extBut (Xn ..).extBut hne⟩ (Xn ..))⟩));exact ⟨_,Ww _ ho (Obj.isFreed_of_fields (Obj.data_mapFields hd _)),(Obj.cls_mapFields ..).trans hc,by rw [Obj.data_mapFields hd];simp [rawInt]⟩
 stop:=λ A s k Q E hh st hx hE=>by
  obtain ⟨hit,ht⟩:=st;obtain ⟨o,ho,hc,hd⟩:=id hit;obtain ⟨ol,hol,_,nl,hdl⟩:=id ht;unfold Builtin.SmallTypes.nextOf;refine Qb (wpAny_callSpecial?_slot (name:=Str.ofString "__next__") hit.typeIs F.slot_tuple_iterator_next (Yv F.slot_tuple_iterator_next hit.typeIs F.entry_tuple_iterator_next ?_ (F.args_tuple_iterator_next_1 _)));refine Qb (m:=field (.ref i) 0) (Xl ho hd (x:= .ref l) rfl ?_);show wpAny _ _ (if (Value.ref l==Value.none)=true then _ else _) _ _ s;rw [if_neg (by intro z;cases z)];refine Qb (m:=field (.ref i) 1) (Xl ho hd (x:= .int k 0) rfl ?_);refine Qb (m:=seqItems? (.ref l)) (Xs hol hdl ?_);simp only [Yh,hx];refine Qb (wpAny_rule (Qb (wpAny_setField ho hd (by simp) ?_)));refine Qb (m:=newExc (.type "StopIteration") []) ?_;simp only [newExc,newTuple];refine Qb (Xe ?_ (by size_fits));refine Qb (m:=firstArgMember _ _) (wpAny_of_eq (a:=Value.none) (by first | rfl | (simp only [firstArgMember];rfl)) ?_);refine Xe ?_ (by size_fits);simp only [raiseNew];refine Qb (wpAny_handled ?_)
  first | rw [show A.in1.handled=none from hh] | rw [hh]
  exact Qb (Zc (wpAny_throw (hE _ _ (((Xn ..).extBut.push _).push _) ⟨_,Zt _ rfl,rfl⟩)))
section
variable {prog:Program} {w:World} {A:Around} {E:Value->Shared->Prop} {s:Shared} {z TI TO i1 i2 l1 l2:Addr} {k:Nat} {xs ys:Array Value} {S1 S2:Nat->Heap->Prop}
theorem xP {x y:Value} (D:ZipApart z TI TO i1 i2 l1 l2) (D1:Drw prog w i1 l1 xs S1) (D2:Drw prog w i2 l2 ys S2)
  (hz:IsZip s.heap z TI TO .none) (hTI:IsPair s.heap TI (.ref i1) (.ref i2)) (hTO:IsPair s.heap TO a b) (h1:S1 k s.heap) (h2:S2 k s.heap) (hx:xs[k]? =some x) (hy:ys[k]? =some y)
  (hQ: ∀h',IsZip h' z TI TO (rawInt s.heap.objs.size)->IsPair h' TO x y->S1 (k+1) h'->S2 (k+1) h'->IsPair h' s.heap.objs.size x y->
   (∀c o,c≠z->c≠TO->c≠i1->c≠i2->s.heap.get? c=some o->h'.get? c=some o)->Q (some (.ref s.heap.objs.size)) { s with heap:=h' }):
  wpAny (model prog w) A (pyNext (.ref z)) Q E s:=by
 have hT:s.TypeIs (.ref z) "zip":=⟨_,hz,rfl⟩;unfold pyNext;refine Qb (wpAny_attempt (wpAny_callSpecial?_slot (name:=Str.ofString "__next__") hT F.slot_zip_next (Yv F.slot_zip_next hT F.entry_zip_next ?_ (F.args_zip_next_1 _))));refine Qb (m:=field (.ref z) 2) (Xl hz rfl (x:= .bool false) rfl ?_);refine Qb (m:=field (.ref z) 3) (Xl hz rfl (x:= .ref TI) rfl ?_);refine Qb (Xs hTI rfl ?_);refine Qb (m:=Builtin.SmallTypes.ownedTupleIsFree (.ref z)) ?_;unfold Builtin.SmallTypes.ownedTupleIsFree;refine Qb (Xl hz rfl (x:= .none) rfl (Zc ?_));simp only [if_true];refine Qb (wpAny_rule ?_);refine Qb (Xl hz rfl (x:= .ref TO) rfl ?_);refine Qb (Xk hz (by simp) λ g1 y1 t1=> ?_);refine Qb ?_;simp only [List.zipIdx_cons,List.zipIdx_nil,Xd,List.forIn_nil];refine Qb (Qb (wpAny_onRaise ?_));refine Qb (m:=Builtin.SmallTypes.nextOf (.ref i1)) (D1.item _ _ k x _ _ (D1.but h1 t1.extBut D.i1z D.l1z) hx λ g2 r2 t2=>Zc ?_);have o2:IsPair g2 TO a b:=t2.extBut _ _ D.TOi1 (t1.extBut _ _ D.TOz hTO);have q2:S2 k g2:=D2.but (D2.but h2 t1.extBut D.i2z D.l2z) t2.extBut D.i12.symm D.l2i1;refine Qb (Xs o2 rfl ?_);refine Qb (wpAny_updateSeq_pair o2 λ g3 o3 t3=> ?_);replace o3:IsPair g3 TO x b:=o3;refine Qb (wpAny_letGo (Zc ?_));refine Qb (Qb (wpAny_onRaise ?_));refine Qb (m:=Builtin.SmallTypes.nextOf (.ref i2)) (D2.item _ _ k y _ _ (D2.but q2 t3.extBut D.TOi2.symm D.l2TO) hy λ g4 r4 t4=>Zc ?_);have o4:IsPair g4 TO x b:=t4.extBut _ _ D.TOi2 o3;refine Qb (Xs o4 rfl ?_);refine Qb (wpAny_updateSeq_pair o4 λ g5 o5 t5=> ?_);replace o5:IsPair g5 TO x y:=o5;refine Qb (wpAny_letGo (Zc (Zc ?_)));refine Qb (Xs o5 rfl ?_);refine Qb (wpAny_newTuple ?_);have sz:g5.objs.size=s.heap.objs.size:=by rw [t5.1,t4.1,t3.1,t2.1,t1.1]
 have y5:IsZip g5 z TI TO .ellipsis:=t5.extBut _ _ D.TOz.symm (t4.extBut _ _ D.i2z.symm (t3.extBut _ _ D.TOz.symm (t2.extBut _ _ D.i1z.symm y1)));have c5: ∀c o,c≠z->c≠TO->c≠i1->c≠i2->s.heap.get? c=some o->g5.get? c=some o:=λ c o n1 n2 n3 n4 e=>
  t5.extBut _ _ n2 (t4.extBut _ _ n4 (t3.extBut _ _ n2 (t2.extBut _ _ n3 (t1.extBut _ _ n1 e))))
 have r5:S1 (k+1) g5:=D1.but (D1.but (D1.but r2 t3.extBut D.TOi1.symm D.l1TO) t4.extBut D.i12 D.l1i2) t5.extBut D.TOi1.symm D.l1TO;have p5:S2 (k+1) g5:=D2.but r4 t5.extBut D.TOi2.symm D.l2TO;have hlt:z<g5.objs.size:=Zp y5;refine Qb (m:=Builtin.SmallTypes.ownedTupleHandOut (.ref z) (.ref g5.objs.size)) ?_;unfold Builtin.SmallTypes.ownedTupleHandOut;refine Qb (Xk (show IsZip (g5.push { cls:= .type "tuple",data:= .seq #[x,y] }) z TI TO .ellipsis from Zf _ y5) (by simp) λ g7 y7 t7=> ?_);replace y7:IsZip g7 z TI TO (rawInt g5.objs.size):=y7;refine Xk y7 (by simp) λ g8 y8 t8=> ?_
 replace y8:IsZip g8 z TI TO (rawInt g5.objs.size):=y8;have up: ∀c o,c≠z->g5.get? c=some o->g8.get? c=some o:=λ c o n e=>t8.extBut _ _ n (t7.extBut _ _ n (Zf _ e))
 have w8:IsPair g8 g5.objs.size x y:=t8.extBut _ _ (Nat.ne_of_gt hlt) (t7.extBut _ _ (Nat.ne_of_gt hlt) (Zt _ rfl));rw [sz] at y8 w8;refine Zc ⟨_,rfl,Zc ?_⟩;show Q (some (.ref g5.objs.size)) _;rw [sz];exact hQ g8 y8 (up _ _ D.TOz o5) (D1.keep _ _ _ r5 λ c hc o e=>up c o (by rcases hc with rfl | rfl;exact D.i1z;exact D.l1z) e) (D2.keep _ _ _ p5 λ c hc o e=>up c o (by rcases hc with rfl | rfl;exact D.i2z;exact D.l2z) e) w8 λ c o n1 n2 n3 n4 e=>up c o n1 (c5 c o n1 n2 n3 n4 e)
theorem zT (hh:A.handled=none) (D:ZipApart z TI TO i1 i2 l1 l2) (D1:Drw prog w i1 l1 xs S1) (D2:Drw prog w i2 l2 ys S2)
  (hz:IsZip s.heap z TI TO .none) (hTI:IsPair s.heap TI (.ref i1) (.ref i2)) (hTO:IsPair s.heap TO a b) (h1:S1 k s.heap) (h2:S2 k s.heap) (hend:xs[k]? =none\/ys[k]? =none)
  (hQ: ∀h',(∀c o,c≠z->c≠TO->c≠i1->c≠i2->s.heap.get? c=some o->h'.get? c=some o)->Q none { s with heap:=h' }):
  wpAny (model prog w) A (pyNext (.ref z)) Q E s:=by
 have hT:s.TypeIs (.ref z) "zip":=⟨_,hz,rfl⟩;have fin: ∀h' e,(∀c o,c≠z->c≠TO->c≠i1->c≠i2->s.heap.get? c=some o->h'.get? c=some o)->(∃o,h'.get? e=some o/\o.cls= .type "StopIteration")->
   wpAny (model prog w) A (do if <- isInstance (.ref e) (.type "StopIteration") then pure none else throw (.ref e):Sem (Option Value)) Q E { s with heap:=h' }:=λ h' e kk he=>by
  obtain ⟨o,ho,hc⟩:=he;exact Qb (wpAny_isInstance (T:="StopIteration") (b:=true) ⟨o,ho,hc⟩ isSubtype_stop (Zc (hQ _ kk)))
 unfold pyNext;refine Qb (wpAny_attempt (wpAny_callSpecial?_slot (name:=Str.ofString "__next__") hT F.slot_zip_next (Yv F.slot_zip_next hT F.entry_zip_next ?_ (F.args_zip_next_1 _))));refine Qb (m:=field (.ref z) 2) (Xl hz rfl (x:= .bool false) rfl ?_);refine Qb (m:=field (.ref z) 3) (Xl hz rfl (x:= .ref TI) rfl ?_);refine Qb (Xs hTI rfl ?_);refine Qb (m:=Builtin.SmallTypes.ownedTupleIsFree (.ref z)) ?_;unfold Builtin.SmallTypes.ownedTupleIsFree;refine Qb (Xl hz rfl (x:= .none) rfl (Zc ?_));simp only [if_true];refine Qb (wpAny_rule ?_);refine Qb (Xl hz rfl (x:= .ref TO) rfl ?_);refine Qb (Xk hz (by simp) λ g1 y1 t1=> ?_);refine Qb ?_;simp only [List.zipIdx_cons,List.zipIdx_nil,Xd,List.forIn_nil];refine Qb (Qb (wpAny_onRaise ?_));replace y1:IsZip g1 z TI TO .ellipsis:=y1;have r1:S1 k g1:=D1.but h1 t1.extBut D.i1z D.l1z
 cases hx:xs[k]? with
 | none=>
  refine Qb (m:=Builtin.SmallTypes.nextOf (.ref i1)) (D1.stop _ _ k _ _ hh r1 hx λ g2 e t2 he=> ?_);obtain ⟨oe,hoe,hce⟩:=he;have y2:IsZip g2 z TI TO .ellipsis:=t2 _ _ D.i1z.symm y1;have hez:e≠z:=λ q=>by subst q;rw [y2] at hoe;cases hoe;simp at hce
  exact Xk y2 (by simp) λ g3 _ t3=>fin g3 e (λ c o n1 _ n3 _ q=>t3.extBut _ _ n1 (t2 _ _ n3 (t1.extBut _ _ n1 q))) ⟨oe,t3.extBut _ _ hez hoe,hce⟩
 | some x=>
  have hy:ys[k]? =none:=by rcases hend with q | q;rw [hx] at q;cases q;exact q
  refine Qb (m:=Builtin.SmallTypes.nextOf (.ref i1)) (D1.item _ _ k x _ _ r1 hx λ g2 r2 t2=>Zc ?_);have o2:IsPair g2 TO a b:=t2.extBut _ _ D.TOi1 (t1.extBut _ _ D.TOz hTO);have q2:S2 k g2:=D2.but (D2.but h2 t1.extBut D.i2z D.l2z) t2.extBut D.i12.symm D.l2i1;refine Qb (Xs o2 rfl ?_);refine Qb (wpAny_updateSeq_pair o2 λ g3 o3 t3=> ?_);refine Qb (wpAny_letGo (Zc ?_));refine Qb (Qb (wpAny_onRaise ?_));refine Qb (m:=Builtin.SmallTypes.nextOf (.ref i2)) (D2.stop _ _ k _ _ hh (D2.but q2 t3.extBut D.TOi2.symm D.l2TO) hy λ g4 e t4 he=> ?_);obtain ⟨oe,hoe,hce⟩:=he;have y4:IsZip g4 z TI TO .ellipsis:=t4 _ _ D.i2z.symm (t3.extBut _ _ D.TOz.symm (t2.extBut _ _ D.i1z.symm y1));have hez:e≠z:=λ q=>by subst q;rw [y4] at hoe;cases hoe;simp at hce
  exact Xk y4 (by simp) λ g5 _ t5=>fin g5 e (λ c o n1 n2 n3 n4 q=>t5.extBut _ _ n1 (t4 _ _ n4 (t3.extBut _ _ n2 (t2.extBut _ _ n3 (t1.extBut _ _ n1 q))))) ⟨oe,t5.extBut _ _ hez hoe,hce⟩
end
abbrev SM (h:Heap) (j1:Obj):Heap:=h.push j1
abbrev SN (h:Heap) (j1 j2:Obj):Heap:=(SM h j1).push j2
abbrev SQ (h:Heap) (j1 j2:Obj):Heap:=(SN h j1 j2).push { cls:= .type "tuple",data:= .seq #[.ref h.objs.size, .ref (SM h j1).objs.size] }
abbrev SX (h:Heap) (j1 j2:Obj):Heap:=(SQ h j1 j2).push { cls:= .type "tuple",data:= .seq #[.none, .none] }
abbrev Oo (h:Heap) (j1 j2:Obj):Heap:=(SX h j1 j2).push { cls:= .type "zip",data:= .fields #[.none, .bool false, .bool false, .ref (SN h j1 j2).objs.size, .ref (SQ h j1 j2).objs.size] }
abbrev lB (l:Addr):Obj:={ cls:= .type "tuple_iterator",data:= .fields #[.ref l, .int 0 0] }
def PK (K:W.Frag) (a b:Addr):It:=
 ⟨λ i H=> ∃xs ys x y,SqT K H a xs/\SqL K H b ys/\xs[i]? =some x/\ys[i]? =some y,
  λ i H v H'=> ∃p x y,H p=none/\v= .ref p/\H'=upd H p (.tup [x,y])/\(∀xs,SqT K H a xs->xs[i]? =some x)/\ ∀ys,SqL K H b ys->ys[i]? =some y,
  λ i H=> ∃xs ys,SqT K H a xs/\SqL K H b ys/\(xs.length<=i\/ys.length<=i)⟩
structure ZipStT (z TI TO i1 i2 a b:Addr) (i:Nat) (h:Heap):Prop where
 hz:IsZip h z TI TO .none
 hTI:IsPair h TI (.ref i1) (.ref i2)
 hTO: ∃u v,IsPair h TO u v
 h1:h.IsTupleIter i1 a i
 h2:h.IsListIter i2 b i
 aTO:a≠TO
theorem jm {h:Heap} {a c:Addr} {o o':Obj} (e:h.get? a=some o) (e':h.get? c=some o') (n:o.cls≠o'.cls):a≠c:=λ q=>by
 subst q;rw [e] at e';cases e';exact n rfl
def Vd (K:W.Frag) (ta:TA):TI:=λ Z H R=>ta Z H λ vs H1=> ∃a b xs ys,vs=[.ref a, .ref b]/\SqT K H1 a xs/\SqL K H1 b ys/\R (PK K a b) H1
def PN (lo:Int) (n:Nat):It:=⟨λ i _=>i<n,λ i H x H'=>H'=H/\x= .int (lo-i),λ i _=>n<=i⟩
def Ve (ta:TA):TI:=λ Z H R=>ta Z H λ vs H1=> ∃i j:Int,vs=[.int i, .int j, .int (-1)]/\(-(2^62)<=i/\i<2^62/\ -(2^62)<=j/\j<2^62)/\R (PN i (i-j).toNat) H1
end L2
namespace L2
open PySem
abbrev Ir:List V->Hp->VK->Prop:=λ xs H Q=>(∃i,xs=[.int i]/\Q (.int i) H)\/ ∃k,xs=[.bl k]/\Q (.int (if k then 1 else 0)) H
end L2
namespace L2
open PySem PySem.Spec PyProof.Rows
variable {tg:Expr} {v:Value} {w:World} {kvs:List (Key×V)} {es:Array DictEntry} {pins:List (Addr×Obj)}
abbrev PP:R2:=λ x y H Q=> ∃i j,x= .str i/\y= .str j/\Q (.bl (decide (j.cps.toList<i.cps.toList))) H
abbrev PQ:R2:=λ x y H Q=> ∃i j,x= .str i/\y= .str j/\Q (.bl (!(decide (i.cps.toList<j.cps.toList)))) H
def PX (K:W.Frag) (a:Addr) (n:Nat):It where
 go:=λ i H=> ∃xs x,SqL K H a xs/\xs.length=n/\i<n/\xs[n-1-i]? =some x
 yld:=λ i H x H'=>H'=H/\ ∀ys,SqL K H a ys->ys[n-1-i]? =some x
 stop:=λ i _=>i=n
def Vf (K:W.Frag) (ta:TA):TI:=λ Z H R=>ta Z H λ vs H1=> ∃a xs,vs=[.ref a]/\SqL K H1 a xs/\R (PX K a xs.length) H1
section
variable {P:Program} {w:World} {H:Hp} {h:Heap} {a:Addr} {kvs:List (Key×V)} {od:Obj}
theorem HOk.freezeK (x:HOk P w H h) (ea:H a=some (.dK kvs)) (eo:h.get? a=some od):HOk P w (upd H a (.frz od (.dK kvs))) h:=by
 have keepO: ∀c y,H c=some (.own y)->upd H a (.frz od (.dK kvs)) c=some (.own y):=λ c y q=>by
  rw [au (bx q ea (by intro z;cases z))];exact q
 have keepT: ∀c xs,H c=some (.tup xs)->upd H a (.frz od (.dK kvs)) c=some (.tup xs):=λ c xs q=>by
  rw [au (bx q ea (by intro z;cases z))];exact q
 intro b u e;by_cases hb:b=a
 .rw [hb] at e ⊢;rw [aa] at e
  cases e;exact ⟨eo,(x a _ ea).stay (λ c v _ q=>q) (λ c q=>keepO c _ q) λ c xs q=>keepT c xs q⟩
 .rw [au hb] at e;exact (x b u e).stay (λ c v _ q=>q) (λ c q=>keepO c _ q) λ c xs q=>keepT c xs q
theorem pairs_at {knd:PySem.KeyKind P w Key}: ∀ {es:List DictEntry} {us:List (Key×Value)} (i:Nat) (e:DictEntry),Pairs knd es us->es[i]? =some e-> ∃u,us[i]? =some u/\knd.is u.1 e.key=true
 | _,_,0,e, .cons r _ _,h=>by
  simp only [List.getElem?_cons_zero,Option.some.injEq] at h;subst h;exact ⟨_,rfl,r⟩
 | _,_,i+1,e, .cons _ _ t,h=>by
  simp only [List.getElem?_cons_succ] at h;obtain ⟨u,h1,h2⟩:=pairs_at i e t h;exact ⟨u,by simpa using h1,h2⟩
theorem pairs_len {knd:PySem.KeyKind P w Key}: ∀ {es:List DictEntry} {us:List (Key×Value)},Pairs knd es us->es.length=us.length
 | _,_, .nil=>rfl
 | _,_, .cons _ _ t=>by simp only [Yu,pairs_len t]
end
theorem FW {k:Key} (h:iM k v=true):RelV (kV k) v:=by
 rcases bG h with ⟨i,t,rfl,rfl⟩ | ⟨x,t,rfl,rfl⟩
 .exact ⟨t,rfl⟩
 .exact ⟨t,rfl⟩
theorem Inv.freezeK {X:Cx} {Z:St} {H:Hp} {s:Shared} {a:Addr} {od:Obj} (I:Inv X pins Z H s) (ea:H a=some (.dK kvs)) (eo:s.heap.get? a=some od):
  Inv X pins Z (upd H a (.frz od (.dK kvs))) s:=by
 refine I.call' (ch:=[]) rfl ⟨λ b o q _ _ _=>q,λ b o q _ _ _=>⟨o.slots,q⟩,λ b o q n _=> ?_,λ b o q _=>⟨o,q⟩,λ b xs q=> ?_,λ b o u q=> ?_,λ b ps q=>⟨#[],?_⟩⟩ (I.hok.freezeK ea eo) I.bare λ b hb=>nomatch hb
 .rw [au (λ z=>by rw [z,ea] at n;cases n)];exact n
 .rw [au (bx q ea (by intro z;cases z))];exact q
 .rw [au (bx q ea (by intro z;cases z))];exact q
 .rw [au (bx q ea (by intro z;cases z)),q];simp
def xQ (od:Obj) (a:Addr):It where
 go:=λ i H=> ∃kvs,H a=some (.frz od (.dK kvs))/\i<kvs.length
 yld:=λ i H v H'=>H'=H/\ ∀kvs,H a=some (.frz od (.dK kvs))-> ∃k x,kvs[i]? =some (k,x)/\v=kV k
 stop:=λ i H=> ∃kvs,H a=some (.frz od (.dK kvs))/\kvs.length<=i
theorem lC {P:Program} {K:W.Frag} (it a:Addr) {od:Obj} {ep:Nat} (hdd:od.data= .dict es ep):Turn P w K tg (xQ od a) [it] it (λ i h=>h.IsKeyIter it a i es.size ep) where
 mem:=by simp
 obj:=λ i h st b hb=>by
  obtain ⟨o,e,c,d⟩:=st;have e':b=it:=by simpa using hb
  rw [e'];exact ⟨o,e,λ v z=>by rw [d] at z;cases z⟩
 keep:=λ i h h' st k=>by
  obtain ⟨o,e,r⟩:=st;exact ⟨o,k it (by simp) o e,r⟩
 item:=by
  intro X hP hw hK hc i pins s Z H E I hf st hg;subst hP hw hK;obtain ⟨kvs,ea,hi⟩:=hg;obtain ⟨eo,_,_,us,rel,o,es',ep',e1,_,e3,_,e4,_⟩:=(show ObjOk X.prog X.w H s.heap a (.frz od (.dK kvs)) from I.hok a _ ea);rw [eo] at e1
  cases e1;rw [hdd] at e3
  cases e3;have hsz:es.size=us.length:=by rw [<- Xm];exact pairs_len e4
  have hl:kvs.length=us.length:=Wp rel;obtain ⟨f0,f1,f2,f3,f4,f5⟩:=hf it (by simp);refine lq st eo hdd (by rfl') λ h' st' hs=> ?_
  have I1:Inv X pins Z H { s with heap:=h',toks:=s.toks }:=I.turned (λ b o hb e=>hs.extBut b o hb e) f0 f1 f3 f4 f5;obtain ⟨o,e,hcl,d⟩:=id st';obtain ⟨⟨k,x⟩,⟨k',y⟩,hk,hx,r1,_⟩:=fC i rel hi;have hes:RelV (kV k) (es[i]'(by rfl')).key:=by
   obtain ⟨u,h1,h2⟩:=pairs_at i (es[i]'(by rfl')) e4 (by rw [Xf,Wt]);rw [hx] at h1
   cases h1;rw [sV] at h2;rw [show k=k' from r1];exact FW h2
  refine ⟨_,rfl,qp (s:={ s with heap:=h' }) e hcl d (by decide) ⟨kV k,H,I1,hes,⟨rfl,λ kvs' q=> ?_⟩,st',λ b hb=>(hf b hb).1⟩⟩;rw [ea] at q
  cases q;exact ⟨k,x,hk,rfl⟩
 done:=by
  intro X hP hw hK hc i pins s Z H E I hf st hg;subst hP hw hK;obtain ⟨kvs,ea,hi⟩:=hg;obtain ⟨eo,_,_,us,rel,o,es',ep',e1,_,e3,_,e4,_⟩:=(show ObjOk X.prog X.w H s.heap a (.frz od (.dK kvs)) from I.hok a _ ea);rw [eo] at e1
  cases e1;rw [hdd] at e3
  cases e3;have hsz:es.size=us.length:=by rw [<- Xm];exact pairs_len e4
  have hl:kvs.length=us.length:=Wp rel;obtain ⟨f0,f1,f2,f3,f4,f5⟩:=hf it (by simp);exact oX (I.ok.hd hc) st eo hdd (by rfl') λ h' kk=>⟨rfl,I.turned (t':=s.toks) (λ b o hb e=>kk b o hb e) f0 f1 f3 f4 f5⟩
 self:=λ _ _ _ _ _ st h=>wpAny_pyIter_keyiter st h
def tY (tl:TE):TI:=λ Z H R=>tl Z H λ x H1=> ∃a kvs,x= .ref a/\((H1 a=some (.dK kvs)/\ ∀od,R (xQ od a) (upd H1 a (.frz od (.dK kvs))))\/ ∃od,H1 a=some (.frz od (.dK kvs))/\R (xQ od a) H1)
theorem zU {X:Cx} {l:Expr} {tl:TE} (hl:PE X l tl):PI X tg l (tY tl):=by
 intro pins s Z H R I h;refine bB (hl pins s Z H _ I h) λ v s1 ⟨x,H1,I1,r1,q1⟩=> ?_
 obtain ⟨a,kvs,rfl,q⟩:=q1
 cases r1;rcases q with ⟨ea,q⟩ | ⟨od,ea,q⟩
 .obtain ⟨_,hsm,us,rel,o,es,ep,e1,ex,e3,_,e4,_⟩:=(show ObjOk X.prog X.w H1 s1.heap a (.dK kvs) from I1.hok a _ ea);refine j5 hsm ⟨o,e1,ex.1⟩ e1 e3 ?_;have IF:=I1.freezeK ea e1;refine ⟨s1.heap.objs.size,[s1.heap.objs.size],_,_,_,rfl,IF.kept (t':=s1.toks) λ b o e=>Zf _ e,lC _ a e3,⟨_,Zt _ rfl,rfl,rfl⟩,λ b hb=> ?_,q o⟩;rw [Za.mp hb];exact IF.fpOk (Zk _) (IF.hok.fresh (Zk _))
 .obtain ⟨eo,_,hsm,us,rel,o,es,ep,e1,ex,e3,_,e4,_⟩:=(show ObjOk X.prog X.w H1 s1.heap a (.frz od (.dK kvs)) from I1.hok a _ ea);rw [eo] at e1
  cases e1;refine j5 hsm ⟨od,eo,ex.1⟩ eo e3 ?_;refine ⟨s1.heap.objs.size,[s1.heap.objs.size],_,_,_,rfl,I1.kept (t':=s1.toks) λ b o e=>Zf _ e,lC _ a e3,⟨_,Zt _ rfl,rfl,rfl⟩,λ b hb=> ?_,q⟩;rw [Za.mp hb];exact I1.fpOk (Zk _) (I1.hok.fresh (Zk _))
def K9 (K:W.Frag):V->List V->Hp->VK->Prop:=λ x vs H Q=> ∃ (s:Str) (a:Addr) (ys:List Str),x= .str s/\vs=[.ref a]/\SqL K H a (ys.map V.str)/\(ys.map (·.length)).sum+ys.length*s.length<=16777216/\Q (.str (Txt.join s ys.reverse)) H
section
variable {X:Cx}
def VP (K:W.Frag) (to:TE) (t:TA):TE:=λ Z H Q=>to Z H λ x H1=>JL K "str" x H1/\t Z H1 λ xs H2=>K9 K x xs H2 Q
end
def U0 (B:Heap) (l:List Env) (x:Addr) (C a0:Value) (h:Heap):Prop:=B.StaysIn h/\B.get? x=none/\h.FunFrames B l/\ ∃fl,h.TracedAtW B x C a0 fl
structure Air (P:Program) (w:World) (fp:List Addr) (outer:List Env) (H:Hp) (s:Shared) (E:XK) (x:Addr) (C a0:Value) (B:Heap) (H':Hp) (s':Shared):Prop where
 os:s'.os=s.os
 bare:AllBare s'.gens
 un:Un (frs outer) fp H H' s.heap s'.heap
 hok:HOk P w H' s'.heap
 nx:H' x=none
 air:U0 B outer x C a0 s'.heap
 new:x∈fp\/s.heap.get? x=none
 d1: ∀b o,s.heap.get? b=some o->b∉frs outer->b∉fp-> ∃u,B.get? b=some u
 d2: ∀b o,H' b=some o-> ∃u,B.get? b=some u
 ex:E C none H'
end L2
end
section
namespace PySem
open PyProof.Rows
section
variable {prog:Program} {w:World} {A:Around} {E:Value->Shared->Prop} {s:Shared}
def Heap.IsRevT (h:Heap) (a t:Addr) (i:Int):Prop:= ∃o,h.get? a=some o/\o.cls= .type "reversed"/\o.data= .fields #[.ref t,rawInt i]
end
end PySem
namespace L2
open PySem PySem.Spec PyProof.Rows
variable {k:Nat} {ta:TA} {w:World} {A:Around} {a b:Expr} {i1 i2 z:Addr} {prog:Program} {elts:List Expr} {p pos tpos:Pos} {pins:List (Addr×Obj)} {E Q:Value->Shared->Prop}
def Q0 (K:W.Frag) (a:Addr) (n:Nat):It where
 go:=λ i H=> ∃xs x,SqT K H a xs/\xs.length=n/\i<n/\xs[n-1-i]? =some x
 yld:=λ i H x H'=>H'=H/\ ∀ys,SqT K H a ys->ys[n-1-i]? =some x
 stop:=λ i _=>i=n
def Vg (K:W.Frag) (ta:TA):TI:=λ Z H R=>ta Z H λ vs H1=> ∃a xs,vs=[.ref a]/\SqT K H1 a xs/\R (Q0 K a xs.length) H1
def Vh (K:W.Frag) (a:Addr) (o:Nat):It:=
 ⟨λ i H=> ∃xs x,SqL K H a xs/\xs[i]? =some x,
  λ i H v H'=> ∃p x,H p=none/\v= .ref p/\H'=upd H p (.tup [.int ((i+o:Nat):Int),x])/\ ∀xs,SqL K H a xs->xs[i]? =some x,
  λ i H=> ∃xs,SqL K H a xs/\xs.length=i⟩
structure EnSf (e it a:Addr) (o i:Nat) (h:Heap):Prop where
 he: ∃old,IsEnum h e it ((i+o:Nat):Int) old
 h1:h.IsListIter it a i
def U3 (K:W.Frag) (ta tk:TA):TI:=λ Z H R=>ta Z H λ vs H1=>tk Z H1 λ ks H2=> ∃a xs o,vs=[.ref a]/\ks=[.int ((o:Nat):Int)]/\o<=1000000000/\SqL K H2 a xs/\R (Vh K a o) H2
def VR (r:V->V->Hp->VK->Prop) (ta tk:TA):TE:=λ Z H Q=>ta Z H λ vs H1=>tk Z H1 λ ks H2=> ∃x y,vs=[x]/\ks=[y]/\r x y H2 Q
theorem p6 (l1 l2:Addr) (xs ys:Array Value):
  Meets (Builtin.«zip.__new__» ⟨[.type "zip", .ref l1, .ref l2],[]⟩) (λ _ R s=>s.heap.IsTuple l1 xs/\s.heap.IsTuple l2 ys/\
   R (.ok (.ret (.ref (SX s.heap (lB l1) (lB l2)).objs.size))) { s with heap:=Oo s.heap (lB l1) (lB l2) }):=
 .of_wp λ prog w A R s h=>by
  obtain ⟨hp,g,d,tk,os⟩:=s;obtain ⟨k1,k2,h⟩:=h;have hsub:=sub_zip;have e1:Heap.IsTuple (Shared.heap ⟨hp,g,d,tk,os⟩) l1 xs:=k1;have e2:Heap.IsTuple (Shared.heap ⟨hp.push (lB l1),g,d,tk,os⟩) l2 ys:=Heap.IsTuple.push k2 _
  wp_walk using wpAny_pyIter_tuple e1,wpAny_pyIter_tuple e2
  exact ⟨_,rfl,h⟩
theorem qQ {s:Shared} {l1 l2:Addr} {xs ys:Array Value} (k1:s.heap.IsTuple l1 xs) (k2:s.heap.IsTuple l2 ys)
  (h: ∀h',IsZip h' (s.heap.objs.size+4) (s.heap.objs.size+2) (s.heap.objs.size+3) .none->IsPair h' (s.heap.objs.size+2) (.ref s.heap.objs.size) (.ref (s.heap.objs.size+1))->
   IsPair h' (s.heap.objs.size+3) .none .none->h'.IsTupleIter s.heap.objs.size l1 0->h'.IsTupleIter (s.heap.objs.size+1) l2 0->
   (∀c o,s.heap.get? c=some o->h'.get? c=some o)->Q (.ref (s.heap.objs.size+4)) { s with heap:=h' }):
  wpAny (model prog w) A (call (.type "zip") [.ref l1, .ref l2]) Q E s:=by
 refine callType_new F.called_zip (by decide) (F.typeCall_zip_2 _ _) (F.newCall_zip_2 _ _) (λ obj=>F.args_object_init_3 obj _ _) F.entry_zip_new (p6 l1 l2 xs ys) ⟨k1,k2,?_⟩;generalize hj1:lB l1=j1;generalize hj2:lB l2=j2;have f1:Obj.isFreed j1=false:=by rw [<- hj1];rfl
 have f2:Obj.isFreed j2=false:=by rw [<- hj2];rfl
 have z1:(SM s.heap j1).objs.size=s.heap.objs.size+1:=Heap.size_push ..;have z2:(SN s.heap j1 j2).objs.size=s.heap.objs.size+2:=by rw [Heap.size_push,z1]
 have z3:(SQ s.heap j1 j2).objs.size=s.heap.objs.size+3:=by rw [Heap.size_push,z2]
 have z4:(SX s.heap j1 j2).objs.size=s.heap.objs.size+4:=by rw [Heap.size_push,z3]
 have up: ∀ {c o} {h:Heap} {u:Obj},h.get? c=some o->(h.push u).get? c=some o:=λ e=>Zf _ e
 have g5:(Oo s.heap j1 j2).get? (SX s.heap j1 j2).objs.size=some _:=Zt _ rfl;have g4:(Oo s.heap j1 j2).get? (SQ s.heap j1 j2).objs.size=some _:=up (Zt _ rfl);have g3:(Oo s.heap j1 j2).get? (SN s.heap j1 j2).objs.size=some _:=up (up (Zt _ rfl));have g2:(Oo s.heap j1 j2).get? (SM s.heap j1).objs.size=some j2:=up (up (up (Zt _ f2)));have g1:(Oo s.heap j1 j2).get? s.heap.objs.size=some j1:=up (up (up (up (Zt _ f1))));show _/\_;rw [z2,z3,z4] at g5;rw [z1,z2] at g3;rw [z3] at g4;rw [z1] at g2;rw [z4];exact ⟨⟨_,g5,rfl⟩,h _ g5 g3 g4 ⟨_,g1,by subst hj1;rfl,by subst hj1;rfl⟩ ⟨_,g2,by subst hj2;rfl,by subst hj2;rfl⟩ λ c o x=>up (up (up (up (up x))))⟩
def Ka (K:W.Frag) (a b:Addr):It:=
 ⟨λ i H=> ∃xs ys x y,SqT K H a xs/\SqT K H b ys/\xs[i]? =some x/\ys[i]? =some y,
  λ i H v H'=> ∃p x y,H p=none/\v= .ref p/\H'=upd H p (.tup [x,y])/\(∀xs,SqT K H a xs->xs[i]? =some x)/\ ∀ys,SqT K H b ys->ys[i]? =some y,
  λ i H=> ∃xs ys,SqT K H a xs/\SqT K H b ys/\(xs.length<=i\/ys.length<=i)⟩
structure ZipStU (z TI TO i1 i2 a b:Addr) (i:Nat) (h:Heap):Prop where
 hz:IsZip h z TI TO .none
 hTI:IsPair h TI (.ref i1) (.ref i2)
 hTO: ∃u v,IsPair h TO u v
 h1:h.IsTupleIter i1 a i
 h2:h.IsTupleIter i2 b i
 aTO:a≠TO
 bTO:b≠TO
theorem lD {X:Cx} {Z:St} {H:Hp} {s:Shared} {a b TI TO:Addr} {i:Nat} {xs ys:List V} (D:ZipNe z TI TO i1 i2) (I:Inv X pins Z H s) (hxs:SqT X.K H a xs) (hys:SqT X.K H b ys) (st:ZipStU z TI TO i1 i2 a b i s.heap):ZipApart z TI TO i1 i2 a b:=by
 obtain ⟨hz,hTI,⟨u0,v0,hTO⟩,⟨o1,e1,c1,_⟩,⟨o2,e2,c2,_⟩,aTO,bTO⟩:=st;obtain ⟨its,rv,⟨oa,ea,ca,_⟩,_⟩:=I.tuple hxs;obtain ⟨its2,rv2,⟨ob,eb,cb,_⟩,_⟩:=I.tuple hys;exact ⟨D.TIz,D.TOz,D.i1z,D.i2z,D.TITO,D.TIi1,D.TIi2,D.TOi1,D.TOi2,D.i12,
  jm ea hz (by rw [ca];show Value.type "tuple"≠Value.type "zip";decide),aTO,jm ea e1 (by rw [ca,c1];decide),jm ea e2 (by rw [ca,c2];decide),
  jm eb hz (by rw [cb];show Value.type "tuple"≠Value.type "zip";decide),bTO,jm eb e1 (by rw [cb,c1];decide),jm eb e2 (by rw [cb,c2];decide)⟩
theorem xR {P:Program} {K:W.Frag} {TI TO:Addr} (a b:Addr) (D:ZipNe z TI TO i1 i2):
  Turn P w K (.Tuple elts k tpos) (Ka K a b) [z,TI,TO,i1,i2] z (ZipStU z TI TO i1 i2 a b) where
 mem:=by simp
 obj:=λ i h st c hc=>by
  obtain ⟨hz,hTI,⟨u,v,hTO⟩,⟨o1,e1,c1,d1⟩,⟨o2,e2,c2,d2⟩,_,_⟩:=st;simp only [Zm,Yq,Xz] at hc;rcases hc with rfl | rfl | rfl | rfl | rfl
  .exact ⟨_,hz,λ v z=>by cases z⟩
  .exact ⟨_,hTI,λ v z=>by cases z⟩
  .exact ⟨_,hTO,λ v z=>by cases z⟩
  .exact ⟨o1,e1,λ v z=>by rw [d1] at z;cases z⟩
  .exact ⟨o2,e2,λ v z=>by rw [d2] at z;cases z⟩
 keep:=λ i h h' st kk=>by
  obtain ⟨hz,hTI,⟨u,v,hTO⟩,h1,h2,aTO,bTO⟩:=st;exact ⟨kk z (by simp) _ hz,kk TI (by simp) _ hTI,⟨u,v,kk TO (by simp) _ hTO⟩,h1.at λ o e=>kk i1 (by simp) o e,h2.at λ o e=>kk i2 (by simp) o e,aTO,bTO⟩
 item:=by
  intro X hP hw hK hc i pins s Z H E I hf st hg;subst hP hw hK;obtain ⟨xs,ys,x,y,hxs,hys,hx,hy⟩:=hg;have DA:=lD D I hxs hys st;obtain ⟨its,rv,p,_⟩:=I.tuple hxs;obtain ⟨its2,rv2,p2,_⟩:=I.tuple hys;obtain ⟨u,hu,ru⟩:=rv.get hx;obtain ⟨v,hv,rv'⟩:=rv2.get hy;obtain ⟨hz,hTI,⟨u0,v0,hTO⟩,h1,h2,aTO,bTO⟩:=id st;refine xP DA (jQ DA.l1i1) (jQ DA.l2i2) hz hTI hTO ⟨h1,(show s.heap.IsTuple a its.toArray from p)⟩ ⟨h2,(show s.heap.IsTuple b its2.toArray from p2)⟩ (x:=u) (y:=v) (by simpa using hu) (by simpa using hv) λ h' a1 a2 a3 a4 a5 a7=> ?_
  refine ⟨_,rfl,wpAny_letOwnedTupleGo_zip a1 λ h'' b1 hs=> ?_⟩;have hT:s.heap.objs.size≠z:=Nat.ne_of_gt (Zp hz);have kk: ∀c o,c∉[z,TI,TO,i1,i2]->s.heap.get? c=some o->h''.get? c=some o:=λ c o hc' e=>by
   simp only [Zm,Yq,Xz,not_or] at hc';exact hs.extBut _ _ hc'.1 (a7 c o hc'.1 hc'.2.2.1 hc'.2.2.2.1 hc'.2.2.2.2 e)
  have I1:Inv X pins Z H { s with heap:=h'',toks:=s.toks }:=I.turnedAll kk hf;have hnew:H s.heap.objs.size=none:=I.hok.fresh (Zk _);have e5:h''.get? s.heap.objs.size=some { cls:= .type "tuple",data:= .seq #[u,v] }:=hs.extBut _ _ hT a5;have hTI':IsPair h'' TI (.ref i1) (.ref i2):=hs.extBut _ _ D.TIz (a7 _ _ D.TIz D.TITO D.TIi1 D.TIi2 hTI);have un:Un (frs X.stack) [z,TI,TO,i1,i2] H (upd H s.heap.objs.size (.tup [x,y])) s.heap h'':=
   ⟨λ b o q _ _ hx=>kk b o hx q,λ b o q _ _ hx=>⟨o.slots,kk b o hx q⟩,λ b o q n _=>by rw [au (Yo (Zp q))];exact n,λ b o q hx=>⟨o,kk b o hx q⟩,
    λ b xs q=>by rw [au (aO q hnew)];exact q,λ b o x q=>by rw [au (aO q hnew)];exact q,λ b ps q=>⟨#[],by rw [au (aO q hnew),q];simp⟩⟩
  have hok:HOk X.prog X.w (upd H s.heap.objs.size (.tup [x,y])) h'':=HOk.track I1.hok hnew ⟨by show 2<=sizeLine;decide,[u,v], .cons ru (.cons rv' .nil),_,e5,rfl,_,rfl⟩;have I2:Inv X pins Z (upd H s.heap.objs.size (.tup [x,y])) { s with heap:=h'' }:=I.call' (s':={ s with heap:=h'' }) rfl un hok I.bare λ c hc'=>⟨(hf c hc').2.2.2.1,(hf c hc').2.1,(hf c hc').2.2.2.2⟩
  refine ⟨.ref s.heap.objs.size,_,I2,rfl,⟨_,x,y,hnew,rfl,rfl,λ xs' h=>by rw [I.tuple_inj h hxs];exact hx,λ ys' h=>by rw [I.tuple_inj h hys];exact hy⟩,⟨b1,hTI',⟨u,v,hs.extBut _ _ D.TOz a2⟩,a3.1.extBut hs.extBut D.i1z,a4.1.extBut hs.extBut D.i2z,aTO,bTO⟩,λ c hc'=> ?_⟩;have hlt:c<s.heap.objs.size:=by
   obtain ⟨⟨o1,e1,_⟩,⟨o2,e2,_⟩⟩:=(⟨h1,h2⟩:_/\_);simp only [Zm,Yq,Xz] at hc';rcases hc' with rfl | rfl | rfl | rfl | rfl
   .exact Zp hz
   .exact Zp hTI
   .exact Zp hTO
   .exact Zp e1
   .exact Zp e2
  rw [au (Yo hlt)];exact (hf c hc').1
 done:=by
  intro X hP hw hK hc i pins s Z H E I hf st hg;subst hP hw hK;obtain ⟨xs,ys,hxs,hys,hend⟩:=hg;have DA:=lD D I hxs hys st;obtain ⟨its,rv,p,_⟩:=I.tuple hxs;obtain ⟨its2,rv2,p2,_⟩:=I.tuple hys;obtain ⟨hz,hTI,⟨u0,v0,hTO⟩,h1,h2,aTO,bTO⟩:=id st;have hl1:=rv.length;have hl2:=rv2.length;refine zT (I.ok.hd hc) DA (jQ DA.l1i1) (jQ DA.l2i2) hz hTI hTO ⟨h1,(show s.heap.IsTuple a its.toArray from p)⟩ ⟨h2,(show s.heap.IsTuple b its2.toArray from p2)⟩ ?_ λ h' kk=> ?_
  .rcases hend with q | q
   .left;simp;rfl'
   .right;simp;rfl'
  .refine ⟨rfl,I.turnedAll (t':=s.toks) (λ c o hc' e=> ?_) hf⟩;simp only [Zm,Yq,Xz,not_or] at hc';exact kk c o hc'.1 hc'.2.2.1 hc'.2.2.2.1 hc'.2.2.2.2 e
 self:=λ _ _ _ _ _ st h=>wpAny_pyIter_zip st.hz h
def vW (K:W.Frag) (ta:TA):TI:=λ Z H R=>ta Z H λ vs H1=> ∃a b xs ys,vs=[.ref a, .ref b]/\SqT K H1 a xs/\SqT K H1 b ys/\R (Ka K a b) H1
theorem FZ {X:Cx} (hg:Gl X "zip") (hc:X.calm=true) (hm:X.mg "zip"=none) (ha:PA X [a,b] ta) (hs:starEach [a,b] X.env=[(false,eval a X.env),(false,eval b X.env)]:=by rfl) (hs2:starEach [b] X.env=[(false,eval b X.env)]:=by rfl):
  PI X (.Tuple elts k tpos) (.Call (.Name "zip" p) [a,b] [] pos) (vW X.K ta):=by
 intro pins s Z H R I h;refine Call_ (jh I hg hm (show bootBuiltins "zip"=some (.type "zip") by ac_nf) (PyProof.Rows.callWith_type1 (bB (ha pos pins s Z H _ I h) λ us s1 ⟨vs,H1,I1,r1,q1⟩=> ?_) (by rw [hs,hs2]) (by rw [hs2];rfl)));obtain ⟨la,lb,xs,ys,e,hxs,hys,q⟩:=q1;subst e
 cases r1 with
 | cons r rr=>
  cases rr with
  | cons r' rr=>
   cases rr
   cases r
   cases r';obtain ⟨its,rv,p1,_⟩:=I1.tuple hxs;obtain ⟨its2,rv2,p2,_⟩:=I1.tuple hys;have hla:la<s1.heap.objs.size:=by obtain ⟨o,e,_⟩:=p1;exact Zp e
   have hlb:lb<s1.heap.objs.size:=by obtain ⟨o,e,_⟩:=p2;exact Zp e
   refine qQ (show s1.heap.IsTuple la its.toArray from p1) (show s1.heap.IsTuple lb its2.toArray from p2) λ h' z1 z2 z3 z4 z5 kk=> ?_
   refine wpAny_pyIter_zip z1 ?_;refine ⟨s1.heap.objs.size+4,[s1.heap.objs.size+4,s1.heap.objs.size+2,s1.heap.objs.size+3,s1.heap.objs.size,s1.heap.objs.size+1],_,_,H1,rfl,I1.kept (t':=s1.toks) kk,xR la lb ⟨?_,?_,?_,?_,?_,?_,?_,?_,?_,?_⟩,⟨z1,z2,⟨_,_,z3⟩,z4,z5,Yo (Yc hla (Ws _ _)),Yo (Yc hlb (Ws _ _))⟩,λ c hc'=> ?_,q⟩;all_goals first
    | (show (_:Nat)≠_;rfl')
    | skip
   have hle:s1.heap.objs.size<=c:=by
    simp only [Zm,Yq,Xz] at hc';rcases hc' with rfl | rfl | rfl | rfl | rfl<;>(show (_:Nat)<=_;rfl')
   exact I1.fpOk hle (I1.hok.fresh hle)
theorem zV {X:Cx} (K:W.Frag) (hK:X.K=K) (hg:Gl X "zip") (hc:X.calm=true) (hm:X.mg "zip"=none) (ha:PA X [a,b] ta) (hs:starEach [a,b] X.env=[(false,eval a X.env),(false,eval b X.env)]:=by rfl) (hs2:starEach [b] X.env=[(false,eval b X.env)]:=by rfl):
  PI X (.Tuple elts k tpos) (.Call (.Name "zip" p) [a,b] [] pos) (vW K ta):=by subst hK;exact FZ hg hc hm ha hs hs2
def Vi (te:TE):TE:=λ Z H Q=>te Z H λ x H1=> ∃n:Nat,x= .int (n:Int)/\n<=1000000/\ ∀p,H1 p=none->Q (.ref p) (upd H1 p (.tup ((List.range n).map λ i:Nat=>V.int (i:Int))))
end L2
end
section
namespace HT
open PySem PySem.Spec PyProof.Rows
variable {w:World} {A:Around} {prog:Program} {items:Array Value} {E Q:Value->Shared->Prop}
theorem iu {s:Shared} {t sl:Addr} {vl vu:Value} {lo hi:Option Int} (ht:IsTup s.heap t items) (hs:s.heap.IsSliceOf sl vl vu .none) (pl:IsPart vl lo) (pu:IsPart vu hi)
  (h0:cP items.size 0 lo=0) (h1:cP items.size items.size hi=items.size) (h:Q (.ref t) s):wpAny (model prog w) A (getItem (.ref t) (.ref sl)) Q E s:=by
 obtain ⟨os,hos,hcs,hds⟩:=id hs;have hTs:s.TypeIs (.ref sl) "slice":=⟨os,hos,hcs⟩;unfold getItem;try with_reducible refine Xg ?_
 first | refine Qb (Zc ?_) | skip
 refine Qb (wpAny_sequenceKey ht.typeIs (by decide) ?_);refine Qb (wpAny_callSpecial?_slot (name:=Str.ofString "__getitem__") ht.typeIs PyProof.Rows.slot_tuple_getitem (Yv PyProof.Rows.slot_tuple_getitem ht.typeIs entry_tuple_getitem ?_ (args_tuple_getitem _ _)));show wpAny _ _ (Builtin.Tuple.tupleItemsOf (.ref t) >>= _) _ _ s;refine Qb (tupleItemsOf_ ht (Qb (wpAny_typeOf hTs ?_)));rw [if_pos (by decide)];refine Qb (fB hs pl pu ?_);show wpAny _ _ (if (((cP items.size 0 lo:Nat):Int)==0&&(1:Int)==1&&(cP items.size items.size hi-cP items.size 0 lo)==items.size)=true then _ else _) _ _ s;rw [if_pos (by rw [h0,h1];simp)];have hT:s.TypeIs (.ref t) "tuple":=ht.typeIs;refine Qb ?_;unfold Builtin.Tuple.tupleIsExact;refine Qb (wpAny_typeOf hT (Zc ?_));rw [if_pos (by decide)];exact Qb (wpAny_rule (Zc ⟨_,rfl,Zc h⟩))
end HT
namespace L2
open PySem PySem.Spec PyProof.Rows
def qR (K:W.Frag):V->Option Int->Option Int->Hp->VK->Prop:=λ x lo hi H Q=> ∃a xs,x= .ref a/\SqT K H a xs/\ ∀p H',(p=a/\H'=H/\dU xs lo hi=xs\/H p=none/\H'=upd H p (.tup (dU xs lo hi)))->SqT K H' p (dU xs lo hi)->Q (.ref p) H'
theorem G4 {X:Cx}:Ii X (qR X.K):=by
 intro pins s Z H x v vl vu lo hi sl Q I rx hs pl pu h;obtain ⟨a,xs,rfl,hx,q⟩:=h;by_cases c:HT.cP xs.length 0 lo=0/\HT.cP xs.length xs.length hi=xs.length
 .cases rx;obtain ⟨its,r,ht,hz⟩:=I.tuple hx;have hlen:its.toArray.size=xs.length:=by rw [Zu];exact r.length.symm
  refine ⟨"tuple",_,PyProof.Rows.slot_tuple_getitem.lookup,ht.typeIs,?_⟩;have e:dU xs lo hi=xs:=by
   unfold dU;rw [c.1,c.2,List.drop_zero,Nat.sub_zero,Xh]
  refine HT.iu ht hs pl pu (by rw [hlen];exact c.1) (by rw [hlen];exact c.2) ⟨.ref a,H,I,rfl,q a H (.inl ⟨rfl,rfl,e⟩) ?_⟩;rw [e];exact hx
 .exact yZ pins s Z H (.ref a) v vl vu lo hi sl Q I rx hs pl pu ⟨a,xs,rfl,hx,c,λ p hp=>q p _ (.inr ⟨hp,rfl⟩) (SqT.of aa)⟩
theorem j6 {X:Cx} (K:W.Frag) (hK:X.K=K):Ii X (qR K):=hK▸G4
end L2
end
section
namespace L2
open PySem PySem.Spec PyProof.Rows PySem.W
variable {d:DefRec} {q:Program} {CX:World->yq} {sp:World->Sp} {loose:List Str} {YP:World->Heap->Prop} {XP:(Str->Option Value)->Heap->Prop}
abbrev p7:R2:=rI IntMulOk λ i j=> .int (i*j)
theorem vX {X:Cx}:ir X (binaryOp .Mult) p7:=Ju λ _ _ _ _ _ _ _ hc q=>mul_int q hc
theorem vY: ∀ (ns:List Int) (n:Int),n∈ns->Builtin.Int.intBits n<=WData.weightAll (ns.map WData.int)
 | m::r,n,h=>by
  have e:WData.weightAll ((m::r).map WData.int)=WData.weight (.int m)+1+WData.weightAll (r.map WData.int):=rfl;rw [e];rcases Zm.mp h with rfl | h
  .have:Builtin.Int.intBits n=WData.weight (.int n):=by simp only [WData.weight,Builtin.Int.intBits]
   rfl'
  .have:=vY r n h;rfl'
theorem qT {ns:List Int} (h:WData.layableAll [WData.list (ns.map WData.int)]=true) {n:Int} (hn:n∈ns):Builtin.Int.intBits n<=2^20:=by
 have h1:WData.layable (WData.list (ns.map WData.int))=true:=by simpa [WData.layableAll] using h
 unfold WData.layable at h1;simp only [Xo,decide_eq_true_eq] at h1;have h2:WData.weight (WData.list (ns.map WData.int))=WData.weightAll (ns.map WData.int):=by simp only [WData.weight]
 have h3:=h1.2;rw [h2] at h3;exact Yg (vY ns n hn) h3
theorem xT {l:OpenLaw} {n k:Nat} {K:Params->Frag}
  {x:Str} (hn:l.most=some n) (hn2:n<=sizeLine) (hdf:d.params.defaults=[]) (hr:Room k callerA) (hY: ∀w h,YP w h->(K w.params).In h)
  (F: ∀ (w:World) (mg:Str->Option Value) (fa:Addr) (h:Heap),(K w.params).In h->h.Ns mainGlobals mg->mg d.name=some (.ref fa)-> ∃fd:FuncData,
   (∀ (s:Shared) (u:Value),BindsTo s fd ⟨[u],[]⟩ [(x,u)])/\ ∀base:Heap,(K w.params).In base->base.Ns mainGlobals mg->FnOk l.prog w (K w.params) mg base (CX w) k fa fd [x] (sp w))
  (hsp: ∀ (w:World) (H:Hp) (a:Addr) (ns:List Int),ns.length<=n->(∀i∈ns,Builtin.Int.intBits i<=2^20)->Only H->SqL (K w.params) H a (ns.map V.int)->
   sp w [.ref a] H (λ v _=>v= .bl true) λ _ _ _=>False)
  (hCX: ∀ (w:World) (H:Hp) (s:Shared) (e:Value) (s':Shared),CX w [] H s (λ _ _ _=>False) e s'->False):WalkO q loose XP YP l.row.toRowW d [] (λ f vs=>PySem.call f vs):=by
 intro w s₀ s₁ mg mb G Y fa o pm cd doc dV kV ho hd hcd hD hmg hg args vals as hpre hlay hrd hwl hlo
 cases Dflts.none hD hdf;cases Dflts.noKw hD;obtain ⟨a,vs,ns,rfl,rfl,hobj,hints,hlen⟩:=Att.xu hn hpre hwl;have hb:=λ i (hi:i∈ns)=>qT hlay hi
 have KX:=hY w _ Y;obtain ⟨fd,hbd,hF⟩:=F w mg fa _ KX G.T.g hmg;have C:=zc KX G.T.g G.T.b G.T.builtins G.T.nolimit hg hobj hints (Yg hlen hn2) hr hF hbd (λ H hO hS=>hsp w H a ns hlen hb hO hS) λ H e s'=>hCX w H s₁ e s'
 refine enter_call (codeAny_mono C λ r s' hq=> ?_);obtain ⟨rfl,h2,h3,h4⟩:=hq;refine ⟨.inl ⟨.bool true, .bool true,[],rfl,λ _=>rfl, .bool true,Att.xx l _,λ _=>⟨.nil,λ _ hm=>(nomatch hm)⟩⟩,h2,h3,h4⟩
end L2
end
section
namespace Sm
open PySem PyProof.Rows Sx
variable {z:SortSt} {x y:Keyed} {bv:Nat->Bool} {p:Keyed->Bool} {a0:Array Keyed} {ac bc mg n:Nat} {Q:Array Keyed->SortSt->Prop} {A1 A2 A3 B1 B2 L1 S m:List Keyed}
def ph:Bool->Keyed->Array Keyed->Nat->Nat->Nat->StateT SortSt Sem (Option Nat):=sortPriv%PySem.Builtin.gallop
def Kc:Array Keyed->Array Keyed->StateT SortSt Sem (Array Keyed):=sortPriv%PySem.Builtin.mergeLo
def Kd:Array Keyed->Array Keyed->StateT SortSt Sem (Array Keyed):=sortPriv%PySem.Builtin.mergeHi
def G5:Nat->StateT SortSt Sem Unit:=sortPriv%PySem.Builtin.setMinGallop
def Q3 (bey:Nat->StateT SortSt Sem (Option Bool)) (n lo hi:Nat):StateT SortSt Sem (Option Nat):=do
 let mut lo:=lo
 let mut hi:=hi
 for _ in [0:n] do
  if lo>=hi then break
  let m:=lo+(hi-lo) / 2
  let some mo <- bey m | return none
  if mo then lo:=m+1 else hi:=m
 return some hi
def Ke (bey:Nat->StateT SortSt Sem (Option Bool)) (n h:Nat):StateT SortSt Sem (Option Nat):=do
 let mut la:=0
 let mut of:=1
 let mut lo:=0
 let mut hi:=0
 let some rg <- bey h | return none
 if rg then
  let mx:=n-h
  for _ in [0:n] do
   if of>=mx then break
   let some mo <- bey (h+of) | return none
   if !mo then break
   la:=of
   of:=2*of+1
  lo:=h+la+1
  hi:=h+min of mx
 else
  let mx:=h+1
  for _ in [0:n] do
   if of>=mx then break
   let some fo <- bey (h-of) | return none
   if fo then break
   la:=of
   of:=2*of+1
  lo:=h+1-min of mx
  hi:=h-la
 for _ in [0:n] do
  if lo>=hi then break
  let m:=lo+(hi-lo) / 2
  let some mo <- bey m | return none
  if mo then lo:=m+1 else hi:=m
 return some hi
def Kf (lf:Bool) (ky:Keyed) (xs:Array Keyed) (b i:Nat):StateT SortSt Sem (Option Bool):=do
  let x <- elem' xs (b+i)
  if lf then lt' x ky else return (<- lt' ky x).map (!·)
theorem zW (lf:Bool) (ky:Keyed) (xs:Array Keyed) (b n h:Nat):ph lf ky xs b n h=Ke (Kf lf ky xs b) n h:=rfl
section
variable {prog:Program} {w:World} {A:Around} {E:Value->Shared->Prop} {s:Shared} {st:SortSt} {n:Nat} {bv:Nat->Bool} {bey:Nat->StateT SortSt Sem (Option Bool)} {Q:Option Nat->SortSt->Prop}
theorem qU (hb: ∀i,i<n-> ∀R:Option Bool->SortSt->Prop,R (some (bv i)) st->wpS (model prog w) A E s (bey i) R st)
  (mo: ∀i j,i<=j->j<n->bv j=true->bv i=true) {lo hi:Nat} (h1:lo<=hi) (h2:hi<=n) (t: ∀i,i<lo->bv i=true) (f: ∀i,hi<=i->i<n->bv i=false)
  (q: ∀k,k<=n->(∀i,i<k->bv i=true)->(∀i,k<=i->i<n->bv i=false)->Q (some k) st):wpS (model prog w) A E s (Q3 bey n lo hi) Q st:=by
 unfold Q3;dsimp only;refine Zy (wpS_mono (wpS_forRange (I:=λ x c z=>z=st/\ ∃l r,c=(none,l,r)/\l<=r/\r<=n/\r+x<=n+l/\(∀i,i<l->bv i=true)/\ ∀i,r<=i->i<n->bv i=false)
  (Q:=λ c z=>z=st/\ ∃l,c=(none,l,l)/\l<=n/\(∀i,i<l->bv i=true)/\ ∀i,l<=i->i<n->bv i=false)
  (λ x c z g1 g2 hI=> ?_) (λ c z hI=> ?_) ⟨rfl,lo,hi,rfl,h1,h2,by rfl',t,f⟩) λ c z hc=> ?_)
 .obtain ⟨rfl,l,r,rfl,hlr,hr,hx,tt,ff⟩:=hI;dsimp only;by_cases ge:l>=r
  .rw [if_pos ge];obtain rfl:l=r:=Nat.le_antisymm hlr ge;exact Ye ⟨rfl,l,rfl,hr,tt,ff⟩
  .rw [if_neg ge];have m1:l<=l+(r-l) / 2:=Ws _ _;have m2:l+(r-l) / 2<r:=by rfl'
   generalize l+(r-l) / 2=m at m1 m2 ⊢;refine Zy (hb m (by rfl') _ ?_);dsimp only
   cases e:bv m with
   | true=>
    rw [if_pos rfl];exact Ye ⟨rfl,m+1,r,rfl,m2,hr,by rfl',λ i hi=>mo i m (by rfl') (by rfl') e,ff⟩
   | false=>
    rw [if_neg Zr];refine Ye ⟨rfl,l,m,rfl,m1,by rfl',by rfl',tt,λ i hi hn=> ?_⟩
    cases e':bv i with
    | false=>rfl
    | true=>rw [mo m i hi hn e'] at e;cases e
 .obtain ⟨rfl,l,r,rfl,hlr,hr,hx,tt,ff⟩:=hI;obtain rfl:l=r:=by rfl'
  exact ⟨rfl,l,rfl,hr,tt,ff⟩
 .obtain ⟨rfl,l,rfl,hl,tt,ff⟩:=hc;exact Ye (q l hl tt ff)
theorem qW (hb: ∀i,i<n-> ∀R:Option Bool->SortSt->Prop,R (some (bv i)) st->wpS (model prog w) A E s (bey i) R st)
  (mo: ∀i j,i<=j->j<n->bv j=true->bv i=true) {h:Nat} (hh:h<n)
  (q: ∀k,k<=n->(∀i,i<k->bv i=true)->(∀i,k<=i->i<n->bv i=false)->Q (some k) st):wpS (model prog w) A E s (Ke bey n h) Q st:=by
 have mo': ∀i j,i<=j->j<n->bv i=false->bv j=false:=λ i j h1 h2 e=>by
  cases e':bv j with
  | false=>rfl
  | true=>rw [mo i j h1 h2 e'] at e;cases e
 unfold Ke;dsimp only;refine Zy (hb h hh _ ?_);dsimp only
 cases e0:bv h with
 | true=>
  rw [if_pos rfl];refine Zy (wpS_mono (wpS_forRange (I:=λ x c z=>z=st/\ ∃la f,c=(none,la,f)/\la<f/\h+la<n/\x+1<=f/\bv (h+la)=true)
   (Q:=λ c z=>z=st/\ ∃la f,c=(none,la,f)/\la<f/\h+la<n/\bv (h+la)=true/\(n-h<=f\/bv (h+f)=false))
   (λ x c z g1 g2 hI=> ?_) (λ c z hI=> ?_) ⟨rfl,0,1,rfl,by rfl',by rfl',by rfl',e0⟩) λ c z hc=> ?_)
  .obtain ⟨rfl,la,f,rfl,h1,h2,h3,h4⟩:=hI;dsimp only;by_cases ge:f>=n-h
   .rw [if_pos ge];exact Ye ⟨rfl,la,f,rfl,h1,h2,h4, .inl ge⟩
   .rw [if_neg ge];refine Zy (hb _ (by rfl') _ ?_);dsimp only
    cases e:bv (h+f) with
    | false=>rw [if_pos (by decide)];exact Ye ⟨rfl,la,f,rfl,h1,h2,h4, .inr e⟩
    | true=>rw [if_neg (by decide)];exact Ye ⟨rfl,f,2*f+1,rfl,by rfl',by rfl',by rfl',e⟩
  .obtain ⟨rfl,la,f,rfl,h1,h2,h3,h4⟩:=hI;exact ⟨rfl,la,f,rfl,h1,h2,h4, .inl (by rfl')⟩
  .obtain ⟨rfl,la,f,rfl,h1,h2,h4,h5⟩:=hc;dsimp only;refine qU (bey:=bey) (lo:=h+la+1) (hi:=h+min f (n-h)) hb mo (by rfl') (by rfl') (λ i hi=>mo i _ (by rfl') h2 h4) (λ i hi hn=> ?_) q;rcases h5 with h5 | h5
   .rfl'
   .by_cases c:n-h<=f
    .rfl'
    .exact mo' _ i (by rfl') hn h5
 | false=>
  rw [if_neg Zr];refine Zy (wpS_mono (wpS_forRange (I:=λ x c z=>z=st/\ ∃la f,c=(none,la,f)/\la<f/\la<=h/\x+1<=f/\bv (h-la)=false)
   (Q:=λ c z=>z=st/\ ∃la f,c=(none,la,f)/\la<f/\la<=h/\bv (h-la)=false/\(h+1<=f\/bv (h-f)=true))
   (λ x c z g1 g2 hI=> ?_) (λ c z hI=> ?_) ⟨rfl,0,1,rfl,by rfl',by rfl',by rfl',e0⟩) λ c z hc=> ?_)
  .obtain ⟨rfl,la,f,rfl,h1,h2,h3,h4⟩:=hI;dsimp only;by_cases ge:f>=h+1
   .rw [if_pos ge];exact Ye ⟨rfl,la,f,rfl,h1,h2,h4, .inl ge⟩
   .rw [if_neg ge];refine Zy (hb _ (by rfl') _ ?_);dsimp only
    cases e:bv (h-f) with
    | true=>rw [if_pos rfl];exact Ye ⟨rfl,la,f,rfl,h1,h2,h4, .inr e⟩
    | false=>rw [if_neg Zr];exact Ye ⟨rfl,f,2*f+1,rfl,by rfl',by rfl',by rfl',e⟩
  .obtain ⟨rfl,la,f,rfl,h1,h2,h3,h4⟩:=hI;exact ⟨rfl,la,f,rfl,h1,h2,h4, .inl (by rfl')⟩
  .obtain ⟨rfl,la,f,rfl,h1,h2,h4,h5⟩:=hc;dsimp only;refine qU (bey:=bey) (lo:=h+1-min f (h+1)) (hi:=h-la) hb mo (by rfl') (by rfl') (λ i hi=> ?_) (λ i hi hn=>mo' _ i hi hn h4) q;rcases h5 with h5 | h5
   .rfl'
   .by_cases c:h+1<=f
    .rfl'
    .exact mo i _ (by rfl') (by rfl') h5
end
def Sd (B:Keyed->Keyed->Bool) (l:List Keyed):Prop:=l.Pairwise λ x y=>B y x=false
def Tw (a0:Array Keyed) (x y:Keyed):Prop:= ∃r,(x::y::r).Perm a0.toList
def An (M:Model) (A:Around) (E:Value->Shared->Prop) (s:Shared) (kd:SortKind) (a0:Array Keyed) (B:Keyed->Keyed->Bool):Prop:=
 ∀ (st:SortSt) (x y:Keyed) (Q:Option Bool->SortSt->Prop),kindOf st=kd->Tw a0 x y->Q (some (B x y)) st->wpS M A E s (lt' x y) Q st
def Sg (z st:SortSt):Prop:= ∃g,z=SortSt.mk' (kindOf st) (arrOf st) (pendingOf st) g (failedOf st)
theorem Sg.refl (st:SortSt):Sg st st:=⟨gallopOf st,rfl⟩
structure Mg (B:Keyed->Keyed->Bool) (A1 A2 B1 B2 o:List Keyed):Prop where
 pm:o.Perm (A1++B1)
 sd:Sd B o
 le: ∀x∈o,∀y,y∈A2\/y∈B2->B y x=false
section
variable {B:Keyed->Keyed->Bool} {A1 A2 B1 B2 o K:List Keyed} {x y:Keyed}
theorem Mg.takeB (k:Wk B) (m:Mg B A1 (x::A2) B1 (K++B2) o) (s1:Sd B (x::A2)) (s2:Sd B (K++B2)) (h: ∀y∈K,B y x=true):Mg B A1 (x::A2) (B1++K) B2 (o++K):=by
 obtain ⟨sK,_,sx⟩:=Yi.mp s2;refine ⟨?_,Yi.mpr ⟨m.sd,sK,λ u hu v hv=>m.le u hu v (.inr (Zz _ hv))⟩,λ u hu v hv=> ?_⟩
 .rw [<- Yk];exact m.pm.append_right K
 .rcases Zi.mp hu with hu | hu
  .exact m.le u hu v (hv.imp id (Zw _))
  .rcases hv with hv | hv
   .rcases Zm.mp hv with rfl | hv
    .exact k.an (h u hu)
    .exact k.tr (k.an (h u hu)) (List.rel_of_pairwise_cons s1 hv)
   .exact sx u hu v hv
theorem Mg.takeA (k:Wk B) (m:Mg B A1 (K++A2) B1 (y::B2) o) (s1:Sd B (K++A2)) (s2:Sd B (y::B2)) (h: ∀x∈K,B y x=false):Mg B (A1++K) A2 B1 (y::B2) (o++K):=by
 obtain ⟨sK,_,sx⟩:=Yi.mp s1;refine ⟨?_,Yi.mpr ⟨m.sd,sK,λ u hu v hv=>m.le u hu v (.inl (Zz _ hv))⟩,λ u hu v hv=> ?_⟩
 .refine (m.pm.append_right K).trans ?_;rw [Yk,Yk];exact (List.perm_append_comm (l₁:=B1)).append_left A1
 .rcases Zi.mp hu with hu | hu
  .exact m.le u hu v (hv.imp (Zw _) id)
  .rcases hv with hv | hv
   .exact sx u hu v hv
   .rcases Zm.mp hv with rfl | hv
    .exact h u hu
    .exact k.tr (h u hu) (List.rel_of_pairwise_cons s2 hv)
theorem Mg.tl (m:Mg B A1 A2 B1 B2 o) {T:List Keyed} (hp:T.Perm (A2++B2)) (st:Sd B T):(o++T).Perm (A1++A2++(B1++B2))/\Sd B (o++T):=by
 refine ⟨((m.pm.append hp).trans ?_),Yi.mpr ⟨m.sd,st,λ u hu v hv=>m.le u hu v (Zi.mp (hp.mem_iff.mp hv))⟩⟩;rw [Yk,Yk,<- Yk B1,<- Yk A2];exact ((List.perm_append_comm (l₁:=B1)).append_right B2).append_left A1
theorem Mg.dn (m:Mg B A1 A2 B1 [] o) (s1:Sd B A2):(o++A2++[]).Perm (A1++A2++(B1++[]))/\Sd B (o++A2++[]):=by
 have:=m.tl (T:=A2) (by rw [Xa]) s1;simpa using this
theorem Mg.dn' (m:Mg B A1 [] B1 B2 o) (s1:Sd B B2):(o++[]++B2).Perm (A1++[]++(B1++B2))/\Sd B (o++[]++B2):=by
 have:=m.tl (T:=B2) (by rw [List.nil_append]) s1;simpa using this
theorem Mg.ls (k:Wk B) (m:Mg B A1 [x] B1 B2 o) (s1:Sd B B2) (h: ∀y∈B2,B y x=true):(o++B2++[x]).Perm (A1++[x]++(B1++B2))/\Sd B (o++B2++[x]):=by
 rw [Yk o];refine m.tl List.perm_append_comm (Yi.mpr ⟨s1,List.pairwise_singleton _ _,λ u hu v hv=> ?_⟩);rw [Za.mp hv];exact k.an (h u hu)
end
section
variable {L A1 A2 A3 K:List Keyed} {x:Keyed}
theorem gY (e:L=A1++A2):L.toArray.extract A1.length L.toArray.size=A2.toArray:=by
 subst e;apply Array.toList_inj.mp;simp
theorem gZ (e:L=A1++(K++A2)):L.toArray.extract A1.length (A1.length+K.length)=K.toArray:=by
 subst e;apply Array.toList_inj.mp;simp
theorem Kg (e:L=A1++x::A2):L.toArray[A1.length]? =some x:=by
 subst e;simp
theorem Sd.rt {B:Keyed->Keyed->Bool} (s:Sd B (A1++A2)):Sd B A2:=(Yi.mp s).2.1
theorem Sd.lf {B:Keyed->Keyed->Bool} (s:Sd B (A1++A2)):Sd B A1:=(Yi.mp s).1
end
section
variable {prog:Program} {w:World} {A:Around} {E:Value->Shared->Prop} {s:Shared} {kd:SortKind} {a0:Array Keyed} {B:Keyed->Keyed->Bool} {st:SortSt}
theorem b8 {L:List Keyed} {Q:Keyed->SortSt->Prop} (e:L=A1++x::A2) (q:Q x st):wpS (model prog w) A E s (elem' L.toArray A1.length) Q st:=by
 rw [elem'_eq,Kg e];exact Ye q
theorem pq {g:Nat} {Q:Unit->SortSt->Prop} (q:Q () (SortSt.mk' (kindOf st) (arrOf st) (pendingOf st) g (failedOf st))):wpS (model prog w) A E s (G5 g) Q st:=
 wpS_modify q
theorem Oq {l:List Keyed} (hp: ∀i (h:i<l.length),bv i=p l[i]) {k:Nat} (hk:k<=l.length) (t: ∀i,i<k->bv i=true) (f: ∀i,k<=i->i<l.length->bv i=false):
  ∃K R,l=K++R/\K.length=k/\(∀x∈K,p x=true)/\ ∀x∈R,p x=false:=by
 refine ⟨l.take k,l.drop k,(Wy k l).symm,by rw [Yd];rfl',λ x hx=> ?_,λ x hx=> ?_⟩
 .obtain ⟨i,hi,rfl⟩:=List.mem_iff_getElem.mp hx;rw [Yd] at hi;rw [List.getElem_take,<- hp i (by rfl')];exact t i (by rfl')
 .obtain ⟨i,hi,rfl⟩:=List.mem_iff_getElem.mp hx;rw [Yx] at hi;rw [List.getElem_drop,<- hp (k+i) (by rfl')];exact f _ (by rfl') (by rfl')
theorem Sd.get {l:List Keyed} (k:Wk B) (d:Sd B l) {i j:Nat} (hij:i<=j) (hj:j<l.length):B l[j] (l[i]'(Yb hij hj))=false:=by
 by_cases e:i=j
 .subst e;exact k.rf _
 .exact List.pairwise_iff_getElem.mp d i j _ hj (by rfl')
theorem zX (k:Wk B) (hA:An (model prog w) A E s kd a0 B) (kn:kindOf st=kd) {L:List Keyed} {h:Nat} {Q:Option Nat->SortSt->Prop} (e:L=A1++(A2++A3)) (d:Sd B A2) (tw: ∀x∈A2,Tw a0 y x) (hh:h<A2.length)
  (q: ∀K R,A2=K++R->(∀x∈K,B y x=false)->(∀x∈R,B y x=true)->Q (some K.length) st):wpS (model prog w) A E s (ph false y L.toArray A1.length A2.length h) Q st:=by
 have nn: ∀ {c:Bool},(!c)=true->c=false:=λ {c} h=>by cases c<;>first | rfl | cases h
 have nn': ∀ {c:Bool},(!c)=false->c=true:=λ {c} h=>by cases c<;>first | rfl | cases h
 rw [zW];refine qW (bv:=λ i=>if h:i<A2.length then !B y A2[i] else false) (λ i hi R r=> ?_) (λ i j hij hj t=> ?_) hh λ m hm t f=> ?_
 .unfold Kf;have:L.toArray[A1.length+i]? =some A2[i]:=by
   subst e;rw [Wx,List.getElem?_append_right (Ws _ _),Nat.add_sub_cancel_left,List.getElem?_append_left hi,Zd hi]
  rw [elem'_eq,this];refine Zy (Ye ?_);rw [if_neg Zr];refine Zy (hA _ _ _ _ kn (tw _ (Yy hi)) (Ye ?_));rw [dif_pos hi] at r;exact r
 .rw [dif_pos hj] at t;rw [dif_pos (Yb hij hj),k.tr (d.get k hij hj) (nn t)];rfl
 .obtain ⟨K,R,e1,rfl,e3,e4⟩:=Oq (l:=A2) (p:=λ x=> !B y x) (λ i h=>dif_pos h) hm t f;exact q K R e1 (λ x hx=>nn (e3 x hx)) λ x hx=>nn' (e4 x hx)
theorem zY (k:Wk B) (hA:An (model prog w) A E s kd a0 B) (kn:kindOf st=kd) {L:List Keyed} {h:Nat} {Q:Option Nat->SortSt->Prop} (e:L=A1++(A2++A3)) (d:Sd B A2) (tw: ∀x∈A2,Tw a0 x y) (hh:h<A2.length)
  (q: ∀K R,A2=K++R->(∀x∈K,B x y=true)->(∀x∈R,B x y=false)->Q (some K.length) st):wpS (model prog w) A E s (ph true y L.toArray A1.length A2.length h) Q st:=by
 rw [zW];refine qW (bv:=λ i=>if h:i<A2.length then B A2[i] y else false) (λ i hi R r=> ?_) (λ i j hij hj t=> ?_) hh λ m hm t f=> ?_
 .unfold Kf;have:L.toArray[A1.length+i]? =some A2[i]:=by
   subst e;rw [Wx,List.getElem?_append_right (Ws _ _),Nat.add_sub_cancel_left,List.getElem?_append_left hi,Zd hi]
  rw [elem'_eq,this];refine Zy (Ye ?_);rw [if_pos rfl];rw [dif_pos hi] at r;exact hA _ _ _ _ kn (tw _ (Yy hi)) r
 .rw [dif_pos hj] at t;rw [dif_pos (Yb hij hj)]
  cases c:B (A2[i]'(Yb hij hj)) y with
  | true=>rfl
  | false=>rw [k.tr c (d.get k hij hj)] at t;cases t
 .obtain ⟨K,R,e1,rfl,e3,e4⟩:=Oq (l:=A2) (p:=λ x=>B x y) (λ i h=>dif_pos h) hm t f;exact q K R e1 e3 e4
end
section
variable {α β γ τ:Type}
inductive Se (D:Array Keyed->Prop) (P:Nat->α->β->γ->Prop) (n:Nat):Option (Array Keyed)×α×β×γ×τ->Prop
 | dn {x:Array Keyed} {t:α×β×γ×τ} (h:D x):Se D P n (some x,t)
 | go {a:α} {b:β} {c:γ} {t:τ} (h:P n a b c):Se D P n (none,a,b,c,t)
inductive Sy (P:Nat->α->β->γ->Prop) (n:Nat):Option (Array Keyed)×α×β×γ×τ->Prop
 | go {a:α} {b:β} {c:γ} {t:τ} (h:P n a b c):Sy P n (none,a,b,c,t)
def Sr (D:Array Keyed->Prop) (P:Nat->α->β->γ->Prop) (n:Nat):ForInStep (Option (Array Keyed)×α×β×γ×τ)->Prop
 | .done c=>Se D P n c
 | .yield c=>Sy P n c
def Sq (D:Array Keyed->Prop) (P:Nat->α->β->γ->Prop) (n:Nat):ForInStep (Option (Array Keyed)×α×β×γ×τ)->Prop
 | .done c=>Se D (λ _ _ _ _=>False) 0 c
 | .yield c=>Sy P n c
abbrev TF (α β γ:Type):=Nat->α->β->γ->Nat->Nat->StateT SortSt Sem (ForInStep (Option (Array Keyed)×α×β×γ×Nat×Nat))
abbrev TG (α β γ:Type):=α->β->γ->Nat->Nat->Nat->StateT SortSt Sem (ForInStep (Option (Array Keyed)×α×β×γ×Nat×Nat×Nat))
def U4 (tot:Nat) (F:TF α β γ) (G:TG α β γ) (r:Option (Array Keyed)×α×β×γ×Nat):StateT SortSt Sem (ForInStep (Option (Array Keyed)×α×β×γ×Nat)):=do
 let s1 <- forIn [0:tot] (none,r.2.1,r.2.2.1,r.2.2.2.1,0,0) λ _ s=>F r.2.2.2.2 s.2.1 s.2.2.1 s.2.2.2.1 s.2.2.2.2.1 s.2.2.2.2.2
 match s1.1 with
 | some x=>pure (.done (some x,s1.2.1,s1.2.2.1,s1.2.2.2.1,r.2.2.2.2))
 | none=>do
  rule "list.sort.gallop"
  let s2 <- forIn [0:tot] (none,s1.2.1,s1.2.2.1,s1.2.2.2.1,r.2.2.2.2+1,s1.2.2.2.2.1,s1.2.2.2.2.2) λ _ s=>if s.2.2.2.2.1>1 then G s.2.1 s.2.2.1 s.2.2.2.1 (s.2.2.2.2.1-1) s.2.2.2.2.2.1 s.2.2.2.2.2.2 else G s.2.1 s.2.2.1 s.2.2.2.1 s.2.2.2.2.1 s.2.2.2.2.2.1 s.2.2.2.2.2.2
  match s2.1 with
  | some x=>pure (.done (some x,s2.2.1,s2.2.2.1,s2.2.2.2.1,s2.2.2.2.2.1))
  | none=>do
   G5 (s2.2.2.2.2.1+1)
   pure (.yield (none,s2.2.1,s2.2.2.1,s2.2.2.2.1,s2.2.2.2.2.1+1))
def T5 (tot:Nat) (F:TF α β γ) (G:TG α β γ) (r0:Option (Array Keyed)×α×β×γ×Nat):StateT SortSt Sem (Array Keyed):=do
 let r <- forIn [0:tot] r0 λ _ r=>U4 tot F G r
 match r.1 with
 | some x=>pure x
 | none=>unsupported "internal:list.sort.merge-bound"
structure Gn (prog:Program) (w:World) (A:Around) (E:Value->Shared->Prop) (s:Shared) (st:SortSt) (D:Array Keyed->Prop) (P:Nat->α->β->γ->Prop) (tot:Nat) (F:TF α β γ) (G:TG α β γ):Prop where
 mo: ∀ {n m a b c},m<=n->P n a b c->P m a b c
 lt: ∀ {n a b c},P n a b c->n<tot
 f: ∀ {n a b c mg ac bc z},Sg z st->P n a b c->wpS (model prog w) A E s (F mg a b c ac bc) (λ r z'=>z'=z/\Sr D P (n+1) r) z
 g: ∀ {n a b c mg ac bc z},Sg z st->P n a b c->wpS (model prog w) A E s (G a b c mg ac bc) (λ r z'=>Sg z' st/\Sr D P (n+1) r) z
variable {prog:Program} {w:World} {A:Around} {E:Value->Shared->Prop} {s:Shared} {st:SortSt} {D:Array Keyed->Prop} {P:Nat->α->β->γ->Prop} {tot:Nat} {F:TF α β γ} {G:TG α β γ}
theorem Gn.se (h:Gn prog w A E s st D P tot F G) {m:Nat} (hm:m<=n) {c:Option (Array Keyed)×α×β×γ×τ} (x:Se D P n c):Se D P m c:=by
 cases x with
 | dn x=>exact .dn x
 | go x=>exact .go (h.mo hm x)
theorem G6 (h:Gn prog w A E s st D P tot F G) {a:α} {b:β} {c:γ} (hz:Sg z st) (hp:P n a b c):wpS (model prog w) A E s (U4 tot F G (none,a,b,c,mg)) (λ r z'=>Sg z' st/\Sq D P (n+1) r) z:=by
 unfold U4;refine Zy (wpS_mono (wpS_forRange (I:=λ x c z'=>z'=z/\Sy P (x+n) c) (Q:=λ c z'=>z'=z/\Se D P (n+1) c) (λ x c z' _ _ hI=> ?_) (λ c z' hI=> ?_) ⟨rfl, .go (by rw [Nat.zero_add];exact hp)⟩) λ c1 z1 hc=> ?_)
 .obtain ⟨e,⟨hp⟩⟩:=hI;subst e;refine wpS_mono (h.f hz hp) λ r z'' hr=> ?_
  obtain ⟨e,hr⟩:=hr;subst e
  cases r with
  | done c=>exact ⟨rfl,h.se (Nat.add_le_add_right (Nat.le_add_left n x) 1) hr⟩
  | yield c=>exact ⟨rfl,(Nat.add_right_comm x 1 n)▸hr⟩
 .obtain ⟨e,⟨hp⟩⟩:=hI;exact absurd (Yb (Yg (Nat.le_max_right 0 tot) (Ws _ n)) (h.lt hp)) (Xj _)
 .obtain ⟨e,hc⟩:=hc;subst e
  cases hc with
  | dn hd=>exact Ye ⟨hz, .dn hd⟩
  | go hp1=>
   refine Zy (wpS_lift (wpAny_rule ⟨rfl,?_⟩));refine Zy (wpS_mono (wpS_forRange (I:=λ x c z'=>Sg z' st/\Sy P (x+(n+1)) c) (Q:=λ c z'=>Sg z' st/\Se D P (n+1) c) (λ x c z' _ _ hI=> ?_) (λ c z' hI=> ?_) ⟨hz, .go (by rw [Nat.zero_add];exact hp1)⟩) λ c1 z1 hc=> ?_)
   .obtain ⟨hz,⟨hp⟩⟩:=hI;dsimp only;split;all_goals
     refine wpS_mono (h.g hz hp) λ r z'' hr=> ?_
     obtain ⟨hz',hr⟩:=hr
     cases r with
     | done c=>exact ⟨hz',h.se (Yg (Nat.le_add_left (n+1) x) (Nat.le_succ _)) hr⟩
     | yield c=>exact ⟨hz',(Nat.add_right_comm x 1 (n+1))▸hr⟩
   .obtain ⟨e,⟨hp⟩⟩:=hI;exact absurd (Yb (Yg (Nat.le_max_right 0 tot) (Ws _ (n+1))) (h.lt hp)) (Xj _)
   .obtain ⟨hz',hc⟩:=hc
    cases hc with
    | dn hd=>exact Ye ⟨hz', .dn hd⟩
    | go hp2=>
     obtain ⟨g,e⟩:=hz';subst e;exact Zy (pq (Ye ⟨⟨_,rfl⟩, .go hp2⟩))
theorem vZ (h:Gn prog w A E s st D P tot F G) {a:α} {b:β} {c:γ} (hp:P 0 a b c) (q: ∀r z,D r->Sg z st->Q r z):wpS (model prog w) A E s (T5 tot F G (none,a,b,c,mg)) Q st:=by
 unfold T5;refine Zy (wpS_mono (wpS_forRange (I:=λ x c z'=>Sg z' st/\Sy P x c) (Q:=λ c z'=>Sg z' st/\Se D (λ _ _ _ _=>False) 0 c) (λ x c z' _ _ hI=> ?_) (λ c z' hI=> ?_) ⟨Sg.refl _, .go hp⟩) λ c1 z1 hc=> ?_)
 .obtain ⟨hz,⟨hp⟩⟩:=hI;refine wpS_mono (G6 h hz hp) λ r z'' hr=> ?_
  obtain ⟨hz',hr⟩:=hr
  cases r with
  | done c=>exact ⟨hz',hr⟩
  | yield c=>exact ⟨hz',hr⟩
 .obtain ⟨hz,⟨hp⟩⟩:=hI;exact absurd (Yb (Nat.le_max_right 0 tot) (h.lt hp)) (Xj _)
 .obtain ⟨hz',hc⟩:=hc
  cases hc with
  | dn hd=>exact Ye (q _ _ hd hz')
  | go hp2=>exact hp2.elim
end
abbrev GS:=ForInStep (Option (Array Keyed)×Array Keyed×Nat×Nat×Nat×Nat×Nat)
def G3 (a b o:Array Keyed) (p q mg ac k:Nat):StateT SortSt Sem GS:=do
 let u <- elem' a p
 if (p+1+1==a.size)=true then
  pure (.done (some (o.push u++b.extract q b.size++a.extract (p+1) a.size),o.push u,p+1,q,mg,ac,k))
 else if (decide (ac<7)&&decide (k<7))=true then pure (.done (none,o.push u,p+1,q,mg,ac,k))
 else pure (.yield (none,o.push u,p+1,q,mg,ac,k))
def G2 (a b o:Array Keyed) (p q mg ac bc:Nat):StateT SortSt Sem GS:=do
 let u <- elem' b q
 if (q+1==b.size)=true then
  pure (.done (some (o.push u++a.extract p a.size++b.extract (q+1) b.size),o.push u,p,q+1,mg,ac,bc))
 else do
  let v <- elem' a p
  let x <- ph true v b (q+1) (b.size-(q+1)) 0
  match x with
  | some k=>
   if k>0 then
    if (q+1+k==b.size)=true then
     pure (.done (some (o.push u++b.extract (q+1) (q+1+k)++a.extract p a.size++b.extract (q+1+k) b.size),o.push u++b.extract (q+1) (q+1+k),p,q+1+k,mg,ac,k))
    else G3 a b (o.push u++b.extract (q+1) (q+1+k)) p (q+1+k) mg ac k
   else G3 a b (o.push u) p (q+1) mg ac k
  | _=>pure (.done (some (o.push u++a.extract p a.size++b.extract (q+1) b.size),o.push u,p,q+1,mg,ac,bc))
def G1 (a b o:Array Keyed) (p q mg ac bc:Nat):StateT SortSt Sem GS:=do
 G5 mg
 let u <- elem' b q
 let x <- ph false u a p (a.size-p) 0
 match x with
 | some k=>
  if k>0 then
   if (p+k+1==a.size)=true then
    pure (.done (some (o++a.extract p (p+k)++b.extract q b.size++a.extract (p+k) a.size),o++a.extract p (p+k),p+k,q,mg,k,bc))
   else if (p+k==a.size)=true then
    pure (.done (some (o++a.extract p (p+k)++a.extract (p+k) a.size++b.extract q b.size),o++a.extract p (p+k),p+k,q,mg,k,bc))
   else G2 a b (o++a.extract p (p+k)) (p+k) q mg k bc
  else G2 a b o p q mg k bc
 | _=>pure (.done (some (o++a.extract p a.size++b.extract q b.size),o,p,q,mg,ac,bc))
def F1 (a b:Array Keyed) (mg:Nat) (o:Array Keyed) (p q ac bc:Nat):StateT SortSt Sem (ForInStep (Option (Array Keyed)×Array Keyed×Nat×Nat×Nat×Nat)):=do
 let y <- elem' b q
 let x <- elem' a p
 match <- lt' y x with
 | some bw=>
  if bw=true then do
   let u <- elem' b q
   if (q+1==b.size)=true then pure (.done (some (o.push u++a.extract p a.size++b.extract (q+1) b.size),o.push u,p,q+1,0,bc+1))
   else if bc+1>=mg then pure (.done (none,o.push u,p,q+1,0,bc+1))
   else pure (.yield (none,o.push u,p,q+1,0,bc+1))
  else do
   let u <- elem' a p
   if (p+1+1==a.size)=true then pure (.done (some (o.push u++b.extract q b.size++a.extract (p+1) a.size),o.push u,p+1,q,ac+1,0))
   else if ac+1>=mg then pure (.done (none,o.push u,p+1,q,ac+1,0))
   else pure (.yield (none,o.push u,p+1,q,ac+1,0))
 | _=>pure (.done (some (o++a.extract p a.size++b.extract q b.size),o,p,q,ac,bc))
theorem Kh (a b:Array Keyed):Kc a b=(do
 rule "list.sort.merge-lo"
 let y <- elem' b 0
 if (1==b.size)=true then pure (#[y]++a.extract 0 a.size++b.extract 1 b.size)
 else if (0+1==a.size)=true then pure (#[y]++b.extract 1 b.size++a.extract 0 a.size)
 else do
  let st <- get
  T5 (a.size+b.size) (F1 a b) (G1 a b) (none,#[y],0,1,gallopOf st)):=by kernel_rfl
structure Ml (B:Keyed->Keyed->Bool) (L1 L2 A1 A2 B1 B2 o:List Keyed):Prop where
 e1:L1=A1++A2
 e2:L2=B1++B2
 mg:Mg B A1 A2 B1 B2 o
section
variable {prog:Program} {w:World} {A:Around} {E:Value->Shared->Prop} {s:Shared} {kd:SortKind} {a0:Array Keyed} {B:Keyed->Keyed->Bool} {st:SortSt} {L1 L2:List Keyed}
theorem zZ {l:List Keyed} (h:2<=l.length): ∃x y r,l=x::y::r:=by
 obtain ⟨x,m,rfl⟩:=Yr (Yc Nat.zero_lt_two h);obtain ⟨y,r,rfl⟩:=Yr (Nat.lt_of_succ_lt_succ h);exact ⟨x,y,r,rfl⟩
theorem Aa {l:List Keyed} (h:l.length=1): ∃x,l=[x]:=List.length_eq_one_iff.mp h
theorem Ab {B:Keyed->Keyed->Bool} {l:List Keyed} (h:l.length<2):Sd B l:=by
 cases l with
 | nil=>exact .nil
 | cons x r=>
  cases r with
  | nil=>exact List.pairwise_singleton _ _
  | cons y r=>exact absurd (Nat.lt_of_succ_lt_succ (Nat.lt_of_succ_lt_succ h)) (Nat.not_lt_zero _)
theorem lE {l:List Keyed} (e:l=m++[x]):l.getLast?=some x:=by subst e;simp
theorem Ml.la {o:List Keyed} (k:Wk B) (s2:Sd B L2) (h9: ∀x,L1.getLast?=some x-> ∀y∈L2,B y x=true) (m:Ml B L1 L2 A1 A2 B1 B2 o) (h:A2.length=1):
  ∃r,o.toArray++L2.toArray.extract B1.length L2.toArray.size++L1.toArray.extract A1.length L1.toArray.size=r.toArray/\r.Perm (L1++L2)/\Sd B r:=by
 obtain ⟨x,rfl⟩:=Aa h;rw [gY m.e1,gY m.e2];have:=m.mg.ls k (Sd.rt (m.e2▸s2)) λ y hy=>h9 x (lE m.e1) y (by rw [m.e2];exact Zw _ hy)
 rw [<- m.e1,<- m.e2] at this;exact ⟨o++B2++[x],by simp,this⟩
theorem Ml.dn {o:List Keyed} (s1:Sd B L1) (m:Ml B L1 L2 A1 A2 B1 B2 o) (h:B2=[]):
  ∃r,o.toArray++L1.toArray.extract A1.length L1.toArray.size++L2.toArray.extract B1.length L2.toArray.size=r.toArray/\r.Perm (L1++L2)/\Sd B r:=by
 subst h;rw [gY m.e1,gY m.e2];have:=m.mg.dn (Sd.rt (m.e1▸s1));rw [<- m.e1,<- m.e2] at this;exact ⟨o++A2++[],by simp,this⟩
theorem Ml.dn' {o:List Keyed} (s2:Sd B L2) (m:Ml B L1 L2 A1 A2 B1 B2 o) (h:A2=[]):
  ∃r,o.toArray++L1.toArray.extract A1.length L1.toArray.size++L2.toArray.extract B1.length L2.toArray.size=r.toArray/\r.Perm (L1++L2)/\Sd B r:=by
 subst h;rw [gY m.e1,gY m.e2];have:=m.mg.dn' (Sd.rt (m.e2▸s2));rw [<- m.e1,<- m.e2] at this;exact ⟨o++[]++B2,by simp,this⟩
theorem Ml.b1 {o:List Keyed} (k:Wk B) (s1:Sd B L1) (s2:Sd B L2) (m:Ml B L1 L2 A1 (x::A2) B1 (y::B2) o) (h:B y x=true):Ml B L1 L2 A1 (x::A2) (B1++[y]) B2 (o++[y]):=
 ⟨m.e1,by rw [m.e2];simp,Mg.takeB (K:=[y]) k m.mg (Sd.rt (m.e1▸s1)) (Sd.rt (m.e2▸s2)) λ u hu=>by rw [Za.mp hu];exact h⟩
theorem Ml.a1 {o:List Keyed} (k:Wk B) (s1:Sd B L1) (s2:Sd B L2) (m:Ml B L1 L2 A1 (x::A2) B1 (y::B2) o) (h:B y x=false):Ml B L1 L2 (A1++[x]) A2 B1 (y::B2) (o++[x]):=
 ⟨by rw [m.e1];simp,m.e2,Mg.takeA (K:=[x]) k m.mg (Sd.rt (m.e1▸s1)) (Sd.rt (m.e2▸s2)) λ u hu=>by rw [Za.mp hu];exact h⟩
theorem Ml.bk {K o:List Keyed} (k:Wk B) (s1:Sd B L1) (s2:Sd B L2) (m:Ml B L1 L2 A1 (x::A2) B1 (K++B2) o) (h: ∀y∈K,B y x=true):Ml B L1 L2 A1 (x::A2) (B1++K) B2 (o++K):=
 ⟨m.e1,by rw [m.e2];simp,Mg.takeB k m.mg (Sd.rt (m.e1▸s1)) (Sd.rt (m.e2▸s2)) h⟩
theorem Ml.ak {K o:List Keyed} (k:Wk B) (s1:Sd B L1) (s2:Sd B L2) (m:Ml B L1 L2 A1 (K++A2) B1 (y::B2) o) (h: ∀x∈K,B y x=false):Ml B L1 L2 (A1++K) A2 B1 (y::B2) (o++K):=
 ⟨by rw [m.e1];simp,m.e2,Mg.takeA k m.mg (Sd.rt (m.e1▸s1)) (Sd.rt (m.e2▸s2)) h⟩
def Gd (B:Keyed->Keyed->Bool) (L1 L2:List Keyed) (r:Array Keyed):Prop:= ∃l:List Keyed,r=l.toArray/\l.Perm (L1++L2)/\Sd B l
theorem Ac {L:List Keyed} (e:L=A1++A2):(A1.length==L.toArray.size)=decide (A2.length=0):=by
 subst e;rw [Zu,Zg];by_cases h:A2.length=0
 .rw [h];simp
 .rw [Yf h];exact Wu.mpr (by rfl')
theorem G7 {L:List Keyed} (e:L=A1++A2):(A1.length+1==L.toArray.size)=decide (A2.length=1):=by
 subst e;rw [Zu,Zg];by_cases h:A2.length=1
 .rw [h];simp
 .rw [Yf h];exact Wu.mpr (by rfl')
theorem aZ (A1:List Keyed) (x:Keyed):(A1++[x]).length=A1.length+1:=by simp
theorem j7 (o:List Keyed) (x:Keyed):o.toArray.push x=(o++[x]).toArray:=by simp
inductive PL (B:Keyed->Keyed->Bool) (L1 L2:List Keyed) (n:Nat):Array Keyed->Nat->Nat->Prop
 | mk {A1 A2 B1 B2 o:List Keyed} (m:Ml B L1 L2 A1 A2 B1 B2 o) (h1:2<=A2.length) (h2:1<=B2.length) (h3:n+1<=A1.length+B1.length):PL B L1 L2 n o.toArray A1.length B1.length
theorem Ad (k:Wk B) (s1:Sd B L1) (s2:Sd B L2) (h9: ∀x,L1.getLast?=some x-> ∀y∈L2,B y x=true) (hg:Sg z st)
  {o:List Keyed} (m:Ml B L1 L2 A1 (x::A2) B1 (y::B2) o) (e:B y x=false) (hA2:1<=A2.length) (hn:n+1<=A1.length+B1.length):
  wpS (model prog w) A E s (G3 L1.toArray L2.toArray o.toArray A1.length B1.length mg ac bc) (λ r z'=>Sg z' st/\Sr (Gd B L1 L2) (PL B L1 L2) (n+1) r) z:=by
 unfold G3;refine Zy (b8 m.e1 ?_);have m':=m.a1 k s1 s2 e;rw [j7,<- aZ A1 x,G7 m'.e1];by_cases z1:A2.length=1
 .rw [if_pos (Yj z1)];obtain ⟨r,er,hr⟩:=m'.la k s2 h9 z1;exact Ye ⟨hg, .dn ⟨r,er,hr⟩⟩
 .rw [if_neg (by simpa using z1)];have b:n+1+1<=(A1++[x]).length+B1.length:=by rw [aZ];rfl'
  by_cases z3:(decide (ac<7)&&decide (bc<7))=true
  .rw [if_pos z3];exact Ye ⟨hg, .go ⟨m',by rfl',by simp,b⟩⟩
  .rw [if_neg z3];exact Ye ⟨hg, .go ⟨m',by rfl',by simp,b⟩⟩
theorem Ae {L:List Keyed} (e:L=A1++A2):L.toArray.size-A1.length=A2.length:=by subst e;simp
theorem w5 (o K:List Keyed):o.toArray++K.toArray=(o++K).toArray:=by simp
theorem Af (k:Wk B) (hA:An (model prog w) A E s kd a0 B) (kn:kindOf st=kd) (tw: ∀x∈L1,∀y∈L2,Tw a0 y x) (s1:Sd B L1) (s2:Sd B L2) (h9: ∀x,L1.getLast?=some x-> ∀y∈L2,B y x=true) (hg:Sg z st)
  {o:List Keyed} (m:Ml B L1 L2 A1 (x::A2) B1 (y::B2) o) (e:B y x=true) (hA2:1<=A2.length) (hn:n+1<=A1.length+B1.length):
  wpS (model prog w) A E s (G2 L1.toArray L2.toArray o.toArray A1.length B1.length mg ac bc) (λ r z'=>Sg z' st/\Sr (Gd B L1 L2) (PL B L1 L2) (n+1) r) z:=by
 have kz:kindOf z=kd:=by obtain ⟨g,rfl⟩:=hg;exact kn
 unfold G2;refine Zy (b8 m.e2 ?_);have m':=m.b1 k s1 s2 e;rw [j7,<- aZ B1 y,Ac m'.e2];by_cases z1:B2.length=0
 .rw [if_pos (Yj z1)];obtain ⟨r,er,hr⟩:=m'.dn s1 (Zx z1);exact Ye ⟨hg, .dn ⟨r,er,hr⟩⟩
 rw [if_neg (by simpa using z1)];refine Zy (b8 m.e1 ?_);rw [Ae m'.e2];have sB:Sd B B2:=Sd.rt (m'.e2▸s2);have hx:x∈L1:=by rw [m.e1];simp
 refine Zy (zY k hA kz (A3:=[]) (by rw [Xa];exact m'.e2) sB (λ u hu=>tw x hx u (by rw [m'.e2];exact Zw _ hu)) (by rfl') λ K R eK hK hR=> ?_);dsimp only;subst eK;by_cases z2:K.length>0
 .rw [if_pos z2,gZ m'.e2,w5 (o++[y]) K];have m2:=m'.bk k s1 s2 hK;rw [<- Zg,Ac m2.e2];by_cases z3:R.length=0
  .rw [if_pos (Yj z3)];obtain ⟨r,er,hr⟩:=m2.dn s1 (Zx z3);exact Ye ⟨hg, .dn ⟨r,er,hr⟩⟩
  rw [if_neg (by simpa using z3)];obtain ⟨y2,R,rfl⟩:=Yr (Wo z3);exact Ad k s1 s2 h9 hg m2 (hR _ Zs) hA2 (by simp only [Zg,Yu];rfl')
 .rw [if_neg z2];obtain rfl:K=[]:=Zx (by rfl');rw [List.nil_append] at z1 m';obtain ⟨y2,R,rfl⟩:=Yr (Wo z1);exact Ad k s1 s2 h9 hg m' (hR _ Zs) hA2 (by simp only [Zg,Yu];rfl')
theorem Kl (k:Wk B) (hA:An (model prog w) A E s kd a0 B) (kn:kindOf st=kd) (tw: ∀x∈L1,∀y∈L2,Tw a0 y x) (s1:Sd B L1) (s2:Sd B L2) (h9: ∀x,L1.getLast?=some x-> ∀y∈L2,B y x=true) (hg:Sg z st)
  {o:List Keyed} (m:Ml B L1 L2 A1 A2 B1 B2 o) (hA2:2<=A2.length) (hB2:1<=B2.length) (hn:n+1<=A1.length+B1.length):
  wpS (model prog w) A E s (G1 L1.toArray L2.toArray o.toArray A1.length B1.length mg ac bc) (λ r z'=>Sg z' st/\Sr (Gd B L1 L2) (PL B L1 L2) (n+1) r) z:=by
 obtain ⟨g,rfl⟩:=hg;unfold G1;refine Zy (pq ?_);obtain ⟨y,B2,rfl⟩:=Yr hB2;have hy:y∈L2:=by rw [m.e2];simp
 have hg:Sg (SortSt.mk' (kindOf st) (arrOf st) (pendingOf st) mg (failedOf st)) st:=⟨_,rfl⟩;refine Zy (b8 m.e2 ?_);rw [Ae m.e1];have sA:Sd B A2:=Sd.rt (m.e1▸s1);have kz:kindOf (SortSt.mk' (kindOf st) (arrOf st) (pendingOf st) mg (failedOf st))=kd:=kn;refine Zy (zX k hA kz (A2:=A2) (A3:=[]) (by rw [Xa];exact m.e1) sA (λ u hu=>tw u (by rw [m.e1];exact Zw _ hu) y hy) (by rfl') λ K R eK hK hR=> ?_);dsimp only;subst eK;by_cases z2:K.length>0
 .rw [if_pos z2,gZ m.e1,w5 o K];have m2:=m.ak k s1 s2 hK;rw [<- Zg,Ac m2.e1,G7 m2.e1];by_cases z3:R.length=1
  .rw [if_pos (Yj z3)];obtain ⟨r,er,hr⟩:=m2.la k s2 h9 z3;exact Ye ⟨hg, .dn ⟨r,er,hr⟩⟩
  rw [if_neg (by simpa using z3)];by_cases z4:R.length=0
  .rw [if_pos (Yj z4)];obtain ⟨r,er,hr⟩:=m2.dn' s2 (Zx z4);exact Ye ⟨hg, .dn ⟨r,er,hr⟩⟩
  rw [if_neg (by simpa using z4)];obtain ⟨x,R,rfl⟩:=Yr (Wo z4);exact Af k hA kn tw s1 s2 h9 hg m2 (hR _ Zs) (by rw [Yu] at z3;rfl') (by simp only [Zg];rfl')
 .rw [if_neg z2];obtain rfl:K=[]:=Zx (by rfl');rw [List.nil_append] at hA2 m;obtain ⟨x,x2,R,rfl⟩:=zZ hA2;exact Af k hA kn tw s1 s2 h9 hg m (hR _ Zs) (by simp) hn
theorem Km (k:Wk B) (hA:An (model prog w) A E s kd a0 B) (kn:kindOf st=kd) (tw: ∀x∈L1,∀y∈L2,Tw a0 y x) (s1:Sd B L1) (s2:Sd B L2) (h9: ∀x,L1.getLast?=some x-> ∀y∈L2,B y x=true) (hg:Sg z st)
  {o:List Keyed} (m:Ml B L1 L2 A1 (x::A2) B1 (y::B2) o) (hA2:1<=A2.length) (hn:n+1<=A1.length+B1.length):
  wpS (model prog w) A E s (F1 L1.toArray L2.toArray mg o.toArray A1.length B1.length ac bc) (λ r z'=>z'=z/\Sr (Gd B L1 L2) (PL B L1 L2) (n+1) r) z:=by
 have kz:kindOf z=kd:=by obtain ⟨g,rfl⟩:=hg;exact kn
 unfold F1;refine Zy (b8 m.e2 (Zy (b8 m.e1 (Zy (hA _ _ _ _ kz (tw x (by rw [m.e1];simp) y (by rw [m.e2];simp)) ?_)))));dsimp only
 cases e:B y x with
 | true=>
  rw [if_pos rfl];refine Zy (b8 m.e2 ?_);have m':=m.b1 k s1 s2 e;rw [j7,<- aZ B1 y,Ac m'.e2];by_cases z1:B2.length=0
  .rw [if_pos (Yj z1)];obtain ⟨r,er,hr⟩:=m'.dn s1 (Zx z1);exact Ye ⟨rfl, .dn ⟨r,er,hr⟩⟩
  .rw [if_neg (by simpa using z1)];have p:PL B L1 L2 (n+1) _ _ _:=⟨m',Nat.succ_le_succ hA2,Wo z1,by rw [aZ];rfl'⟩;by_cases z3:bc+1>=mg
   .rw [if_pos z3];exact Ye ⟨rfl, .go p⟩
   .rw [if_neg z3];exact Ye ⟨rfl, .go p⟩
 | false=>
  rw [if_neg Zr];refine Zy (b8 m.e1 ?_);have m':=m.a1 k s1 s2 e;rw [j7,<- aZ A1 x,G7 m'.e1];by_cases z1:A2.length=1
  .rw [if_pos (Yj z1)];obtain ⟨r,er,hr⟩:=m'.la k s2 h9 z1;exact Ye ⟨rfl, .dn ⟨r,er,hr⟩⟩
  .rw [if_neg (by simpa using z1)];have p:PL B L1 L2 (n+1) _ _ _:=⟨m',by rfl',Nat.succ_pos _,by rw [aZ];rfl'⟩;by_cases z3:ac+1>=mg
   .rw [if_pos z3];exact Ye ⟨rfl, .go p⟩
   .rw [if_neg z3];exact Ye ⟨rfl, .go p⟩
theorem Q4 (k:Wk B) (hA:An (model prog w) A E s kd a0 B) (kn:kindOf st=kd) (tw: ∀x∈L1,∀y∈L2,Tw a0 y x) (s1:Sd B L1) (s2:Sd B L2) (h9: ∀x,L1.getLast?=some x-> ∀y∈L2,B y x=true):
  Gn prog w A E s st (Gd B L1 L2) (PL B L1 L2) (L1.toArray.size+L2.toArray.size) (F1 L1.toArray L2.toArray) (G1 L1.toArray L2.toArray) where
 mo:=λ h p=>by cases p with | mk m h1 h2 h3=>exact ⟨m,h1,h2,Yg (Nat.succ_le_succ h) h3⟩
 lt:=λ p=>by
  cases p with
  | mk m h1 h2 h3=>
   have l1:=Yt List.length m.e1;have l2:=Yt List.length m.e2;rw [Zg] at l1 l2;rw [Zu,Zu];rfl'
 f:=λ hg p=>by
  cases p with
  | mk m h1 h2 h3=>
   obtain ⟨x1,x2,A3,rfl⟩:=zZ h1;obtain ⟨y1,B3,rfl⟩:=Yr h2;exact Km k hA kn tw s1 s2 h9 hg m (Nat.succ_pos _) h3
 g:=λ hg p=>by
  cases p with
  | mk m h1 h2 h3=>exact Kl k hA kn tw s1 s2 h9 hg m h1 h2 h3
theorem G8 (k:Wk B) (hA:An (model prog w) A E s kd a0 B) (kn:kindOf st=kd) (tw: ∀x∈L1,∀y∈L2,Tw a0 y x) (s1:Sd B L1) (s2:Sd B L2) (n1:1<=L1.length) (n2:1<=L2.length)
  (h0: ∀y,L2.head?=some y-> ∀x∈L1,B y x=true) (h9: ∀x,L1.getLast?=some x-> ∀y∈L2,B y x=true)
  (q: ∀r z,Gd B L1 L2 r->Sg z st->Q r z):wpS (model prog w) A E s (Kc L1.toArray L2.toArray) Q st:=by
 rw [Kh];refine Zy (wpS_lift (wpAny_rule ⟨rfl,?_⟩));obtain ⟨y0,L2',rfl⟩:=Yr n2;obtain ⟨x0,L1',rfl⟩:=Yr n1;have m0:Ml B (x0::L1') (y0::L2') [] (x0::L1') [y0] L2' [y0]:=
  Ml.b1 (A1:=[]) (B1:=[]) (o:=[]) k s1 s2 ⟨rfl,rfl,⟨.refl _, .nil,λ _ h=>by cases h⟩⟩ (h0 y0 rfl x0 Zs)
 generalize x0::L1'=L1 at*;generalize y0::L2'=L2 at*;have hb:=m0.e2;have ha:=m0.e1;refine Zy (b8 (A1:=[]) hb ?_);have c1:=Ac hb;have c2:=G7 ha;rw [show ([y0]:List Keyed).length=1 from rfl] at c1;rw [show ([]:List Keyed).length=0 from rfl] at c2;rw [c1,c2];by_cases z1:L2'.length=0
 .rw [if_pos (Yj z1)];obtain ⟨r,er,hr⟩:=m0.dn s1 (Zx z1);exact Ye (q _ _ ⟨r,er,hr⟩ (Sg.refl _))
 rw [if_neg (by simpa using z1)];by_cases z2:L1.length=1
 .rw [if_pos (Yj z2)];obtain ⟨r,er,hr⟩:=m0.la k s2 h9 z2;exact Ye (q _ _ ⟨r,er,hr⟩ (Sg.refl _))
 rw [if_neg (by simpa using z2)];refine Zy (wpS_get ?_);exact vZ (Q4 k hA kn tw s1 s2 h9) (PL.mk m0 (by rfl') (by rfl') (Zk _)) q
end
abbrev HS:=ForInStep (Option (Array Keyed)×Nat×Nat×Array Keyed×Nat×Nat×Nat)
def H3 (a b o:Array Keyed) (p q mg ac k:Nat):StateT SortSt Sem HS:=do
 let u <- elem' a (p-1)
 if (p-1==0)=true then
  pure (.done (some (a.extract 0 (p-1)++b.extract 0 q++(o.push u).reverse),p-1,q,o.push u,mg,ac,k))
 else if (decide (ac<7)&&decide (k<7))=true then pure (.done (none,p-1,q,o.push u,mg,ac,k))
 else pure (.yield (none,p-1,q,o.push u,mg,ac,k))
def H2 (a b o:Array Keyed) (p q mg ac bc:Nat):StateT SortSt Sem HS:=do
 let u <- elem' b (q-1)
 if (q-1==1)=true then
  pure (.done (some (b.extract 0 (q-1)++a.extract 0 p++(o.push u).reverse),p,q-1,o.push u,mg,ac,bc))
 else do
  let v <- elem' a (p-1)
  let x <- ph true v b 0 (q-1) (q-1-1)
  match x with
  | some f=>
   if q-1-f>0 then
    if (f==1)=true then
     pure (.done (some (b.extract 0 f++a.extract 0 p++(o.push u++(b.extract f (q-1)).reverse).reverse),p,f,o.push u++(b.extract f (q-1)).reverse,mg,ac,q-1-f))
    else if (f==0)=true then
     pure (.done (some (a.extract 0 p++b.extract 0 f++(o.push u++(b.extract f (q-1)).reverse).reverse),p,f,o.push u++(b.extract f (q-1)).reverse,mg,ac,q-1-f))
    else H3 a b (o.push u++(b.extract f (q-1)).reverse) p f mg ac (q-1-f)
   else H3 a b (o.push u) p (q-1) mg ac (q-1-f)
  | _=>pure (.done (some (a.extract 0 p++b.extract 0 (q-1)++(o.push u).reverse),p,q-1,o.push u,mg,ac,bc))
def H1 (a b o:Array Keyed) (p q mg ac bc:Nat):StateT SortSt Sem HS:=do
 G5 mg
 let u <- elem' b (q-1)
 let x <- ph false u a 0 p (p-1)
 match x with
 | some f=>
  if p-f>0 then
   if (f==0)=true then
    pure (.done (some (a.extract 0 f++b.extract 0 q++(o++(a.extract f p).reverse).reverse),f,q,o++(a.extract f p).reverse,mg,p-f,bc))
   else H2 a b (o++(a.extract f p).reverse) f q mg (p-f) bc
  else H2 a b o p q mg (p-f) bc
 | _=>pure (.done (some (a.extract 0 p++b.extract 0 q++o.reverse),p,q,o,mg,ac,bc))
def E1 (a b:Array Keyed) (mg p q:Nat) (o:Array Keyed) (ac bc:Nat):StateT SortSt Sem (ForInStep (Option (Array Keyed)×Nat×Nat×Array Keyed×Nat×Nat)):=do
 let y <- elem' b (q-1)
 let x <- elem' a (p-1)
 match <- lt' y x with
 | some aw=>
  if aw=true then do
   let u <- elem' a (p-1)
   if (p-1==0)=true then pure (.done (some (a.extract 0 (p-1)++b.extract 0 q++(o.push u).reverse),p-1,q,o.push u,ac+1,0))
   else if ac+1>=mg then pure (.done (none,p-1,q,o.push u,ac+1,0))
   else pure (.yield (none,p-1,q,o.push u,ac+1,0))
  else do
   let u <- elem' b (q-1)
   if (q-1==1)=true then pure (.done (some (b.extract 0 (q-1)++a.extract 0 p++(o.push u).reverse),p,q-1,o.push u,0,bc+1))
   else if bc+1>=mg then pure (.done (none,p,q-1,o.push u,0,bc+1))
   else pure (.yield (none,p,q-1,o.push u,0,bc+1))
 | _=>pure (.done (some (a.extract 0 p++b.extract 0 q++o.reverse),p,q,o,ac,bc))
theorem Ko (a b:Array Keyed):Kd a b=(do
 rule "list.sort.merge-hi"
 let x <- elem' a (a.size-1)
 if (a.size-1==0)=true then pure (a.extract 0 (a.size-1)++b.extract 0 b.size++ #[x].reverse)
 else if (b.size==1)=true then pure (b.extract 0 b.size++a.extract 0 (a.size-1)++ #[x].reverse)
 else do
  let st <- get
  T5 (a.size+b.size) (E1 a b) (λ p q o mg ac bc=>H1 a b o p q mg ac bc) (none,a.size-1,b.size,#[x],gallopOf st)):=by kernel_rfl
structure Mh (B:Keyed->Keyed->Bool) (L1 L2 A1 A2 B1 B2 o:List Keyed):Prop where
 e1:L1=A1++A2
 e2:L2=B1++B2
 pm:o.Perm (A2++B2)
 sd:Sd B o
 le: ∀x∈o,∀y,y∈A1\/y∈B1->B x y=false
section
variable {B:Keyed->Keyed->Bool} {L1 L2 A1 A2 B1 B2 o K:List Keyed} {x y:Keyed}
theorem Mh.ak (k:Wk B) (s1:Sd B L1) (s2:Sd B L2) (m:Mh B L1 L2 (A1++K) A2 (B1++[y]) B2 o) (h: ∀x∈K,B y x=true):Mh B L1 L2 A1 (K++A2) (B1++[y]) B2 (K++o):=by
 obtain ⟨_,sK,sx⟩:=Yi.mp (Sd.lf (m.e1▸s1):Sd B (A1++K));obtain ⟨_,_,sy⟩:=Yi.mp (Sd.lf (m.e2▸s2):Sd B (B1++[y]));refine ⟨by rw [m.e1,Yk],m.e2,by rw [Yk];exact m.pm.append_left K,Yi.mpr ⟨sK,m.sd,λ u hu v hv=>m.le v hv u (.inl (Zw _ hu))⟩,λ u hu v hv=> ?_⟩;rcases Zi.mp hu with hu | hu
 .rcases hv with hv | hv
  .exact sx v hv u hu
  .rcases Zi.mp hv with hv | hv
   .exact k.tr (sy v hv y (Za.mpr rfl)) (k.an (h u hu))
   .rw [Za.mp hv];exact k.an (h u hu)
 .exact m.le u hu v (hv.imp (Zz _) id)
theorem Mh.bk (k:Wk B) (s1:Sd B L1) (s2:Sd B L2) (m:Mh B L1 L2 (A1++[x]) A2 (B1++K) B2 o) (h: ∀y∈K,B y x=false):Mh B L1 L2 (A1++[x]) A2 B1 (K++B2) (K++o):=by
 obtain ⟨_,sK,sx⟩:=Yi.mp (Sd.lf (m.e2▸s2):Sd B (B1++K));obtain ⟨_,_,sy⟩:=Yi.mp (Sd.lf (m.e1▸s1):Sd B (A1++[x]));refine ⟨m.e1,by rw [m.e2,Yk],?_,Yi.mpr ⟨sK,m.sd,λ u hu v hv=>m.le v hv u (.inr (Zw _ hu))⟩,λ u hu v hv=> ?_⟩
 .refine (m.pm.append_left K).trans ?_;rw [<- Yk,<- Yk];exact (List.perm_append_comm (l₁:=K)).append_right B2
 rcases Zi.mp hu with hu | hu
 .rcases hv with hv | hv
  .rcases Zi.mp hv with hv | hv
   .exact k.tr (sy v hv x (Za.mpr rfl)) (h u hu)
   .rw [Za.mp hv];exact h u hu
  .exact sx v hv u hu
 .exact m.le u hu v (hv.imp id (Zz _))
theorem Mh.a1 (k:Wk B) (s1:Sd B L1) (s2:Sd B L2) (m:Mh B L1 L2 (A1++[x]) A2 (B1++[y]) B2 o) (h:B y x=true):Mh B L1 L2 A1 (x::A2) (B1++[y]) B2 (x::o):=
 Mh.ak (K:=[x]) k s1 s2 m λ u hu=>by rw [Za.mp hu];exact h
theorem Mh.b1 (k:Wk B) (s1:Sd B L1) (s2:Sd B L2) (m:Mh B L1 L2 (A1++[x]) A2 (B1++[y]) B2 o) (h:B y x=false):Mh B L1 L2 (A1++[x]) A2 B1 (y::B2) (y::o):=
 Mh.bk (K:=[y]) k s1 s2 m λ u hu=>by rw [Za.mp hu];exact h
theorem ie {L:List Keyed} (e:L=A1++A2):L.toArray.extract 0 A1.length=A1.toArray:=by
 subst e;apply Array.toList_inj.mp;simp
theorem Mh.tl (m:Mh B L1 L2 A1 A2 B1 B2 o) {T:List Keyed} (hp:T.Perm (A1++B1)) (st:Sd B T):(T++o).Perm (L1++L2)/\Sd B (T++o):=by
 refine ⟨((hp.append m.pm).trans ?_),Yi.mpr ⟨st,m.sd,λ u hu v hv=>m.le v hv u (Zi.mp (hp.mem_iff.mp hu))⟩⟩;rw [m.e1,m.e2,Yk,Yk,<- Yk B1,<- Yk A2];exact ((List.perm_append_comm (l₁:=B1)).append_right B2).append_left A1
theorem Mh.dn (s2:Sd B L2) (m:Mh B L1 L2 A1 A2 B1 B2 o) (h:A1=[]):Gd B L1 L2 (L1.toArray.extract 0 A1.length++L2.toArray.extract 0 B1.length++o.reverse.toArray.reverse):=by
 subst h;rw [ie m.e1,ie m.e2];refine ⟨B1++o,by simp,m.tl (by rw [List.nil_append]) (Sd.lf (m.e2▸s2))⟩
theorem Mh.dn' (s1:Sd B L1) (m:Mh B L1 L2 A1 A2 B1 B2 o) (h:B1=[]):Gd B L1 L2 (L1.toArray.extract 0 A1.length++L2.toArray.extract 0 B1.length++o.reverse.toArray.reverse):=by
 subst h;rw [ie m.e1,ie m.e2];refine ⟨A1++o,by simp,m.tl (by rw [Xa]) (Sd.lf (m.e1▸s1))⟩
theorem Mh.fb (k:Wk B) (s1:Sd B L1) (h0: ∀y,L2.head?=some y-> ∀x∈L1,B y x=true) (m:Mh B L1 L2 A1 A2 B1 B2 o) (h:B1.length=1):Gd B L1 L2 (L2.toArray.extract 0 B1.length++L1.toArray.extract 0 A1.length++o.reverse.toArray.reverse):=by
 obtain ⟨y,rfl⟩:=Aa h;rw [ie m.e1,ie m.e2];refine ⟨[y]++A1++o,by simp,m.tl List.perm_append_comm (Yi.mpr ⟨List.pairwise_singleton _ _,Sd.lf (m.e1▸s1),λ u hu v hv=> ?_⟩)⟩;rw [Za.mp hu];exact k.an (h0 y (by rw [m.e2];rfl) v (by rw [m.e1];exact Zz _ hv))
theorem dC {l:List Keyed} (h:1<=l.length): ∃r x,l=r++[x]:=by
 rcases List.eq_nil_or_concat l with rfl | ⟨r,x,e⟩
 .cases h
 .exact ⟨r,x,by rw [e];simp⟩
theorem mv {L:List Keyed} (e:L=A1++[x]++A2):L=A1++x::A2:=by rw [e];simp
end
section
variable {prog:Program} {w:World} {A:Around} {E:Value->Shared->Prop} {s:Shared} {kd:SortKind} {a0:Array Keyed} {B:Keyed->Keyed->Bool} {st:SortSt} {L1 L2:List Keyed}
inductive PH (B:Keyed->Keyed->Bool) (L1 L2:List Keyed) (n:Nat):Nat->Nat->Array Keyed->Prop
 | mk {A1 A2 B1 B2 o:List Keyed} (m:Mh B L1 L2 A1 A2 B1 B2 o) (h1:1<=A1.length) (h2:2<=B1.length) (h3:n+1<=A2.length+B2.length):PH B L1 L2 n A1.length B1.length o.reverse.toArray
theorem T6 (o:List Keyed) (x:Keyed):o.reverse.toArray.push x=(x::o).reverse.toArray:=by simp
theorem Q5 (o K:List Keyed):o.reverse.toArray++K.toArray.reverse=(K++o).reverse.toArray:=by simp
theorem Ag (k:Wk B) (s1:Sd B L1) (s2:Sd B L2) (hg:Sg z st)
  {o:List Keyed} (m:Mh B L1 L2 (A1++[x]) A2 (B1++[y]) B2 o) (e:B y x=true) (hB1:1<=B1.length) (hn:n+1<=A2.length+B2.length):
  wpS (model prog w) A E s (H3 L1.toArray L2.toArray o.reverse.toArray (A1++[x]).length (B1++[y]).length mg ac bc) (λ r z'=>Sg z' st/\Sr (Gd B L1 L2) (PH B L1 L2) (n+1) r) z:=by
 unfold H3;have m':=m.a1 k s1 s2 e;rw [aZ A1 x,Nat.add_sub_cancel];refine Zy (b8 (mv m.e1) ?_);rw [T6];by_cases z1:A1.length=0
 .rw [if_pos (by simpa using z1)];exact Ye ⟨hg, .dn (m'.dn s2 (Zx z1))⟩
 .rw [if_neg (by simpa using z1)];have b:n+1+1<=(x::A2).length+B2.length:=by rw [Yu];rfl'
  by_cases z3:(decide (ac<7)&&decide (bc<7))=true
  .rw [if_pos z3];exact Ye ⟨hg, .go ⟨m',by rfl',by rw [aZ];rfl',b⟩⟩
  .rw [if_neg z3];exact Ye ⟨hg, .go ⟨m',by rfl',by rw [aZ];rfl',b⟩⟩
theorem Ah (k:Wk B) (hA:An (model prog w) A E s kd a0 B) (kn:kindOf st=kd) (tw: ∀x∈L1,∀y∈L2,Tw a0 y x) (s1:Sd B L1) (s2:Sd B L2) (h0: ∀y,L2.head?=some y-> ∀x∈L1,B y x=true) (hg:Sg z st)
  {o:List Keyed} (m:Mh B L1 L2 (A1++[x]) A2 (B1++[y]) B2 o) (e:B y x=false) (hB1:1<=B1.length) (hn:n+1<=A2.length+B2.length):
  wpS (model prog w) A E s (H2 L1.toArray L2.toArray o.reverse.toArray (A1++[x]).length (B1++[y]).length mg ac bc) (λ r z'=>Sg z' st/\Sr (Gd B L1 L2) (PH B L1 L2) (n+1) r) z:=by
 have kz:kindOf z=kd:=by obtain ⟨g,rfl⟩:=hg;exact kn
 unfold H2;have m':=m.b1 k s1 s2 e;rw [aZ B1 y,Nat.add_sub_cancel];refine Zy (b8 (mv m.e2) ?_);rw [T6];by_cases z1:B1.length=1
 .rw [if_pos (by simpa using z1)];exact Ye ⟨hg, .dn (m'.fb k s1 h0 z1)⟩
 rw [if_neg (by simpa using z1)];rw [show (A1++[x]).length-1=A1.length by rw [aZ,Nat.add_sub_cancel]];refine Zy (b8 (mv m.e1) ?_);have sB:Sd B B1:=Sd.lf (m'.e2▸s2);have hx:x∈L1:=by rw [m.e1];simp
 refine Zy (zY k hA kz (A1:=[]) (A2:=B1) (A3:=y::B2) m'.e2 sB (λ u hu=>tw x hx u (by rw [m'.e2];exact Zz _ hu)) (by rfl') λ K R eK hK hR=> ?_);dsimp only;subst eK;rw [show (K++R).length-K.length=R.length by simp];by_cases z2:R.length>0
 .have m2:=m'.bk k s1 s2 hR;rw [if_pos z2,show (K++R).length=K.length+R.length by simp,gZ (A2:=y::B2) (by rw [m'.e2];simp),Q5 (y::o) R];by_cases z3:K.length=1
  .rw [if_pos (by simpa using z3)];exact Ye ⟨hg, .dn (m2.fb k s1 h0 z3)⟩
  rw [if_neg (by simpa using z3)];by_cases z4:K.length=0
  .rw [if_pos (by simpa using z4)];exact Ye ⟨hg, .dn (m2.dn' s1 (Zx z4))⟩
  rw [if_neg (by simpa using z4)];obtain ⟨K',y2,rfl⟩:=dC (Wo z4);exact Ag k s1 s2 hg m2 (hK _ (by simp)) (by rw [aZ] at z3;rfl') (by simp only [Zg,Yu];rfl')
 .rw [if_neg z2];obtain rfl:R=[]:=Zx (by rfl');rw [Xa] at z1 m' hB1 ⊢;obtain ⟨K',y2,rfl⟩:=dC hB1;exact Ag k s1 s2 hg m' (hK _ (by simp)) (by rw [aZ] at z1;rfl') (by simp only [Zg,Yu];rfl')
theorem Kq (k:Wk B) (hA:An (model prog w) A E s kd a0 B) (kn:kindOf st=kd) (tw: ∀x∈L1,∀y∈L2,Tw a0 y x) (s1:Sd B L1) (s2:Sd B L2) (h0: ∀y,L2.head?=some y-> ∀x∈L1,B y x=true) (hg:Sg z st)
  {o:List Keyed} (m:Mh B L1 L2 A1 A2 B1 B2 o) (hA1:1<=A1.length) (hB1:2<=B1.length) (hn:n+1<=A2.length+B2.length):
  wpS (model prog w) A E s (H1 L1.toArray L2.toArray o.reverse.toArray A1.length B1.length mg ac bc) (λ r z'=>Sg z' st/\Sr (Gd B L1 L2) (PH B L1 L2) (n+1) r) z:=by
 obtain ⟨g,rfl⟩:=hg;unfold H1;refine Zy (pq ?_);obtain ⟨B1,y,rfl⟩:=dC (Xw hB1);have hy:y∈L2:=by rw [m.e2];simp
 have hg:Sg (SortSt.mk' (kindOf st) (arrOf st) (pendingOf st) mg (failedOf st)) st:=⟨_,rfl⟩;have kz:kindOf (SortSt.mk' (kindOf st) (arrOf st) (pendingOf st) mg (failedOf st))=kd:=kn;rw [show (B1++[y]).length-1=B1.length by rw [aZ,Nat.add_sub_cancel]];refine Zy (b8 (mv m.e2) ?_);have sA:Sd B A1:=Sd.lf (m.e1▸s1);refine Zy (zX k hA kz (A1:=[]) (A2:=A1) (A3:=A2) m.e1 sA (λ u hu=>tw u (by rw [m.e1];exact Zz _ hu) y hy) (by rfl') λ K R eK hK hR=> ?_);dsimp only;subst eK;rw [aZ] at hB1;rw [show (K++R).length-K.length=R.length by simp];by_cases z2:R.length>0
 .have m2:=m.ak k s1 s2 hR;rw [if_pos z2,show (K++R).length=K.length+R.length by simp,gZ (A2:=A2) (by rw [m.e1];simp),Q5 o R];by_cases z3:K.length=0
  .rw [if_pos (by simpa using z3)];exact Ye ⟨hg, .dn (m2.dn s2 (Zx z3))⟩
  rw [if_neg (by simpa using z3)];obtain ⟨K',x,rfl⟩:=dC (Wo z3);exact Ah k hA kn tw s1 s2 h0 hg m2 (hK _ (by simp)) (by rfl') (by simp only [Zg];rfl')
 .rw [if_neg z2];obtain rfl:R=[]:=Zx (by rfl');rw [Xa] at hA1 m ⊢;obtain ⟨K',x,rfl⟩:=dC hA1;exact Ah k hA kn tw s1 s2 h0 hg m (hK _ (by simp)) (by rfl') hn
theorem Kr (k:Wk B) (hA:An (model prog w) A E s kd a0 B) (kn:kindOf st=kd) (tw: ∀x∈L1,∀y∈L2,Tw a0 y x) (s1:Sd B L1) (s2:Sd B L2) (h0: ∀y,L2.head?=some y-> ∀x∈L1,B y x=true) (hg:Sg z st)
  {o:List Keyed} (m:Mh B L1 L2 (A1++[x]) A2 (B1++[y]) B2 o) (hB1:1<=B1.length) (hn:n+1<=A2.length+B2.length):
  wpS (model prog w) A E s (E1 L1.toArray L2.toArray mg (A1++[x]).length (B1++[y]).length o.reverse.toArray ac bc) (λ r z'=>z'=z/\Sr (Gd B L1 L2) (PH B L1 L2) (n+1) r) z:=by
 have kz:kindOf z=kd:=by obtain ⟨g,rfl⟩:=hg;exact kn
 unfold E1;have e3:(B1++[y]).length-1=B1.length:=by rw [aZ,Nat.add_sub_cancel]
 have e4:(A1++[x]).length-1=A1.length:=by rw [aZ,Nat.add_sub_cancel]
 rw [e3,e4];refine Zy (b8 (mv m.e2) (Zy (b8 (mv m.e1) (Zy (hA _ _ _ _ kz (tw x (by rw [m.e1];simp) y (by rw [m.e2];simp)) ?_)))));dsimp only
 cases e:B y x with
 | true=>
  rw [if_pos rfl];refine Zy (b8 (mv m.e1) ?_);have m':=m.a1 k s1 s2 e;rw [T6];by_cases z1:A1.length=0
  .rw [if_pos (by simpa using z1)];exact Ye ⟨rfl, .dn (m'.dn s2 (Zx z1))⟩
  .rw [if_neg (by simpa using z1)];have p:PH B L1 L2 (n+1) _ _ _:=⟨m',Wo z1,by rw [aZ];exact Nat.succ_le_succ hB1,by rw [Yu];rfl'⟩;by_cases z3:ac+1>=mg
   .rw [if_pos z3];exact Ye ⟨rfl, .go p⟩
   .rw [if_neg z3];exact Ye ⟨rfl, .go p⟩
 | false=>
  rw [if_neg Zr];refine Zy (b8 (mv m.e2) ?_);have m':=m.b1 k s1 s2 e;rw [T6];by_cases z1:B1.length=1
  .rw [if_pos (by simpa using z1)];exact Ye ⟨rfl, .dn (m'.fb k s1 h0 z1)⟩
  .rw [if_neg (by simpa using z1)];have p:PH B L1 L2 (n+1) _ _ _:=⟨m',by rw [aZ];exact Nat.succ_pos _,by rfl',by rw [Yu];rfl'⟩;by_cases z3:bc+1>=mg
   .rw [if_pos z3];exact Ye ⟨rfl, .go p⟩
   .rw [if_neg z3];exact Ye ⟨rfl, .go p⟩
theorem Q6 (k:Wk B) (hA:An (model prog w) A E s kd a0 B) (kn:kindOf st=kd) (tw: ∀x∈L1,∀y∈L2,Tw a0 y x) (s1:Sd B L1) (s2:Sd B L2) (h0: ∀y,L2.head?=some y-> ∀x∈L1,B y x=true):
  Gn prog w A E s st (Gd B L1 L2) (PH B L1 L2) (L1.toArray.size+L2.length) (E1 L1.toArray L2.toArray) (λ p q o mg ac bc=>H1 L1.toArray L2.toArray o p q mg ac bc) where
 mo:=λ h p=>by cases p with | mk m h1 h2 h3=>exact ⟨m,h1,h2,Yg (Nat.succ_le_succ h) h3⟩
 lt:=λ p=>by
  cases p with
  | mk m h1 h2 h3=>
   have l1:=Yt List.length m.e1;have l2:=Yt List.length m.e2;rw [Zg] at l1 l2;rw [Zu];rfl'
 f:=λ hg p=>by
  cases p with
  | mk m h1 h2 h3=>
   obtain ⟨A1,x1,rfl⟩:=dC h1;obtain ⟨B1,y1,rfl⟩:=dC (Xw h2);exact Kr k hA kn tw s1 s2 h0 hg m (by rw [aZ] at h2;rfl') h3
 g:=λ hg p=>by
  cases p with
  | mk m h1 h2 h3=>exact Kq k hA kn tw s1 s2 h0 hg m h1 h2 h3
theorem G9 (k:Wk B) (hA:An (model prog w) A E s kd a0 B) (kn:kindOf st=kd) (tw: ∀x∈L1,∀y∈L2,Tw a0 y x) (s1:Sd B L1) (s2:Sd B L2) (n1:1<=L1.length) (n2:1<=L2.length)
  (h0: ∀y,L2.head?=some y-> ∀x∈L1,B y x=true) (h9: ∀x,L1.getLast?=some x-> ∀y∈L2,B y x=true)
  (q: ∀r z,Gd B L1 L2 r->Sg z st->Q r z):wpS (model prog w) A E s (Kd L1.toArray L2.toArray) Q st:=by
 rw [Ko];refine Zy (wpS_lift (wpAny_rule ⟨rfl,?_⟩));obtain ⟨L1',x0,rfl⟩:=dC n1;obtain ⟨L2',y0,rfl⟩:=dC n2;have m0:Mh B (L1'++[x0]) (L2'++[y0]) L1' [x0] (L2'++[y0]) [] [x0]:=
  Mh.a1 (A2:=[]) (B2:=[]) (o:=[]) k s1 s2 ⟨by simp,by simp, .refl _, .nil,λ _ h=>by cases h⟩ (h9 x0 (lE rfl) y0 (by simp))
 have sz:(L1'++[x0]).toArray.size-1=L1'.length:=by simp
 have sz2:(L2'++[y0]).toArray.size=(L2'++[y0]).length:=by simp
 rw [sz,sz2];generalize L1'++[x0]=L1 at*;generalize L2'++[y0]=L2 at*;refine Zy (b8 m0.e1 ?_);by_cases z1:L1'.length=0
 .rw [if_pos (by simpa using z1)];exact Ye (q _ _ (m0.dn s2 (Zx z1)) (Sg.refl _))
 rw [if_neg (by simpa using z1)];by_cases z2:L2.length=1
 .rw [if_pos (by simpa using z2)];exact Ye (q _ _ (m0.fb k s1 h0 z2) (Sg.refl _))
 rw [if_neg (by simpa using z2)];refine Zy (wpS_get ?_);exact vZ (Q6 k hA kn tw s1 s2 h0) (PH.mk (o:=[x0]) m0 (by rfl') (by rfl') (Zk _)) q
end
theorem Ks (i:Nat):mergeAt' i=(do
 let s <- get
 let (some (sa,na,pw),some (sb,nb,_)):=((pendingOf s)[i]?,(pendingOf s)[i+1]?) | unsupported "internal:list.sort.pending"
 set (SortSt.mk' (kindOf s) (arrOf s) (((pendingOf s).setIfInBounds i (sa,na+nb,pw)).eraseIdxIfInBounds (i+1)) (gallopOf s) (failedOf s))
 let some k <- ph false (<- elem' (arrOf s) sb) (arrOf s) sa na 0 | return false
 let (sa,na):=(sa+k,na-k)
 if na==0 then return true
 let some nb <- ph true (<- elem' (arrOf s) (sa+na-1)) (arrOf s) sb nb (nb-1) | return false
 if nb==0 then return true
 let x:=(arrOf s).extract sa sb
 let y:=(arrOf s).extract sb (sb+nb)
 let mm <- if na<=nb then Kc x y else Kd x y
 modify λ s=>setArr s (mm.toList.zipIdx.foldl (λ a (p,j)=>a.setIfInBounds (sa+j) p) (arrOf s))
 return (failedOf (<- get)).isNone):=rfl
theorem wb (sa:Nat) (S:List Keyed): ∀ (l M P:List Keyed) (j:Nat),M.length=l.length->sa+j=P.length->((l.zipIdx j).foldl (λ (a:Array Keyed) (p:Keyed×Nat)=>a.setIfInBounds (sa+p.2) p.1) (P++(M++S)).toArray)=(P++(l++S)).toArray
 | [],M,P,j,h1,_=>by
  obtain rfl:M=[]:=Zx h1;rfl
 | x::l,M,P,j,h1,h2=>by
  obtain ⟨m,M,rfl⟩:=Yr (Nat.lt_of_lt_of_eq (Nat.succ_pos _) h1.symm);rw [List.zipIdx_cons,List.foldl_cons];have e:(P++(m::M++S)).toArray.setIfInBounds (sa+j) x=((P++[x])++(M++S)).toArray:=by
   apply Array.toList_inj.mp;rw [Array.toList_setIfInBounds,h2];simp
  dsimp only;rw [e,wb sa S l M (P++[x]) (j+1) (by simpa using h1) (by simp;rfl')];simp
theorem Ai {P L2:List Keyed} (hp:(P++(L1++(L2++S))).Perm a0.toList) (hx:x∈L1) (hy:y∈L2):Tw a0 y x:=by
 obtain ⟨a,b,rfl⟩:=List.append_of_mem hx;obtain ⟨c,d,rfl⟩:=List.append_of_mem hy;refine ⟨P++a++b++c++d++S,List.Perm.trans ?_ hp⟩;have h1:(P++(a++x::b++(c++y::d++S))).Perm (x::(P++a++(b++(c++y::d++S)))):=by
  rw [show P++(a++x::b++(c++y::d++S))=(P++a)++x::(b++(c++y::d++S)) by simp];exact List.perm_middle
 have h2:(P++a++(b++(c++y::d++S))).Perm (y::(P++a++b++c++d++S)):=by
  rw [show P++a++(b++(c++y::d++S))=(P++a++b++c)++y::(d++S) by simp,show P++a++b++c++d++S=(P++a++b++c)++(d++S) by simp];exact List.perm_middle
 exact ((List.Perm.swap x y _).trans (h2.symm.cons x)).trans h1.symm
section
variable {prog:Program} {w:World} {A:Around} {E:Value->Shared->Prop} {s:Shared} {kd:SortKind} {a0:Array Keyed} {B:Keyed->Keyed->Bool} {st:SortSt}
theorem Ga (k:Wk B) (hA:An (model prog w) A E s kd a0 B) (kn:kindOf st=kd) (fl:failedOf st=none) {pre post:List (Nat×Nat×Nat)} {P L2:List Keyed} {pw pw':Nat} {Q:Bool->SortSt->Prop}
  (hp:(pendingOf st).toList=pre++(P.length,L1.length,pw)::(P.length+L1.length,L2.length,pw')::post) (hx:arrOf st=(P++(L1++(L2++S))).toArray) (pm:(arrOf st).Perm a0) (s1:Sd B L1) (s2:Sd B L2) (n1:1<=L1.length) (n2:1<=L2.length)
  (q: ∀z L,kindOf z=kd->failedOf z=none->(pendingOf z).toList=pre++(P.length,L1.length+L2.length,pw)::post->L.Perm (L1++L2)->Sd B L->arrOf z=(P++(L++S)).toArray->Q true z):wpS (model prog w) A E s (mergeAt' pre.length) Q st:=by
 rw [Ks];refine Zy (wpS_get ?_);have p1:(pendingOf st)[pre.length]? =some (P.length,L1.length,pw):=by rw [<- Xf,hp];simp
 have p2:(pendingOf st)[pre.length+1]? =some (P.length+L1.length,L2.length,pw'):=by
  rw [<- Xf,hp,List.getElem?_append_right (Ws _ _),Nat.add_sub_cancel_left];rfl
 rw [p1,p2];dsimp only;have np:(((pendingOf st).setIfInBounds pre.length (P.length,L1.length+L2.length,pw)).eraseIdxIfInBounds (pre.length+1)).toList=pre++(P.length,L1.length+L2.length,pw)::post:=by
  rw [Array.toList_eraseIdxIfInBounds,Array.toList_setIfInBounds,hp,List.set_append_right _ _ (Zk _),Nat.sub_self,List.eraseIdx_append_of_length_le (Ws _ _),Nat.add_sub_cancel_left];rfl
 generalize ((pendingOf st).setIfInBounds pre.length (P.length,L1.length+L2.length,pw)).eraseIdxIfInBounds (pre.length+1)=p' at np ⊢;have hpm:(P++(L1++(L2++S))).Perm a0.toList:=by have:=Array.perm_iff_toList_perm.mp pm;rwa [hx] at this
 rw [hx];refine Zy (m:=set _) (wpS_modify (f:=λ _=>SortSt.mk' (kindOf st) (P++(L1++(L2++S))).toArray p' (gallopOf st) (failedOf st)) ?_);obtain ⟨y,L2',rfl⟩:=Yr n2;rw [<- Zg];refine Zy (b8 (A1:=P++L1) (x:=y) (A2:=L2'++S) (by simp) ?_);have kz:kindOf (SortSt.mk' (kindOf st) (P++(L1++(y::L2'++S))).toArray p' (gallopOf st) (failedOf st))=kd:=kn;refine Zy (zX k hA kz (A1:=P) (A2:=L1) (A3:=y::L2'++S) rfl s1 (λ u hu=>Ai hpm hu Zs) (by rfl') λ K R eK hK hR=> ?_);dsimp only;subst eK;have le2: ∀v∈y::L2',B v y=false:=λ v hv=>by
  rcases Zm.mp hv with rfl | hv
  .exact k.rf _
  .exact List.rel_of_pairwise_cons s2 hv
 rw [show (K++R).length-K.length=R.length by simp];by_cases z1:R.length=0
 .rw [if_pos (by simpa using z1)];obtain rfl:R=[]:=Zx z1;refine Ye (q _ (K++[]++y::L2') kn fl np (.refl _) (Yi.mpr ⟨s1,s2,λ u hu v hv=>k.tr (hK u (by simpa using hu)) (le2 v hv)⟩) (by simp))
 rw [if_neg (by simpa using z1)];obtain ⟨R',x,rfl⟩:=dC (Wo z1);rw [show P.length+K.length+(R'++[x]).length-1=(P++K++R').length by simp;rfl'];refine Zy (b8 (A1:=P++K++R') (x:=x) (A2:=y::L2'++S) (by simp) ?_);have hx1:x∈K++(R'++[x]):=by simp
 refine Zy (zY k hA kz (A1:=P++(K++(R'++[x]))) (A2:=y::L2') (A3:=S) (by simp) s2 (λ u hu=>Ai hpm hx1 hu) (by simp) λ K2 R2 eK2 hK2 hR2=> ?_);dsimp only;have lex: ∀u∈R'++[x],B x u=false:=λ u hu=>by
  rcases Zi.mp hu with hu | hu
  .exact (Yi.mp (Sd.rt s1:Sd B (R'++[x]))).2.2 u hu x (by simp)
  .rw [Za.mp hu];exact k.rf _
 have leK: ∀u∈K++(R'++[x]),B x u=false:=λ u hu=>by
  rcases Zi.mp hu with hu | hu
  .exact (Yi.mp s1).2.2 u hu x (by simp)
  .exact lex u hu
 by_cases z2:K2.length=0
 .rw [if_pos (by simpa using z2)];obtain rfl:K2=[]:=Zx z2;refine Ye (q _ (K++(R'++[x])++y::L2') kn fl np (.refl _) (Yi.mpr ⟨s1,s2,λ u hu v hv=>k.tr (leK u hu) (hR2 v (by rw [eK2] at hv;simpa using hv))⟩) (by simp))
 rw [if_neg (by simpa using z2)];obtain ⟨y',K2',rfl⟩:=Yr (Wo z2);obtain rfl:y=y':=(List.cons.inj eK2).1;obtain rfl:L2'=K2'++R2:=(List.cons.inj eK2).2;have x1:(P++(K++(R'++[x])++(y::(K2'++R2)++S))).toArray.extract (P.length+K.length) (P++(K++(R'++[x]))).length=(R'++[x]).toArray:=by
  have:=gZ (L:=P++(K++(R'++[x])++(y::(K2'++R2)++S))) (A1:=P++K) (K:=R'++[x]) (A2:=y::(K2'++R2)++S) (by simp);rw [<- this];congr 1<;>simp<;>rfl'
 have x2:(P++(K++(R'++[x])++(y::(K2'++R2)++S))).toArray.extract (P++(K++(R'++[x]))).length ((P++(K++(R'++[x]))).length+(y::K2').length)=(y::K2').toArray:=
  gZ (A1:=P++(K++(R'++[x]))) (K:=y::K2') (A2:=R2++S) (by simp)
 rw [x1,x2];have sR:Sd B (R'++[x]):=Sd.rt s1;have sK:Sd B (y::K2'):=Sd.lf (A2:=R2) s2;have fin: ∀r z,Gd B (R'++[x]) (y::K2') r->Sg z (SortSt.mk' (kindOf st) (P++(K++(R'++[x])++(y::(K2'++R2)++S))).toArray p' (gallopOf st) (failedOf st))->
   wpS (model prog w) A E s (do modify λ s=>setArr s (r.toList.zipIdx.foldl (λ a (p,j)=>a.setIfInBounds (P.length+K.length+j) p) (arrOf s));return (failedOf (<- get)).isNone) Q z:=by
  intro r z ⟨l,er,lp,ls⟩ ⟨g,ez⟩;subst er;subst ez;refine Zy (wpS_modify (Zy (wpS_get (Ye ?_))));have hw:=wb (P.length+K.length) (R2++S) l (R'++[x]++y::K2') (P++K) 0 (by rw [lp.length_eq]) (by simp);have e9:(P++(K++(R'++[x])++(y::(K2'++R2)++S))).toArray=((P++K)++(R'++[x]++y::K2'++(R2++S))).toArray:=by simp
  have key:=q (SortSt.mk' (kindOf st) ((P++K)++(l++(R2++S))).toArray p' g (failedOf st)) (K++l++R2) kn fl np ?_ ?_ (by simp)
  .rw [show (failedOf (setArr (SortSt.mk' (kindOf st) (P++(K++(R'++[x])++(y::(K2'++R2)++S))).toArray p' g (failedOf st)) _)).isNone=true from Yt Option.isNone fl];rw [<- hw,<- e9] at key;exact key
  .have:(K++l++R2).Perm (K++(R'++[x]++y::K2')++R2):=(lp.append_left K).append_right R2;simpa using this
  .have inl: ∀v∈l,v∈R'++[x]\/v∈y::K2':=λ v hv=>Zi.mp (lp.mem_iff.mp hv)
   have kle: ∀u∈K,∀v∈y::(K2'++R2),B v u=false:=λ u hu v hv=>k.tr (hK u hu) (le2 v hv)
   refine Yi.mpr ⟨List.pairwise_append.mpr ⟨Sd.lf s1,ls,λ u hu v hv=> ?_⟩,Sd.rt (A1:=y::K2') s2,λ u hu v hv=> ?_⟩
   .rcases inl v hv with hv | hv
    .exact (Yi.mp s1).2.2 u hu v hv
    .exact kle u hu v (Zz R2 hv)
   .rcases Zi.mp hu with hu | hu
    .exact kle u hu v (Zw (y::K2') hv)
    .rcases inl u hu with hu | hu
     .exact k.tr (lex u hu) (hR2 v hv)
     .exact (Yi.mp (show Sd B ((y::K2')++R2) from s2)).2.2 u hu v hv
 have tw': ∀u∈R'++[x],∀v∈y::K2',Tw a0 v u:=λ u hu v hv=>Ai hpm (Zw K hu) (Zz R2 hv)
 have g0: ∀u,(y::K2').head?=some u-> ∀v∈R'++[x],B u v=true:=λ u hu v hv=>by
  cases (Ym hu);exact hR v hv
 have g9: ∀u,(R'++[x]).getLast?=some u-> ∀v∈y::K2',B v u=true:=λ u hu v hv=>by
  rw [lE rfl] at hu
  cases (Ym hu);exact hK2 v hv
 by_cases z3:(R'++[x]).length<=(y::K2').length
 .rw [if_pos z3];exact Zy (G8 k hA kz tw' sR sK (by simp) (by simp) g0 g9 fin)
 .rw [if_neg z3];exact Zy (G9 k hA kz tw' sR sK (by simp) (by simp) g0 g9 fin)
end
end Sm
namespace Sm
open PySem PyProof.Rows
open Sx (Wk gt)
variable {S:List Keyed} {d i j src:Nat} {x0:Array Keyed} {pe:Array (Nat×Nat×Nat)} {Q:ForInStep (Option Unit×Nat)->SortSt->Prop}
def gl (xs:Array Keyed) (lo i:Nat):Keyed:=gt xs (lo+i)
def Up (B:Keyed->Keyed->Bool) (xs:Array Keyed) (lo k:Nat):Prop:= ∀i j,i<=j->j<k->B (gl xs lo j) (gl xs lo i)=false
def Dn (B:Keyed->Keyed->Bool) (xs:Array Keyed) (lo k:Nat):Prop:= ∀i j,i<=j->j<k->B (gl xs lo i) (gl xs lo j)=false
def Eb (B:Keyed->Keyed->Bool) (xs:Array Keyed) (lo l k:Nat):Prop:= ∀i j,l<=i->i<k->l<=j->j<k->B (gl xs lo i) (gl xs lo j)=false
structure Bl (kd:SortKind) (a0 x0:Array Keyed) (lo:Nat) (pe:Array (Nat×Nat×Nat)) (st:SortSt):Prop where
 pm:(arrOf st).Perm a0
 kn:kindOf st=kd
 fl:failedOf st=none
 pe:pendingOf st=pe
 pf: ∀i,i<lo->(arrOf st)[i]? =x0[i]?
section
variable {kd:SortKind} {a0 x0 xs:Array Keyed} {lo:Nat} {pe:Array (Nat×Nat×Nat)} {st:SortSt} {B:Keyed->Keyed->Bool} {k l m:Nat}
theorem Bl.sz (b:Bl kd a0 x0 lo pe st):(arrOf st).size=a0.size:=b.pm.size_eq
theorem Bl.mir (b:Bl kd a0 x0 lo pe st) (hm:lo+m<=a0.size):Bl kd a0 x0 lo pe (setArr st (mirror (arrOf st) (lo+l) (lo+m) ((lo+m-(lo+l)) / 2))):=
 ⟨(mirror_perm _ _ _ _).trans b.pm,b.kn,b.fl,b.pe,λ i hi=>by
  show (mirror (arrOf st) _ _ _)[i]? =_;rw [getElem?_mirror_all (by rw [b.sz];exact hm),if_neg (by rfl')];exact b.pf i hi⟩
theorem Bl.bub (b:Bl kd a0 x0 lo pe st) (hs:lo+src<a0.size) (hd:d<=src):Bl kd a0 x0 lo pe (setArr st (bubble (arrOf st) (lo+src) d)):=
 ⟨(bubble_perm _ _ _).trans b.pm,b.kn,b.fl,b.pe,λ i hi=>by
  show (bubble (arrOf st) _ _)[i]? =_;rw [getElem?_bubble (by rw [b.sz];exact hs) d (by rfl'),if_neg (by rfl'),if_neg (by rfl')];exact b.pf i hi⟩
theorem Aj (hs:lo+src<xs.size) (hd:d<=src):gl (bubble xs (lo+src) d) lo k=if k=src-d then gl xs lo src else if src-d<k/\k<=src then gl xs lo (k-1) else gl xs lo k:=by
 unfold gl;rw [Sx.K5 hs (by rfl')];by_cases h1:k=src-d
 .rw [if_pos h1,if_pos (by rfl')]
 .rw [if_neg h1,if_neg (by rfl')];by_cases h2:src-d<k/\k<=src
  .rw [if_pos h2,if_pos (by rfl'),show lo+k-1=lo+(k-1) by rfl']
  .rw [if_neg h2,if_neg (by rfl')]
theorem gJ (hm:lo+m<=xs.size):gl (mirror xs (lo+l) (lo+m) ((lo+m-(lo+l)) / 2)) lo k=if l<=k/\k<m then gl xs lo (l+m-1-k) else gl xs lo k:=by
 unfold gl;rw [Sx.K6 hm];by_cases h1:l<=k/\k<m
 .rw [if_pos h1,if_pos (by rfl'),show lo+l+(lo+m)-1-(lo+k)=lo+(l+m-1-k) by rfl']
 .rw [if_neg h1,if_neg (by rfl')]
theorem Up.one (o:Wk B):Up B xs lo 1:=λ i j h1 h2=>by
 have:i=j:=by rfl'
 rw [this];exact o.rf _
theorem Up.next (o:Wk B) (u:Up B xs lo k) (hk:1<=k) (e:B (gl xs lo k) (gl xs lo (k-1))=false):Up B xs lo (k+1):=λ i j h1 h2=>by
 by_cases hj:j<k
 .exact u i j h1 hj
 .obtain rfl:j=k:=by rfl'
  by_cases hi:i=j
  .rw [hi];exact o.rf _
  .exact o.tr (u i (j-1) (by rfl') (by rfl')) e
theorem Dn.next (o:Wk B) (u:Dn B xs lo k) (hk:1<=k) (e:B (gl xs lo (k-1)) (gl xs lo k)=false):Dn B xs lo (k+1):=λ i j h1 h2=>by
 by_cases hj:j<k
 .exact u i j h1 hj
 .obtain rfl:j=k:=by rfl'
  by_cases hi:i=j
  .rw [hi];exact o.rf _
  .exact o.tr e (u i (j-1) (by rfl') (by rfl'))
theorem Eb.one (o:Wk B):Eb B xs lo (k-1) k:=λ i j h1 h2 h3 h4=>by
 have:i=j:=by rfl'
 rw [this];exact o.rf _
theorem Eb.next (o:Wk B) (u:Eb B xs lo l k) (hl:l<k) (e1:B (gl xs lo k) (gl xs lo (k-1))=false) (e2:B (gl xs lo (k-1)) (gl xs lo k)=false):Eb B xs lo l (k+1):=λ i j h1 h2 h3 h4=>by
 by_cases hi:i<k
 .by_cases hj:j<k
  .exact u i j h1 hi h3 hj
  .obtain rfl:j=k:=by rfl'
   exact o.tr e2 (u i (j-1) h1 hi (by rfl') (by rfl'))
 .obtain rfl:i=k:=by rfl'
  by_cases hj:j<i
  .exact o.tr (u (i-1) j (by rfl') (by rfl') h3 hj) e1
  .obtain rfl:j=i:=by rfl'
   exact o.rf _
theorem Dn.mir (u:Dn B xs lo m) (q:Eb B xs lo l m) (hm:lo+m<=xs.size):Dn B (mirror xs (lo+l) (lo+m) ((lo+m-(lo+l)) / 2)) lo m:=λ i j h1 h2=>by
 rw [gJ hm,gJ hm];by_cases a:l<=i/\i<m
 .rw [if_pos a,if_pos (by rfl')];exact q _ _ (by rfl') (by rfl') (by rfl') (by rfl')
 .rw [if_neg a];by_cases c:l<=j/\j<m
  .rw [if_pos c];exact u _ _ (by rfl') (by rfl')
  .rw [if_neg c];exact u i j h1 h2
theorem Dn.up (u:Dn B xs lo m) (hm:lo+m<=xs.size):Up B (mirror xs (lo+0) (lo+m) ((lo+m-(lo+0)) / 2)) lo m:=λ i j h1 h2=>by
 rw [gJ hm,gJ hm,if_pos (by rfl'),if_pos (by rfl')];exact u _ _ (by rfl') (by rfl')
end
def xU (lo a n:Nat):StateT SortSt Sem AscSt:=
 forIn [a:n] ((none,a):AscSt) λ _ c=>do
  let x <- ltAt' (lo+c.2) (lo+c.2-1)
  match x with
  | some sm=>if sm=true then pure (.done (none,c.2)) else pure (.yield (none,c.2+1))
  | _=>pure (.done (some none,c.2))
def lF (lo n r:Nat):StateT SortSt Sem (Option Nat):=do
 reverseSlice' lo (lo+n)
 let c <- xU lo n r
 match c.1 with
 | some r=>pure r
 | none=>pure (some c.2)
def w6 (lo n r:Nat):StateT SortSt Sem DescSt:=
 forIn [n:r] ((none,n,0):DescSt) λ _ c=>do
  let x <- ltAt' (lo+c.2.1) (lo+c.2.1-1)
  match x with
  | some sm=>
   if sm=true then
    if c.2.2>0 then do
     reverseSlice' (lo+c.2.1-(c.2.2+1)) (lo+c.2.1)
     pure (.yield (none,c.2.1+1,0))
    else pure (.yield (none,c.2.1+1,0))
   else do
    let x <- ltAt' (lo+c.2.1-1) (lo+c.2.1)
    match x with
    | some lg=>
     if lg=true then pure (.done (none,c.2.1,c.2.2))
     else pure (.yield (none,c.2.1+1,c.2.2+1))
    | _=>pure (.done (some none,c.2.1,c.2.2))
  | _=>pure (.done (some none,c.2.1,c.2.2))
def qX (lo n r:Nat):StateT SortSt Sem (Option Nat):=do
 liftM (rule "list.sort.descending-run")
 let c <- w6 lo (n+1) r
 match c.1 with
 | some r=>pure r
 | none=>
  if c.2.2>0 then do
   reverseSlice' (lo+c.2.1-(c.2.2+1)) (lo+c.2.1)
   lF lo c.2.1 r
  else lF lo c.2.1 r
theorem Gb (lo r:Nat):countRun' lo r=(do
  let c <- xU lo 1 r
  match c.1 with
  | some r=>pure r
  | none=>
   if (c.2==r)=true then pure (some c.2)
   else if c.2>1 then do
    let x <- ltAt' lo (lo+c.2-1)
    match x with
    | some rs=>if rs=true then pure (some c.2) else do
      reverseSlice' lo (lo+c.2)
      qX lo c.2 r
    | _=>pure none
   else qX lo c.2 r):=by
 have bnd: ∀ {α β:Type} (m:StateT SortSt Sem α) (f g:α->StateT SortSt Sem β),(∀x,f x=g x)->(m >>= f)=(m >>= g):=λ m f g h=>by rw [funext h]
 rw [countRun'_eq];refine bnd (xU lo 1 r) _ _ λ c=> ?_
 obtain ⟨c1,n⟩:=c;have tl: ∀ (n:Nat) (f:AscSt->StateT SortSt Sem (Option Nat)),(∀c,f c=match c.1 with | some r=>pure r | none=>pure (some c.2))->(do reverseSlice' lo (lo+n);let c <- xU lo n r;f c)=lF lo n r:=
  λ n f hf=>bnd _ _ _ λ _=>bnd _ _ _ hf
 have pl: ∀ (n:Nat) (f:DescSt->StateT SortSt Sem (Option Nat)),(∀c,f c=match c.1 with | some r=>pure r | none=>if c.2.2>0 then (do reverseSlice' (lo+c.2.1-(c.2.2+1)) (lo+c.2.1);lF lo c.2.1 r) else lF lo c.2.1 r)->
   (do liftM (rule "list.sort.descending-run");let c <- w6 lo (n+1) r;f c)=qX lo n r:=
  λ n f hf=>bnd _ _ _ λ _=>bnd _ _ _ hf
 cases c1 with
 | some c1=>rfl
 | none=>
  dsimp only;split
  .rfl
  .split
   .refine bnd _ _ _ λ x=> ?_
    cases x with
    | none=>rfl
    | some rs=>
     dsimp only;split
     .rfl
     .refine bnd _ _ _ λ _=>pl n _ λ c=> ?_
      obtain ⟨r2,n2,q2⟩:=c
      cases r2 with
      | some r2=>rfl
      | none=>
       dsimp only;split
       .exact bnd _ _ _ λ _=>tl n2 _ λ c=>by obtain ⟨r3,n3⟩:=c;cases r3<;>rfl
       .exact tl n2 _ λ c=>by obtain ⟨r3,n3⟩:=c;cases r3<;>rfl
   .refine pl n _ λ c=> ?_
    obtain ⟨r2,n2,q2⟩:=c
    cases r2 with
    | some r2=>rfl
    | none=>
     dsimp only;split
     .exact bnd _ _ _ λ _=>tl n2 _ λ c=>by obtain ⟨r3,n3⟩:=c;cases r3<;>rfl
     .exact tl n2 _ λ c=>by obtain ⟨r3,n3⟩:=c;cases r3<;>rfl
section
variable {prog:Program} {w:World} {A:Around} {E:Value->Shared->Prop} {s:Shared} {kd:SortKind} {a0 x0:Array Keyed} {lo:Nat} {pe:Array (Nat×Nat×Nat)} {B:Keyed->Keyed->Bool} {st:SortSt} {n k:Nat}
theorem Ku {l:List Keyed} (hi:i<l.length) (hj:j<l.length) (h:i≠j): ∃r,(l[i]::l[j]::r).Perm l:=by
 have h1:(l[i]::l.eraseIdx i).Perm l:=by
  rw [List.eraseIdx_eq_take_drop_succ];refine List.perm_middle.symm.trans (List.Perm.of_eq ?_);rw [<- Xp hi,Wy]
 have h2:l[j]∈l.eraseIdx i:=List.mem_eraseIdx_iff_getElem.mpr ⟨j,hj,λ e=>h e.symm,rfl⟩;obtain ⟨a,b,e⟩:=List.append_of_mem h2;rw [e] at h1;exact ⟨a++b,(List.perm_middle.symm.cons _).trans h1⟩
theorem lG (hA:An (model prog w) A E s kd a0 B) (b:Bl kd a0 x0 lo pe st) {i' j':Nat} {Q:Option Bool->SortSt->Prop} (ei:i'=lo+i) (ej:j'=lo+j) (h:i≠j) (hi:lo+i<a0.size) (hj:lo+j<a0.size)
  (q:Q (some (B (gl (arrOf st) lo i) (gl (arrOf st) lo j))) st):wpS (model prog w) A E s (ltAt' i' j') Q st:=by
 subst ei;subst ej;have hi':lo+i<(arrOf st).size:=by rw [b.sz];exact hi
 have hj':lo+j<(arrOf st).size:=by rw [b.sz];exact hj
 have gi:gl (arrOf st) lo i=(arrOf st)[lo+i]:=by unfold gl gt;rw [getElem?_pos (arrOf st) (lo+i) hi'];rfl
 have gj:gl (arrOf st) lo j=(arrOf st)[lo+j]:=by unfold gl gt;rw [getElem?_pos (arrOf st) (lo+j) hj'];rfl
 rw [gi,gj] at q;rw [ltAt'_eq];refine Zy (wpS_get ?_);show wpS _ _ _ _ (do let x <- elem' (arrOf st) (lo+i);let y <- elem' (arrOf st) (lo+j);lt' x y) Q st;rw [elem'_eq,elem'_eq,getElem?_pos (arrOf st) (lo+i) hi',getElem?_pos (arrOf st) (lo+j) hj'];refine Zy (Ye (Zy (Ye (hA _ _ _ _ b.kn ?_ q))));obtain ⟨r,hr⟩:=Ku (l:=(arrOf st).toList) (i:=lo+i) (j:=lo+j) (by simpa using hi') (by simpa using hj') (by rfl');exact ⟨r,by simpa using hr.trans (Array.perm_iff_toList_perm.mp b.pm)⟩
theorem qY (o:Wk B) (hA:An (model prog w) A E s kd a0 B) {Q:AscSt->SortSt->Prop} (hn:lo+n<=a0.size) (hk:1<=k) (hkn:k<=n) (b:Bl kd a0 x0 lo pe st) (u:Up B (arrOf st) lo k)
  (h: ∀m,k<=m->m<=n->Up B (arrOf st) lo m->(m=n\/B (gl (arrOf st) lo m) (gl (arrOf st) lo (m-1))=true)->Q (none,m) st):wpS (model prog w) A E s (xU lo k n) Q st:=by
 unfold xU;refine wpS_forRange (I:=λ m c t=>c=(none,m)/\t=st/\Up B (arrOf st) lo m) (λ m c t h1 h2 hi=> ?_) (λ c t hi=> ?_) ⟨rfl,rfl,u⟩
 .obtain ⟨rfl,rfl,um⟩:=hi;refine Zy (lG hA b (i:=m) (j:=m-1) rfl (by dsimp only;rfl') (by rfl') (by rfl') (by rfl') ?_);dsimp only
  cases e:B (gl (arrOf t) lo m) (gl (arrOf t) lo (m-1)) with
  | true=>rw [if_pos rfl];exact Ye (h m h1 (by rfl') um (.inr e))
  | false=>rw [if_neg Zr];exact Ye ⟨rfl,rfl,um.next o (by rfl') e⟩
 .obtain ⟨rfl,rfl,um⟩:=hi;rw [show max k n=n from Nat.max_eq_right hkn] at um ⊢;exact h n hkn (Zk _) um (.inl rfl)
theorem ni (o:Wk B) (hA:An (model prog w) A E s kd a0 B) {Q:Option Nat->SortSt->Prop} (hn:lo+n<=a0.size) (hk:1<=k) (hkn:k<=n) (b:Bl kd a0 x0 lo pe st) (u:Dn B (arrOf st) lo k)
  (h: ∀m t,Bl kd a0 x0 lo pe t->1<=m->m<=n->Up B (arrOf t) lo m->Q (some m) t):wpS (model prog w) A E s (lF lo k n) Q st:=by
 unfold lF;refine Zy (wpS_reverse ?_);have b':=b.mir (l:=0) (m:=k) (by rfl');have u':=u.up (by rw [b.sz];rfl');rw [Nat.add_zero] at b' u';exact Zy (qY o hA hn hk hkn b' u' λ m h1 h2 um _=>Ye (h m _ b' (by rfl') h2 um))
theorem xV (o:Wk B) (hA:An (model prog w) A E s kd a0 B) {Q:DescSt->SortSt->Prop} (hn:lo+n<=a0.size) (hk:1<=k) (hkn:k<=n) (b:Bl kd a0 x0 lo pe st) (u:Dn B (arrOf st) lo k)
  (h: ∀m e t,Bl kd a0 x0 lo pe t->k<=m->m<=n->Dn B (arrOf t) lo m->e+1<=m->Eb B (arrOf t) lo (m-(e+1)) m->Q (none,m,e) t):wpS (model prog w) A E s (w6 lo k n) Q st:=by
 unfold w6;refine wpS_forRange (I:=λ m c t=> ∃e,c=(none,m,e)/\Bl kd a0 x0 lo pe t/\Dn B (arrOf t) lo m/\e+1<=m/\Eb B (arrOf t) lo (m-(e+1)) m) (λ m c t h1 h2 hi=> ?_) (λ c t hi=> ?_) ⟨0,rfl,b,u,hk,Eb.one o⟩
 .obtain ⟨e,rfl,bt,um,he,q⟩:=hi;have hsz:lo+m<=(arrOf t).size:=by rw [bt.sz];rfl'
  refine Zy (lG hA bt (i:=m) (j:=m-1) rfl (by dsimp only;rfl') (by rfl') (by rfl') (by rfl') ?_);dsimp only
  cases e1:B (gl (arrOf t) lo m) (gl (arrOf t) lo (m-1)) with
  | true=>
   rw [if_pos rfl];have dn:Dn B (arrOf t) lo (m+1):=um.next o (by rfl') (o.an e1);by_cases h0:e>0
   .rw [if_pos h0,show lo+m-(e+1)=lo+(m-(e+1)) by rfl'];refine Zy (wpS_reverse (Ye ⟨0,rfl,bt.mir (by rfl'),λ i j g1 g2=> ?_,by rfl',Eb.one o⟩));by_cases hj:j<m
    .exact (um.mir q hsz) i j g1 hj
    .obtain rfl:j=m:=by rfl'
     show B (gl (mirror (arrOf t) _ _ _) lo i) (gl (mirror (arrOf t) _ _ _) lo j)=false;rw [gJ hsz,gJ hsz,if_neg (show ¬ (_/\j<j) by rfl')];split
     .exact dn _ _ (by rfl') (by rfl')
     .exact dn _ _ g1 g2
   .rw [if_neg h0];exact Ye ⟨0,rfl,bt,dn,by rfl',Eb.one o⟩
  | false=>
   rw [if_neg Zr];refine Zy (lG hA bt (i:=m-1) (j:=m) (by rfl') rfl (by rfl') (by rfl') (by rfl') ?_);dsimp only
   cases e2:B (gl (arrOf t) lo (m-1)) (gl (arrOf t) lo m) with
   | true=>rw [if_pos rfl];exact Ye (h m e t bt h1 (by rfl') um he q)
   | false=>
    rw [if_neg Zr];refine Ye ⟨e+1,rfl,bt,um.next o (by rfl') e2,by rfl',?_⟩;rw [show m+1-(e+1+1)=m-(e+1) by rfl'];exact q.next o (by rfl') e1 e2
 .obtain ⟨e,rfl,bt,um,he,q⟩:=hi;rw [show max k n=n from Nat.max_eq_right hkn] at um he q ⊢;exact h n e t bt hkn (Zk _) um he q
theorem nj (o:Wk B) (hA:An (model prog w) A E s kd a0 B) {Q:Option Nat->SortSt->Prop} (hn:lo+n<=a0.size) (hkn:k+1<=n) (b:Bl kd a0 x0 lo pe st) (u:Dn B (arrOf st) lo (k+1))
  (h: ∀m t,Bl kd a0 x0 lo pe t->1<=m->m<=n->Up B (arrOf t) lo m->Q (some m) t):wpS (model prog w) A E s (qX lo k n) Q st:=by
 unfold qX;refine Zy (wpS_lift (wpAny_rule ⟨rfl,Zy (xV o hA hn (by rfl') hkn b u λ m e t bt h1 h2 um he q=> ?_)⟩));dsimp only;have hsz:lo+m<=(arrOf t).size:=by rw [bt.sz];rfl'
 by_cases h0:e>0
 .rw [if_pos h0,show lo+m-(e+1)=lo+(m-(e+1)) by rfl'];exact Zy (wpS_reverse (ni o hA hn (by rfl') h2 (bt.mir (by rfl')) (um.mir q hsz) h))
 .rw [if_neg h0];exact ni o hA hn (by rfl') h2 bt um h
theorem Ak (o:Wk B) (hA:An (model prog w) A E s kd a0 B) {Q:Option Nat->SortSt->Prop} (hn:lo+n<=a0.size) (h1n:1<=n) (b:Bl kd a0 x0 lo pe st)
  (h: ∀m t,Bl kd a0 x0 lo pe t->1<=m->m<=n->Up B (arrOf t) lo m->Q (some m) t):wpS (model prog w) A E s (countRun' lo n) Q st:=by
 rw [Gb];refine Zy (qY o hA hn (Zk 1) h1n b (Up.one o) λ m h1 h2 um hor=> ?_);dsimp only;by_cases hm:m=n
 .rw [if_pos (by simpa using hm)];exact Ye (h m st b h1 h2 um)
 .rw [if_neg (by simpa using hm)];have hlt:=hor.resolve_left hm;have hsz:lo+m<=(arrOf st).size:=by rw [b.sz];rfl'
  by_cases g:m>1
  .rw [if_pos g];refine Zy (lG hA b (i:=0) (j:=m-1) rfl (by rfl') (by rfl') (by rfl') (by rfl') ?_);dsimp only
   cases e:B (gl (arrOf st) lo 0) (gl (arrOf st) lo (m-1)) with
   | true=>rw [if_pos rfl];exact Ye (h m st b h1 h2 um)
   | false=>
    rw [if_neg Zr];have q:Eb B (arrOf st) lo 0 m:=λ i j _ hi _ hj=>o.tr (um j (m-1) (by rfl') (by rfl')) (o.tr e (um 0 i (by rfl') hi))
    have dn:Dn B (arrOf st) lo (m+1):=Dn.next o (λ i j _ hj=>q i j (by rfl') (by rfl') (by rfl') hj) h1 (o.an hlt);have b':=b.mir (l:=0) (m:=m) (by rfl');have d':Dn B (mirror (arrOf st) (lo+0) (lo+m) ((lo+m-(lo+0)) / 2)) lo (m+1):=λ i j g1 g2=>by
     rw [gJ hsz,gJ hsz];by_cases hj:j<m
     .rw [if_pos (by rfl'),if_pos (by rfl')];exact q _ _ (by rfl') (by rfl') (by rfl') (by rfl')
     .rw [if_neg (show ¬ (0<=j/\j<m) by rfl')];split
      .exact dn _ _ (by rfl') g2
      .exact dn _ _ g1 g2
    rw [Nat.add_zero] at b' d';exact Zy (wpS_reverse (nj o hA hn (by rfl') b' d' h))
  .rw [if_neg g];obtain rfl:m=1:=by rfl'
   exact nj o hA hn (by rfl') b (Dn.next o (λ i j g1 g2=>by rw [show i=j by rfl'];exact o.rf _) (Zk 1) (o.an hlt)) h
theorem Al (o:Wk B) (hA:An (model prog w) A E s kd a0 B) {Q:Bool->SortSt->Prop} (hn:lo+n<=a0.size) (hkn:k<=n) (b:Bl kd a0 x0 lo pe st) (u:Up B (arrOf st) lo k)
  (h: ∀t,Bl kd a0 x0 lo pe t->Up B (arrOf t) lo n->Q true t):wpS (model prog w) A E s (binarySort' lo n k) Q st:=by
 rw [binarySort'_eq];refine Zy (wpS_mono (wpS_forRange (I:=λ m c t=>c=(none,())/\Bl kd a0 x0 lo pe t/\Up B (arrOf t) lo (min m n)) (Q:=λ c t=>c=(none,())/\Bl kd a0 x0 lo pe t/\Up B (arrOf t) lo n) (λ m c t h1 h2 hi=> ?_) (λ c t hi=> ?_) ⟨rfl,b,λ i j g1 g2=> ?_⟩) λ c t hc=> ?_)
 .obtain ⟨rfl,bt,um⟩:=hi;rw [Nat.min_eq_left (Xw h2)] at um;have hm:lo+m<a0.size:=by rfl'
  refine Zy (wpS_mono (wpS_forRange (I:=λ x c t'=>t'=t/\ ∃l r,c=(none,l,r)/\l<=r/\r<=m/\r+x<=m+l/\(∀i,i<l->B (gl (arrOf t) lo m) (gl (arrOf t) lo i)=false)/\ ∀i,r<=i->i<m->B (gl (arrOf t) lo i) (gl (arrOf t) lo m)=false)
   (Q:=λ c t'=>t'=t/\ ∃l r,c=(none,l,r)/\l<=m/\(∀i,i<l->B (gl (arrOf t) lo m) (gl (arrOf t) lo i)=false)/\ ∀i,l<=i->i<m->B (gl (arrOf t) lo i) (gl (arrOf t) lo m)=false)
   (λ x c t' g1 g2 hi=> ?_) (λ c t' hi=> ?_) ⟨rfl,0,m,rfl,by rfl',by rfl',by rfl',λ i z=>by rfl',λ i z1 z2=>by rfl'⟩) λ c t' hc=> ?_)
  .obtain ⟨rfl,l,r,rfl,hlr,hrm,hx,lo',hi'⟩:=hi;dsimp only;by_cases ge:l>=r
   .rw [if_pos ge];obtain rfl:l=r:=by rfl'
    exact Ye ⟨rfl,l,l,rfl,hrm,lo',hi'⟩
   .rw [if_neg ge];have h1:l<=(l+r) / 2:=by clear hx lo' hi' um hrm h1 h2 g1 g2 hm hn hkn;rfl'
    have h2:(l+r) / 2<r:=by clear hx lo' hi' um hrm h1 h2 g1 g2 hm hn hkn;rfl'
    generalize (l+r) / 2=c at h1 h2 ⊢;have hcm:=Yc h2 hrm;refine Zy (lG hA bt (i:=m) (j:=c) rfl rfl (by rfl') hm (by rfl') ?_);dsimp only
    cases e:B (gl (arrOf t') lo m) (gl (arrOf t') lo c) with
    | true=>
     simp only [if_true];exact Ye ⟨rfl,l,c,rfl,h1,Xw hcm,by clear h1 hcm hm;rfl',lo',λ i z1 z2=>o.tr (o.an e) (um _ _ z1 z2)⟩
    | false=>
     simp only [Yl,Xr];exact Ye ⟨rfl,c+1,r,rfl,h2,hrm,by clear hcm hm;rfl',λ i z=>o.tr (um i c (Nat.le_of_lt_succ z) hcm) e,hi'⟩
  .obtain ⟨rfl,l,r,rfl,hlr,hrm,hx,lo',hi'⟩:=hi;obtain rfl:l=r:=by rfl'
   exact ⟨rfl,l,l,rfl,hrm,lo',hi'⟩
  .obtain ⟨rfl,l,r,rfl,hlm,lo',hi'⟩:=hc;show wpS _ _ _ _ (do moveDown' (lo+m) (lo+l);pure (ForInStep.yield (none,()))) _ _;rw [moveDown'_eq,show lo+m-(lo+l)=m-l by rfl'];refine Zy (wpS_modify (Ye ⟨rfl,bt.bub hm (by rfl'),?_⟩));rw [show min (m+1) n=m+1 by rfl'];have hsz:lo+m<(arrOf t').size:=by rw [bt.sz];exact hm
   intro i j g1 g2;show B (gl (bubble (arrOf t') (lo+m) (m-l)) lo j) (gl (bubble (arrOf t') (lo+m) (m-l)) lo i)=false;rw [Aj hsz (by rfl'),Aj hsz (by rfl'),Nat.sub_sub_self hlm];by_cases i1:i=l
   .rw [if_pos i1];by_cases j1:j=l
    .rw [if_pos j1];exact o.rf _
    .rw [if_neg j1,if_pos (by rfl')];exact hi' (j-1) (by rfl') (by rfl')
   .rw [if_neg i1];by_cases i2:l<i/\i<=m
    .rw [if_pos i2,if_neg (by rfl'),if_pos (by rfl')];exact um _ _ (by rfl') (by rfl')
    .rw [if_neg i2];by_cases j1:j=l
     .rw [if_pos j1];exact lo' i (by rfl')
     .rw [if_neg j1];by_cases j2:l<j/\j<=m
      .rw [if_pos j2];exact um _ _ (by rfl') (by rfl')
      .rw [if_neg j2];exact um _ _ g1 (by rfl')
 .obtain ⟨hc,bt,um⟩:=hi;refine ⟨hc,bt,?_⟩;rwa [show min (max (max k 1) n) n=n by rfl'] at um
 .by_cases h0:k=0
  .rw [show i=j by rfl'];exact o.rf _
  .exact u i j g1 (by rfl')
 .obtain ⟨rfl,bt,um⟩:=hc;exact Ye (h t bt um)
end
def Rn (B:Keyed->Keyed->Bool):Nat->List (Nat×Nat×Nat)->List Keyed->Prop
 | _,[],T=>T=[]
 | a,r::t,T=>r.1=a/\1<=r.2.1/\ ∃L T',T=L++T'/\L.length=r.2.1/\Sd B L/\Rn B (a+r.2.1) t T'
section
variable {B:Keyed->Keyed->Bool}
theorem Rn.app: ∀ {p q:List (Nat×Nat×Nat)} {a:Nat} {T:List Keyed},Rn B a (p++q) T-> ∃T1 T2,T=T1++T2/\Rn B a p T1/\Rn B (a+T1.length) q T2
 | [],q,a,T,h=>⟨[],T,rfl,rfl,h⟩
 | r::p,q,a,T,h=>by
  obtain ⟨h1,h2,L,T',rfl,h3,h4,h5⟩:=h;obtain ⟨T1,T2,rfl,h6,h7⟩:=Rn.app h5;refine ⟨L++T1,T2,by simp,⟨h1,h2,L,T1,rfl,h3,h4,h6⟩,?_⟩;rw [Zg,h3,<- Nat.add_assoc];exact h7
theorem Rn.cat: ∀ {p q:List (Nat×Nat×Nat)} {a:Nat} {T1 T2:List Keyed},Rn B a p T1->Rn B (a+T1.length) q T2->Rn B a (p++q) (T1++T2)
 | [],q,a,T1,T2,h,g=>by
  obtain rfl:T1=[]:=h;exact g
 | r::p,q,a,T1,T2,h,g=>by
  obtain ⟨h1,h2,L,T',rfl,h3,h4,h5⟩:=h;refine ⟨h1,h2,L,T'++T2,by simp,h3,h4,Rn.cat h5 ?_⟩;rw [Zg,h3,<- Nat.add_assoc] at g;exact g
theorem Rn.len: ∀ {p:List (Nat×Nat×Nat)} {a:Nat} {T:List Keyed},Rn B a p T->p.length<=T.length
 | [],a,T,h=>Yz _
 | r::p,a,T,h=>by
  obtain ⟨h1,h2,L,T',rfl,h3,h4,h5⟩:=h;have:=Rn.len h5;rw [Zg,Yu];rfl'
theorem Rn.mod (f:Nat×Nat×Nat->Nat×Nat×Nat) (hf: ∀r,(f r).1=r.1/\(f r).2.1=r.2.1): ∀ {p:List (Nat×Nat×Nat)} {a i:Nat} {T:List Keyed},Rn B a p T->Rn B a (p.modify i f) T
 | [],a,i,T,h=>by rw [List.modify_nil];exact h
 | r::p,a,0,T,h=>by
  rw [List.modify_zero_cons];show (f r).1=a/\1<=(f r).2.1/\ ∃L T',T=L++T'/\L.length=(f r).2.1/\Sd B L/\Rn B (a+(f r).2.1) p T';rw [(hf r).1,(hf r).2];exact h
 | r::p,a,i+1,T,h=>by
  rw [List.modify_succ_cons];obtain ⟨h1,h2,L,T',rfl,h3,h4,h5⟩:=h;exact ⟨h1,h2,L,T',rfl,h3,h4,Rn.mod f hf h5⟩
end
structure Jn (kd:SortKind) (a0:Array Keyed) (B:Keyed->Keyed->Bool) (st:SortSt) (T S:List Keyed):Prop where
 kn:kindOf st=kd
 fl:failedOf st=none
 pm:(arrOf st).Perm a0
 ar:arrOf st=(T++S).toArray
 rn:Rn B 0 (pendingOf st).toList T
section
variable {prog:Program} {w:World} {A:Around} {E:Value->Shared->Prop} {s:Shared} {kd:SortKind} {a0:Array Keyed} {B:Keyed->Keyed->Bool} {st:SortSt}
theorem Am (k:Wk B) (hA:An (model prog w) A E s kd a0 B) {T:List Keyed} (j:Jn kd a0 B st T S) (hi:i+1<(pendingOf st).size) {Q:Bool->SortSt->Prop}
  (q: ∀z T',Jn kd a0 B z T' S->T'.length=T.length->(pendingOf z).size+1=(pendingOf st).size->Q true z):wpS (model prog w) A E s (mergeAt' i) Q st:=by
 have hl:i+1<(pendingOf st).toList.length:=by simpa using hi
 obtain ⟨pre,e1,e2,post,ep,rfl⟩: ∃pre e1 e2 post,(pendingOf st).toList=pre++e1::e2::post/\pre.length=i:=by
  refine ⟨(pendingOf st).toList.take i,(pendingOf st).toList[i],(pendingOf st).toList[i+1],(pendingOf st).toList.drop (i+2),?_,by rw [Yd];rfl'⟩;rw [<- Xp hl,<- Xp (Nat.lt_of_succ_lt hl),Wy]
 have rn:=j.rn;rw [ep] at rn;obtain ⟨P,T2,rfl,r1,r2⟩:=rn.app;obtain ⟨h1,h2,L1,T3,rfl,h3,h4,h5⟩:=r2;obtain ⟨g1,g2,L2,T4,rfl,g3,g4,g5⟩:=h5;obtain ⟨s1,n1,w1⟩:=e1;obtain ⟨s2,n2,w2⟩:=e2;dsimp only at h1 h2 h3 g1 g2 g3 g5;subst h3;subst g3;rw [Nat.zero_add] at h1 g1 g5;subst h1;subst g1;refine Ga k hA j.kn j.fl (L1:=L1) (L2:=L2) (S:=T4++S) ep (by rw [j.ar];simp) j.pm h4 g4 h2 g2 λ z L a1 a2 a3 a4 a5 a6=> ?_
 refine q z (P++(L++T4)) ⟨a1,a2,?_,by rw [a6];simp,?_⟩ (by simp [a4.length_eq];rfl') ?_
 .rw [a6];refine Array.Perm.trans ?_ j.pm;rw [j.ar,Array.perm_iff_toList_perm];have:(P++(L++(T4++S))).Perm (P++(L1++L2++(T4++S))):=(a4.append_right _).append_left P;simpa using this
 .rw [a3];refine Rn.cat r1 ⟨by simp,by dsimp only;rfl',L,T4,rfl,by rw [a4.length_eq,Zg],a5,?_⟩;rw [Nat.zero_add,show P.length+(L1.length+L2.length)=P.length+L1.length+L2.length by rfl'];exact g5
 .have b1:=Yt List.length a3;have b2:=Yt List.length ep;simp at b1 b2;rfl'
def Ge (lo n:Nat):StateT SortSt Sem (ForInStep (Option Unit×Nat)):=do
 modify λ s=>setPending s ((pendingOf s).push (lo,n,0))
 pure (.yield (none,lo+n))
def tZ (sz lo n:Nat):StateT SortSt Sem (ForInStep (Option Unit×Nat)):=do
 let z <- get
 match (pendingOf z).back? with
 | some (s1,n1,_)=>do
  let c <- forIn [0:sz] ((none,()):Option Unit×Unit) λ _ _=>do
   let z <- get
   match if (pendingOf z).size>1 then (pendingOf z)[(pendingOf z).size-2]? else none with
   | some (_,_,ol)=>
    if ol<=power' sz (2*s1+n1) (2*s1+n1+n1+n) sz then pure (.done (none,()))
    else do
     let b <- mergeAt' ((pendingOf z).size-2)
     if (!b)=true then pure (.done (some (),())) else pure (.yield (none,()))
   | _=>pure (.done (none,()))
  match c.1 with
  | some r=>pure (.done (some r,lo))
  | none=>do
   let _ <- modify λ s=>setPending s ((pendingOf s).modify ((pendingOf s).size-1) λ r=>(r.1,r.2.1,power' sz (2*s1+n1) (2*s1+n1+n1+n) sz))
   Ge lo n
 | _=>Ge lo n
end
section
variable {prog:Program} {w:World} {A:Around} {E:Value->Shared->Prop} {s:Shared} {kd:SortKind} {a0:Array Keyed} {B:Keyed->Keyed->Bool} {st:SortSt}
def Js (kd:SortKind) (a0:Array Keyed) (B:Keyed->Keyed->Bool) (n:Nat) (z:SortSt):ForInStep (Option Unit×Nat)->Prop
 | .done _=>False
 | .yield c=> ∃T S,c=(none,List.length T)/\Jn kd a0 B z T S/\T.length=n
theorem qZ {T L:List Keyed} (j:Jn kd a0 B st T (L++S)) (hL:1<=L.length) (sd:Sd B L) (q: ∀z r,Js kd a0 B (T.length+L.length) z r->Q r z):
  wpS (model prog w) A E s (Ge T.length L.length) Q st:=by
 unfold Ge;refine Zy (wpS_modify (Ye (q _ _ ⟨T++L,S,by rw [Zg],⟨j.kn,j.fl,j.pm,by show arrOf st=_;rw [j.ar];simp,?_⟩,by rw [Zg]⟩)));show Rn B 0 ((pendingOf st).push (T.length,L.length,0)).toList (T++L);rw [Array.toList_push];exact Rn.cat j.rn ⟨by simp,hL,L,[],by simp,rfl,sd,rfl⟩
theorem Ao (k:Wk B) (hA:An (model prog w) A E s kd a0 B) {sz:Nat} {T L:List Keyed} (j:Jn kd a0 B st T (L++S)) (hL:1<=L.length) (sd:Sd B L) (q: ∀z r,Js kd a0 B (T.length+L.length) z r->Q r z):
  wpS (model prog w) A E s (tZ sz T.length L.length) Q st:=by
 unfold tZ;refine Zy (wpS_get ?_);rcases (pendingOf st).back? with _ | ⟨s1,n1,w1⟩
 .exact qZ j hL sd q
 dsimp only;refine Zy (wpS_mono (wpS_forRange (I:=λ _ c z=>c=(none,())/\ ∃T',Jn kd a0 B z T' (L++S)/\T'.length=T.length) (Q:=λ c z=>c=(none,())/\ ∃T',Jn kd a0 B z T' (L++S)/\T'.length=T.length)
  (λ x c z g1 g2 hI=> ?_) (λ _ _ h=>h) ⟨rfl,T,j,rfl⟩) λ c z hc=> ?_)
 .obtain ⟨rfl,T',j',hT⟩:=hI;refine Zy (wpS_get ?_);by_cases z1:(pendingOf z).size>1
  .rw [if_pos z1,getElem?_pos (pendingOf z) ((pendingOf z).size-2) (by rfl')];obtain ⟨u1,u2,u3⟩:=(pendingOf z)[(pendingOf z).size-2];dsimp only;by_cases z2:u3<=power' sz (2*s1+n1) (2*s1+n1+n1+L.length) sz
   .rw [if_pos z2];exact Ye ⟨rfl,T',j',hT⟩
   .rw [if_neg z2];refine Zy (Am k hA j' (by rfl') λ z' T2 j2 h2 _=> ?_);rw [if_neg (by decide)];exact Ye ⟨rfl,T2,j2,by rfl'⟩
  .rw [if_neg z1];exact Ye ⟨rfl,T',j',hT⟩
 .obtain ⟨rfl,T',j',hT⟩:=hc;dsimp only;refine Zy (wpS_modify ?_);rw [<- hT] at q ⊢;refine qZ (T:=T') (L:=L) (S:=S) ⟨j'.kn,j'.fl,j'.pm,j'.ar,?_⟩ hL sd q;show Rn B 0 ((pendingOf z).modify _ _).toList T';rw [Array.toList_modify];exact Rn.mod (λ r=>(r.1,r.2.1,power' sz (2*s1+n1) (2*s1+n1+n1+L.length) sz)) (λ r=>⟨rfl,rfl⟩) j'.rn
theorem wg {T:List Keyed} (hi:i<S.length):gl (T++S).toArray T.length i=S[i]:=by
 unfold gl gt;rw [Wx,List.getElem?_append_right (Ws _ _),Nat.add_sub_cancel_left,Zd hi];rfl
theorem Gf {T:List Keyed} {m:Nat} (hm:m<=S.length) (u:Up B (T++S).toArray T.length m):Sd B (S.take m):=by
 refine List.pairwise_iff_getElem.mpr λ i j hi hj hij=> ?_
 rw [Yd] at hi hj;have:=u i j (Xw hij) (by rfl');rw [wg (by rfl'),wg (by rfl')] at this;rw [List.getElem_take,List.getElem_take];exact this
theorem Gg {T:List Keyed} (hx:x0=(T++S).toArray) (b:Bl kd a0 x0 T.length pe st): ∃S',arrOf st=(T++S').toArray:=by
 refine ⟨(arrOf st).toList.drop T.length,?_⟩;apply Array.toList_inj.mp;rw [List.toList_toArray];have:(arrOf st).toList.take T.length=T:=by
  apply List.ext_getElem?;intro i;rw [List.getElem?_take];by_cases h:i<T.length
  .rw [if_pos h,Xf,b.pf i h,hx,Wx,List.getElem?_append_left h]
  .rw [if_neg h,List.getElem?_eq_none (by rfl')]
 conv=>lhs;rw [<- Wy T.length (arrOf st).toList,this]
theorem Gh (k:Wk B) (hA:An (model prog w) A E s kd a0 B) {Q:Unit->SortSt->Prop} (kn:kindOf st=kd) (fl:failedOf st=none) (pe:pendingOf st= #[]) (pm:(arrOf st).Perm a0) (h2:1<=a0.size)
  (q: ∀t,(arrOf t).Perm a0->failedOf t=none->Sd B (arrOf t).toList->Q () t):wpS (model prog w) A E s sortRuns' Q st:=by
 rw [sortRuns'_eq];refine Zy (wpS_get ?_);dsimp only;rw [pm.size_eq];have len: ∀ {z:SortSt} {T S:List Keyed},Jn kd a0 B z T S->T.length+S.length=a0.size:=λ {z T S} j=>by
  rw [<- j.pm.size_eq,j.ar];simp
 refine Zy (wpS_mono (wpS_forRange (I:=λ x c z=> ∃T S,c=(none,List.length T)/\Jn kd a0 B z T S/\(x<=T.length\/S=[])) (Q:=λ c z=> ∃T,c=(none,List.length T)/\Jn kd a0 B z T [])
  (λ x c z g1 g2 hI=> ?_) (λ c z hI=> ?_) ⟨[],(arrOf st).toList,rfl,⟨kn,fl,pm,by simp,by rw [pe];rfl⟩, .inl (Zk _)⟩) λ c z hc=> ?_)
 .obtain ⟨T,S,rfl,j,hx⟩:=hI;dsimp only;have hl:=len j;by_cases z1:T.length>=a0.size
  .rw [if_pos z1];obtain rfl:S=[]:=Zx (by rfl');exact Ye ⟨T,rfl,j⟩
  rw [if_neg z1];have b0:Bl kd a0 (arrOf z) T.length (pendingOf z) z:=⟨j.pm,j.kn,j.fl,rfl,λ _ _=>rfl⟩;have key: ∀ (m:Nat) (t:SortSt),Bl kd a0 (arrOf z) T.length (pendingOf z) t->1<=m->m<=a0.size-T.length->Up B (arrOf t) T.length m->
    wpS (model prog w) A E s (tZ a0.size T.length m) (λ r st'=>match r with | .done c'=> ∃T,c'=(none,List.length T)/\Jn kd a0 B st' T [] | .yield c'=> ∃T S,c'=(none,List.length T)/\Jn kd a0 B st' T S/\(x+1<=T.length\/S=[])) t:=by
   intro m t b hm1 hm2 u;obtain ⟨S',eS⟩:=Gg j.ar b;have hl2:T.length+S'.length=a0.size:=by rw [<- b.pm.size_eq,eS];simp
   rw [eS] at u;have sd:=Gf (by rfl') u;have hm:(S'.take m).length=m:=by rw [Yd];rfl'
   have hr:=Ao (prog:=prog) (w:=w) (A:=A) (E:=E) (s:=s) (st:=t) k hA (sz:=a0.size) (T:=T) (L:=S'.take m) (S:=S'.drop m)
    (Q:=λ r st'=>match r with | .done c'=> ∃T,c'=(none,List.length T)/\Jn kd a0 B st' T [] | .yield c'=> ∃T S,c'=(none,List.length T)/\Jn kd a0 B st' T S/\(x+1<=T.length\/S=[]))
    ⟨b.kn,b.fl,b.pm,by rw [Wy];exact eS,by rw [b.pe];exact j.rn⟩ (by rfl') sd (λ z' r hz=>by
     cases r with
     | done c'=>exact hz.elim
     | yield c'=>
      obtain ⟨T2,S2,rfl,j2,h9⟩:=hz;refine ⟨T2,S2,rfl,j2,?_⟩;rcases hx with hx | hx
      .exact .inl (by rfl')
      .rw [hx] at hl;simp at hl;rfl')
   rw [hm] at hr;exact hr
  have tst: ∀t (f g:StateT SortSt Sem (ForInStep (Option Unit×Nat))) R,f=g->wpS (model prog w) A E s f R t->wpS (model prog w) A E s g R t:=λ t f g R e h=>e▸h
  have bnd: ∀ {α β:Type} (m:StateT SortSt Sem α) (f g:α->StateT SortSt Sem β),(∀x,f x=g x)->(m >>= f)=(m >>= g):=λ m f g h=>by rw [funext h]
  refine Zy (Ak k hA (n:=a0.size-T.length) (by rfl') (by rfl') b0 λ m t b hm1 hm2 u=> ?_);dsimp only;by_cases z2:m<minRun' a0.size a0.size 0
  .rw [if_pos z2];refine Zy (wpS_lift (wpAny_rule ⟨rfl,Zy (Al k hA (n:=min (a0.size-T.length) (minRun' a0.size a0.size 0)) (by rfl') (by rfl') b u λ t3 b3 u3=> ?_)⟩));rw [if_neg (by decide)];refine tst t3 (tZ a0.size T.length _) _ _ ?_ (wpS_mono (key _ t3 b3 (by rfl') (by rfl') u3) λ r _ h=>by cases r<;>exact h);unfold tZ;refine bnd _ _ _ λ z=> ?_
   rcases (pendingOf z).back? with _ | ⟨s1,n1,w1⟩
   .rfl
   .refine bnd _ _ _ λ c=> ?_
    obtain ⟨c1,c2⟩:=c
    cases c1 with
    | some _=>rfl
    | none=>rfl
  .rw [if_neg z2];refine tst t (tZ a0.size T.length m) _ _ ?_ (wpS_mono (key m t b hm1 hm2 u) λ r _ h=>by cases r<;>exact h);unfold tZ;refine bnd _ _ _ λ z=> ?_
   rcases (pendingOf z).back? with _ | ⟨s1,n1,w1⟩
   .rfl
   .refine bnd _ _ _ λ c=> ?_
    obtain ⟨c1,c2⟩:=c
    cases c1 with
    | some _=>rfl
    | none=>rfl
 .obtain ⟨T,S,rfl,j,hx⟩:=hI;have hl:=len j;rcases hx with hx | rfl
  .obtain rfl:S=[]:=Zx (by rfl');exact ⟨T,rfl,j⟩
  .exact ⟨T,rfl,j⟩
 .obtain ⟨T,rfl,j⟩:=hc;dsimp only;refine Zy (wpS_mono (wpS_forRange (I:=λ x c z=>c=(none,())/\ ∃T,Jn kd a0 B z T []/\(pendingOf z).size+x<=a0.size+1) (Q:=λ c z=>c=(none,())/\ ∃T,Jn kd a0 B z T []/\(pendingOf z).size<=1)
   (λ x c z g1 g2 hI=> ?_) (λ c z hI=> ?_) ⟨rfl,T,j,?_⟩) λ c z hc=> ?_)
  .obtain ⟨rfl,T,j,hx⟩:=hI;refine Zy (wpS_get ?_);by_cases z1:(pendingOf z).size<=1
   .rw [if_pos z1];exact Ye ⟨rfl,T,j,z1⟩
   rw [if_neg z1];have fin: ∀i,i+1<(pendingOf z).size->wpS (model prog w) A E s (do let b <- mergeAt' i;if (!b)=true then pure (ForInStep.done (some (),())) else pure (ForInStep.yield (none,()))) (λ r st'=>match r with | .done c'=>c'=(none,())/\ ∃T,Jn kd a0 B st' T []/\(pendingOf st').size<=1 | .yield c'=>c'=(none,())/\ ∃T,Jn kd a0 B st' T []/\(pendingOf st').size+(x+1)<=a0.size+1) z:=λ i hi=>by
    refine Zy (Am k hA j hi λ z' T2 j2 h2 h3=> ?_);rw [if_neg (by decide)];exact Ye ⟨rfl,T2,j2,by rfl'⟩
   refine wpS_mono (fin _ ?_) λ r _ h=>by cases r<;>exact h
   have le: ∀ (c:Prop) [Decidable c] (n:Nat),(if c then n-1 else n)<=n:=λ c _ n=>by split<;>rfl'
   exact Yb (Nat.succ_le_succ (le _ _)) (by rfl')
  .obtain ⟨rfl,T,j,hx⟩:=hI;rw [show max 0 a0.size=a0.size by rfl'] at hx;exact ⟨rfl,T,j,by rfl'⟩
  .have l1:=j.rn.len;have l2:=len j;rw [Xm] at l1;simp at l2;rfl'
  .obtain ⟨rfl,T,j,hx⟩:=hc;refine Ye (q z j.pm j.fl ?_);rw [j.ar,Xa];have rn:=j.rn;have l2:=len j
   match hp:(pendingOf z).toList,rn,hx with
   | [],rn,_=>
    have:T=[]:=rn;subst this;simp at l2;rfl'
   | [r],rn,_=>
    obtain ⟨h1,h2,L,T',rfl,h3,h4,h5⟩:=rn;obtain rfl:T'=[]:=h5;simpa using h4
   | a::b::c,_,hx=>
    have:=Yt List.length hp;simp at this;rfl'
end
end Sm
end
section
namespace Sx
open PySem PyProof.Rows
variable {Q:Value->Shared->Prop}
section
variable {prog:Program} {w:World} {A:Around} {E:Value->Shared->Prop} {s:Shared} {kd:SortKind} {a0:Array Keyed} {B:Keyed->Keyed->Bool} {st:SortSt} {n k:Nat}
theorem xW (o:Wk B) {a:Addr} {vs:List Value} {n:Nat} {P:Fin->Shared->Prop} (ho:s.heap.get? a=some (seqObj "list" vs.toArray n)) (h64:vs.length<100000)
  (hK:2<=vs.length->wpAny (model prog w) A (keyKind' vs.toArray) (λ k s'=>s'={ s with heap:=mid s.heap a vs }/\k=kd) E { s with heap:=mid s.heap a vs })
  (hA:Sm.An (model prog w) A E { s with heap:=mid s.heap a vs } kd (pairsOf vs) B)
  (h: ∀out:Array Keyed,out.Perm (pairsOf vs)->Sm.Sd B out.toList->P (.done (.ret .none)) { s with heap:=sortedHeap s.heap a vs (out.map (·.2)) }):
  wpAny (model prog w) A (Builtin.«list.sort» ⟨[.ref a],[]⟩) P E s:=by
 rw [list_sort_plain];have ha:a<s.heap.objs.size:=Zp ho;obtain ⟨e1,h1⟩: ∃e1,(s.heap.update a (Obj.mapSeq λ _=> #[])).get? a=some (seqObj "list" #[] e1):=⟨_,get?_update_seq ho (λ _=> #[])⟩;have h6:(mid s.heap a vs).get? a=some (seqObj "list" #[] e1):=by
  unfold mid;exact Zf _ (Zf _ h1)
 have hps:(pairsOf vs).size=vs.length:=pairsOf_size vs;refine Qb (listItems_at ho rfl (Qb (listUpdate_at ho rfl (Qb (seqEpoch_at h1 rfl (Qb (wpAny_newTuple (Qb (wpAny_newList (Xg ?_))))))))));show wpAny (model prog w) A _ P E { s with heap:=mid s.heap a vs };dsimp only;have hz:vs.toArray.size=vs.length:=by simp
 rw [hz];by_cases h2:vs.length<2
 .rw [if_pos h2,if_pos h2];refine Qb (Zc ?_);rw [StateT.run_pure];refine Qb (Zc (Qb (seqEpoch_at h6 rfl (Qb (listUpdate_at h6 rfl ?_ (hsz2:= ?_))))))
  .simp only [bne_self_eq_false,Yl,Xr];exact Zc (h (pairsOf vs) (Array.Perm.refl _) (Sm.Ab (by rw [Xm,hps];exact h2)))
  .rw [Array.size_map];show (pairsOf vs).size<=_;rw [hps,sizeLine_eq];rfl'
 .rw [if_neg h2,if_neg h2];refine Qb (Wv (hK (by rfl')) ?_ λ _ _ z=>z);rintro k s' ⟨rfl,rfl⟩;refine Qb (Wv (Sm.Gh o hA (st:=SortSt.mk' k (vs.toArray.zip vs.toArray) #[] 7 none) (Q:=λ _ t=>(arrOf t).Perm (pairsOf vs)/\failedOf t=none/\Sm.Sd B (arrOf t).toList)
   rfl rfl rfl (Array.Perm.refl _) (by rfl') λ t z1 z2 z3=>⟨z1,z2,z3⟩) ?_ λ _ _ z=>z)
  rintro ⟨⟨⟩,t⟩ s' ⟨rfl,z1,z2,z3⟩;refine Qb (seqEpoch_at h6 rfl (Qb (listUpdate_at h6 rfl ?_ (hsz2:= ?_))))
  .dsimp only;rw [z2];simp only [bne_self_eq_false,Yl,Xr];exact Zc (h _ z1 z3)
  .rw [Array.size_map];show (arrOf t).size<=_;rw [z1.size_eq,hps,sizeLine_eq];rfl'
theorem rA (o:Wk B) {l:Addr} {vs:List Value} (hl:s.heap.IsList l vs.toArray) (h64:vs.length<100000)
  (hK: ∀ (A':Around) (E':Value->Shared->Prop) s',Kp s s'->2<=vs.length->wpAny (model prog w) A' (keyKind' vs.toArray) (λ k s''=>s''=s'/\k=kd) E' s')
  (hA: ∀ (A':Around) (E':Value->Shared->Prop) s',Kp s s'->Sm.An (model prog w) A' E' s' kd (pairsOf vs) B)
  (h: ∀out:Array Keyed,out.Perm (pairsOf vs)->Sm.Sd B out.toList->Q (.ref (s.heap.objs.size+1)) { s with heap:=sortedAll s.heap vs (out.map (·.2)) }):
  wpAny (model prog w) A (call (.builtin "sorted") [.ref l]) Q E s:=by
 refine Calls.call_function_entry kind_sorted plain_sorted entry_sorted (args_sorted1 _) ?_;unfold Builtin.«sorted»;refine Qb (m:=checkCount "sorted" 1 1 _) (Zc (Qb (collect_list hl (Qb (wpAny_newList ?_ (by rw [sizeLine_eq];rfl'))) (by rw [sizeLine_eq];rfl'))));have z:((s.heap.push (seqObj "list" #[] 0)).update s.heap.objs.size (Obj.mapSeq (· ++vs.toArray))).objs.size=s.heap.objs.size+1:=by rw [Heap.size_update,size_push']
 have g:(((s.heap.push (seqObj "list" #[] 0)).update s.heap.objs.size (Obj.mapSeq (· ++vs.toArray))).push (seqObj "list" vs.toArray 0)).get? (s.heap.objs.size+1)=some (seqObj "list" vs.toArray 0):=by
  rw [<- z];exact Zt _ rfl
 have kp:Kp s { s with heap:=mid (((s.heap.push (seqObj "list" #[] 0)).update s.heap.objs.size (Obj.mapSeq (· ++vs.toArray))).push (seqObj "list" vs.toArray 0)) (s.heap.objs.size+1) vs }:=by
  refine ⟨λ b ob hb=> ?_,rfl⟩;have lt:b<s.heap.objs.size:=Zp hb;unfold mid;refine Zf _ (Zf _ ?_);rw [Heap.get?_update_ne _ _ _ _ (Yo (Nat.lt_succ_of_lt lt))];refine Zf _ ?_;rw [Heap.get?_update_ne _ _ _ _ (Yo lt)];exact Zf _ hb
 show wpAny _ _ _ _ _ { s with heap:=((s.heap.push (seqObj "list" #[] 0)).update s.heap.objs.size (Obj.mapSeq (· ++vs.toArray))).push (seqObj "list" vs.toArray 0) };rw [z];refine Qb (Xg (Yv slot_list_sort ⟨_,g,rfl⟩ entry_list_sort (xW o g h64 (λ h2=>hK _ _ _ kp h2) (hA _ _ _ kp) λ out z1 z2=>⟨_,rfl,?_⟩) (args_list_sort _)));exact Zc ⟨_,rfl,h out z1 z2⟩
end
section
variable {prog:Program} {w:World} {A:Around} {E:Value->Shared->Prop} {s:Shared} {f:Value->Str}
theorem xX {vs:List Value} (hF: ∀v∈vs,Fs s.heap f v) (hd:(vs.map f).Nodup):Sm.An (model prog w) A E s (tuples' true) (pairsOf vs) (Bf f):=by
 intro st x y Q kn tw q;obtain ⟨r,hr⟩:=tw;rw [pairsOf_toList] at hr;have mx:x.1∈vs:=(mem_zip_self (hr.mem_iff.mp Zs)).2;have my:y.1∈vs:=(mem_zip_self (hr.mem_iff.mp (Zv _ Zs))).2;have ne:f x.1≠f y.1:=by
  have hp:=hr.map (λ p:Keyed=>f p.1);have e:(vs.zip vs).map (λ p:Keyed=>f p.1)=vs.map f:=by
   rw [show (λ p:Keyed=>f p.1)=f∘Prod.fst from rfl,<- Zq,List.map_fst_zip (Zk _)]
  rw [e] at hp;have nd:=(hp.nodup_iff).mpr hd;rw [Zl,Zl] at nd;exact λ e=>(Wr.mp nd).1 (by rw [e];exact Zs)
 rw [lt'_eq];refine Zy (wpS_get ?_);rw [kn];obtain ⟨b1,o1,is1,t1,n1,r1,v1,x1,y1,z1,w1⟩:=hF _ mx;obtain ⟨b2,o2,is2,t2,n2,r2,v2,x2,y2,z2,w2⟩:=hF _ my;refine Zy (wpS_lift (wpAny_attempt ?_));rw [oZ,v1,v2];refine Qb (listItems_at x1 z1 (Qb (listItems_at x2 z2 ?_)));rw [w1,w2,List.zip_cons_cons,List.zipIdx_cons,Xd];refine Qb (Qb (Qb (eqBool_str ?_)));rw [if_pos (by rw [Wu.mpr ne];rfl)];refine Qb (strKind_oneLt prog w A _ s _ _ (f x.1).cps.toList (f y.1).cps.toList rfl rfl (Zc (Zc (Zc ⟨rfl,Ye ?_⟩))));exact q
theorem u5 {vs:List Value} (hd:(vs.map f).Nodup) {out:Array Keyed} (hp:out.Perm (pairsOf vs)) (u:Sm.Sd (Bf f) out.toList):
  ∃ol:List Value,ol.toArray=out.map (·.2)/\ol.Perm vs/\(ol.map f).Pairwise (λ a b=>a.cps.toList<b.cps.toList):=by
 have hpl:out.toList.Perm (vs.zip vs):=by
  have:=Array.perm_iff_toList_perm.mp hp;rwa [pairsOf_toList] at this
 have e12: ∀p∈out.toList,p.1=p.2:=λ p hm=>(mem_zip_self (hpl.mem_iff.mp hm)).1
 have hp2:(out.toList.map (·.2)).Perm vs:=by
  have:=hpl.map (·.2);rwa [List.map_snd_zip (Zk _)] at this
 refine ⟨out.toList.map (·.2),by rw [<- Array.toList_map],hp2,?_⟩;have hnd:((out.toList.map (·.2)).map f).Nodup:=((hp2.map f).nodup_iff).mpr hd;rw [Zq,List.pairwise_map];rw [Zq,List.Nodup,List.pairwise_map] at hnd;refine List.Pairwise.imp_of_mem ?_ (hnd.and u);intro p q mp mq ⟨ne,uu⟩;unfold Bf at uu;have e1:=e12 p mp;have e2:=e12 q mq;rw [e1,e2] at uu;have ne:f p.2≠f q.2:=ne;show (f p.2).cps.toList<(f q.2).cps.toList
 cases e:strKind.blt (f p.2).cps.toList (f q.2).cps.toList with
 | true=>exact Xx e
 | false=>
  have:=strKind.total _ _ e uu;exact absurd (by
   have h3:(f p.2).cps=(f q.2).cps:=Array.toList_inj.mp this
   cases h4:f p.2;cases h5:f q.2;rw [h4,h5] at h3;simpa using h3) ne
theorem lH {l:Addr} {vs:List Value} (hl:s.heap.IsList l vs.toArray) (h64:vs.length<100000) (hF: ∀v∈vs,Fs s.heap f v) (hd:(vs.map f).Nodup)
  (h: ∀out:List Value,out.Perm vs->(out.map f).Pairwise (λ a b=>a.cps.toList<b.cps.toList)->Q (.ref (s.heap.objs.size+1)) { s with heap:=sortedAll s.heap vs out.toArray }):
  wpAny (model prog w) A (call (.builtin "sorted") [.ref l]) Q E s:=by
 refine rA (kd:=tuples' true) (TY (f:=f)) hl h64 (λ A' E' s' k h2=>qO (by intro e;rw [e] at h2;simp at h2) λ v hv=>(hF v hv).keep k) (λ A' E' s' k=>xX (λ v hv=>(hF v hv).keep k) hd) λ out hp u=> ?_
 obtain ⟨ol,e,h1,h2⟩:=u5 hd hp u;rw [<- e];exact h ol h1 h2
end
end Sx
namespace L2
open PySem PySem.Spec PyProof.Rows
def Q7 (td:TE):TE:=λ Z H Q=>td Z H λ x H1=> ∃ (a:Addr) (kvs:List (Str×V)),x= .ref a/\H1 a=some (.dK (kvs.map λ p=>(Sum.inr p.1,p.2)))/\kvs.length<100000/\ ∀r (zs:List (Addr×Str×V)) (H2:Hp),(zs.map (·.2)).Perm kvs->(zs.map (·.2.1)).Pairwise K7->H1 r=none->Same H1 H2->H2 r=some (.lst (zs.map λ z=>V.ref z.1))->(∀z∈zs,H2 z.1=some (.tup [.str z.2.1,z.2.2]))->Q (.ref r) H2
def fY (K:W.Frag):List V->Hp->VK->Prop:=λ xs H Q=> ∃ (a:Addr) (zs:List (Addr×Str×List V)),xs=[.ref a]/\SqL K H a (zs.map λ z=>V.ref z.1)/\(∀z∈zs,SqT K H z.1 (.str z.2.1::z.2.2))/\(zs.map (·.2.1)).Nodup/\zs.length<100000/\
 ∀r (ws:List (Addr×Str×List V)),ws.Perm zs->(ws.map (·.2.1)).Pairwise (λ a b=>a.cps.toList<b.cps.toList)->H r=none->Q (.ref r) (upd H r (.lst (ws.map λ z=>V.ref z.1)))
theorem rB {X:Cx}:bH X (.builtin "sorted") (fY X.K):=by
 intro pins s Z H xs us Q I rv h;obtain ⟨a,zs,rfl,hx,hz,hnd,h64,q⟩:=h;obtain ⟨u,rfl,ru⟩:=rv.one
 cases (show u=Value.ref a from ru);obtain ⟨its,r,ht,_⟩:=I.list hx;have ei:=lA r;subst ei;have hF: ∀z∈zs,lr s.heap (.ref z.1)=z.2.1/\Sx.Fs s.heap (lr s.heap) (.ref z.1):=by
  intro z hz';obtain ⟨is,r1,p1,_⟩:=I.tuple (hz z hz');obtain ⟨ob,ho,hc,n,hdt⟩:=p1
  cases r1 with
  | cons r2 rr=>
   obtain ⟨t,rfl⟩:=r2;have e:lr s.heap (.ref z.1)=z.2.1:=by
    unfold lr;dsimp only;rw [ho];dsimp only;rw [hdt];rfl
   exact ⟨e,z.1,ob,_,t,n,_,rfl,ho,hc,hdt,by rw [e]⟩
 have ef:(zs.map λ z=>Value.ref z.1).map (lr s.heap)=zs.map (·.2.1):=by
  rw [Zq];exact List.map_congr_left λ z hz'=>(hF z hz').1
 refine Sx.lH (f:=lr s.heap) (vs:=zs.map λ z=>Value.ref z.1) ht.isList (by rw [Qr];exact h64) (λ v hv=> ?_) (by rw [ef];exact hnd) λ out hp hs=> ?_
 .obtain ⟨z,hz',rfl⟩:=Zb.mp hv;exact (hF z hz').2
 obtain ⟨ws,hw,rfl⟩:=FP hp.symm rfl;obtain ⟨e,he⟩:=sortedAll_at s.heap (zs.map λ z=>Value.ref z.1) (ws.map λ z=>Value.ref z.1).toArray;have hr:H (s.heap.objs.size+1)=none:=I.hok.fresh (Nat.le_succ _);have es:(ws.map λ z=>Value.ref z.1).map (lr s.heap)=ws.map (·.2.1):=by
  rw [Zq];exact List.map_congr_left λ z hz'=>(hF z (hw.mem_iff.mp hz')).1
 rw [es] at hs;refine ⟨.ref _,_,I.laid (t':=s.toks) (a:=s.heap.objs.size+1) (o:= .lst (ws.map λ z=>V.ref z.1)) (λ b o hb=>sortedAll_old hb) (Nat.le_succ _) (show ObjOk X.prog X.w _ _ _ (.lst _) from ⟨?_,_,e,mZ (g:=λ z=>z.1) ws,he⟩),rfl,q _ ws hw hs hr⟩;rw [Qr,hw.length_eq];exact Xw (Nat.lt_trans h64 (by decide))
theorem fZ {X:Cx} (K:W.Frag) (hK:X.K=K):bH X (.builtin "sorted") (fY K):=hK▸rB
structure FunD (K:W.Frag) (x qual:Str) (st:Stmt) (f:Addr) (fd:FuncData) (T:Addr) (ds:List Value):Prop where
 ex: ∃ (oc:Value) (od:Option Addr) (kV doc pm:Value) (an:Option Addr) (cdv ct:Value) (osl:Array (Option Value)),
  fd=W.fnOf x qual (dR st) (dh st) (aF st) (.ref T) kV doc pm an cdv ct/\K.lookup f=some ⟨oc,od, .func fd,osl⟩/\W.codeIn K cdv qual=true
 kp:W.keepIn K (.ref f)=true
 tp: ∃ (o:Obj) (n:Nat),K.lookup T=some o/\o.data= .seq ds.toArray n
structure CalD (P:Program) (w:World) (K:W.Frag) (mg:Str->Option Value) (base:Heap) (n:Nat) (x:Str) (ps:List Str) (dvs:List V) (sp:Sp):Prop where
 ex: ∃ (f:Addr) (fd:FuncData) (ds:List Value),FnOk P w K mg base Ik n f fd ps sp/\Binds K fd ps ds/\Vals dvs ds/\W.keepIn K (.ref f)=true/\mg x=some (.ref f)
structure CalXD (P:Program) (w:World) (K:W.Frag) (mg:Str->Option Value) (base:Heap) (n:Nat) (x:Str) (ps:List Str) (dvs:List V) (sp:Sp):Prop where
 ex: ∃ (f:Addr) (fd:FuncData) (ds:List Value),FnOk P w K mg base (V8 P w) n f fd ps sp/\Binds K fd ps ds/\Vals dvs ds/\W.keepIn K (.ref f)=true/\mg x=some (.ref f)
def Vx (K:W.Frag) (a:Addr) (xs:List V):Prop:= ∃ (o:Obj) (its:Array Value) (n:Nat),K.lookup a=some o/\o.cls= .type "tuple"/\o.data= .seq its n/\its.size<=sizeLine/\Vals xs its.toList
def Q8 (x:Str) (o:Nat):It:=
 ⟨λ i _=>i<x.cps.size,
  λ i H v H'=> ∃p c,H p=none/\v= .ref p/\H'=upd H p (.tup [.int ((i+o:Nat):Int), .str ⟨#[c]⟩])/\x.cps[i]? =some c,
  λ i _=>i=x.cps.size⟩
structure EnSs (e it:Addr) (x:Str) (u:Tok) (o i:Nat) (h:Heap):Prop where
 he: ∃old,IsEnum h e it ((i+o:Nat):Int) old
 h1:h.IsStrIter it (strIterType x) x u i
def U5 (ta tk:TA):TI:=λ Z H R=>ta Z H λ vs H1=>tk Z H1 λ ks H2=> ∃x o,vs=[.str x]/\ks=[.int ((o:Nat):Int)]/\o<=1000000000/\R (Q8 x o) H2
def Q9 (K:W.Frag) (a:Addr):It:=
 ⟨λ i H=> ∃xs x,SqT K H a xs/\xs[i]? =some x,
  λ i H v H'=> ∃p x,H p=none/\v= .ref p/\H'=upd H p (.tup [.int (i:Int),x])/\ ∀xs,SqT K H a xs->xs[i]? =some x,
  λ i H=> ∃xs,SqT K H a xs/\i=xs.length⟩
structure EnSt3 (e it a:Addr) (i:Nat) (h:Heap):Prop where
 he: ∃old,IsEnum h e it (i:Int) old
 h1:h.IsTupleIter it a i
def U6 (K:W.Frag) (ta:TA):TI:=λ Z H R=>ta Z H λ vs H1=> ∃a xs,vs=[.ref a]/\SqT K H1 a xs/\R (Q9 K a) H1
end L2
end
section
namespace L2
open PySem PySem.Spec PyProof.Rows PySem.W
abbrev jR:R2:=rI (λ _ j=>0<j/\j.natAbs.log2<9000) λ i j=> .int (i / j)
theorem rC {X:Cx}:ir X (binaryOp .FloorDiv) jR:=Ju λ i j _ _ _ _ _ hc q=>by
 have h1:(0:Int)<j:=hc.1;exact floordiv_int (by rfl') (by rw [Int.fdiv_eq_ediv_of_nonneg i (by rfl')];exact q) (.inl (PyProof.noPylong_of_log2 hc.2))
end L2
end
section
namespace L2
open PySem PySem.Spec PyProof.Rows
def u6 (tk tv:TE):TE:=λ Z H Q=> ∀p,H p=none->tk Z (upd H p (.dT [])) λ x H1=>tv Z H1 λ v H2=>H2 p=some (.dT [])/\ ∃k b,x= .ref b/\H2 b=some (.tup (k.map kV))/\Q (.ref p) (upd H2 p (.dT [(k,v)]))
theorem Aq {X:Cx} {pos:Pos} {ke ve:Expr} {tk tv:TE} (hu:X.A.units+1<cLine) (hk:PE X ke tk) (hv:PE X ve tv):PE X (.Dict [some ke] [ve] pos) (u6 tk tv):=by
 intro pins s Z H Q I q;have hn:=I.hok.fresh (Zk s.heap.objs.size);have I1:=I.laid (a:=s.heap.objs.size) (o:= .dT []) (h':=s.heap.push { cls:= .type "dict",data:= .dict #[] }) (t':=s.toks) (λ _ _ q=>Zf _ q) (Zk _) (qF s.heap I.big);refine wpAny_Dict_any rfl rfl (by simp) (by simp) (bB (qH (pos:=pos) hk hv vN pins _ Z _ (λ ps H2=>match ps with | [(x,v)]=>H2 s.heap.objs.size=some (.dT [])/\ ∃k b,x= .ref b/\H2 b=some (.tup (k.map kV))/\Q (.ref s.heap.objs.size) (upd H2 s.heap.objs.size (.dT [(k,v)])) | _=>False) I1 (q _ hn)) λ ws s2 ⟨ps,H2,I2,rel,hm⟩=> ?_)
 cases rel with
 | nil=>exact hm.elim
 | @cons a c as cs h t=>
  cases t with
  | cons=>exact hm.elim
  | nil=>
  obtain ⟨x,v⟩:=a;obtain ⟨c1,c2⟩:=c;obtain ⟨e,k,b,ex,eb,q2⟩:=hm;dsimp only at h ex;subst ex
  cases (show c1=Value.ref b from h.1);obtain ⟨z,hd,xs,rel,dd⟩:=mW I2.hok e;unfold storeAll;rw [Xd];refine Qb (Qb (wpAny_dictSet_heap (hsz:=by rw [<- Wp rel];exact z) (by show X.A.units<cLine;rfl') (gG I2.hok eb) dd λ h' dd' hs=>Zc ?_));show wpAny _ _ (forIn [] PUnit.unit _) _ _ _;rw [List.forIn_nil];obtain ⟨q,es,ep,hq,h2,h3,h4,_,h5⟩:=dd';refine Zc ⟨.ref s.heap.objs.size,upd H2 s.heap.objs.size (.dT [(k,v)]),fP I2 (by rw [e];exact True.intro) hs ⟨q,hq⟩ ⟨(by show (1:Nat)<=sizeLine;rw [sizeLine_eq];rfl'),hd,_,(rel.put k eb h.2).keeps λ c ys ec=> ?_,q,es,ep,hq,h2,h3,h4,h5⟩,rfl,q2⟩;rw [au (bx ec e (λ z=>nomatch z))];exact ec
def Qa (K:W.Frag) (a b:Addr):It:=
 ⟨λ i H=> ∃xs ys x y,SqL K H a xs/\SqT K H b ys/\xs[i]? =some x/\ys[i]? =some y,
  λ i H v H'=> ∃p x y,H p=none/\v= .ref p/\H'=upd H p (.tup [x,y])/\(∀xs,SqL K H a xs->xs[i]? =some x)/\ ∀ys,SqT K H b ys->ys[i]? =some y,
  λ i H=> ∃xs ys,SqL K H a xs/\SqT K H b ys/\(xs.length<=i\/ys.length<=i)⟩
structure ZipStL (z TI TO i1 i2 a b:Addr) (i:Nat) (h:Heap):Prop where
 hz:IsZip h z TI TO .none
 hTI:IsPair h TI (.ref i1) (.ref i2)
 hTO: ∃u v,IsPair h TO u v
 h1:h.IsListIter i1 a i
 h2:h.IsTupleIter i2 b i
 aTO:a≠TO
 bTO:b≠TO
def Vj (K:W.Frag) (ta:TA):TI:=λ Z H R=>ta Z H λ vs H1=> ∃a b xs ys,vs=[.ref a, .ref b]/\SqL K H1 a xs/\SqT K H1 b ys/\R (Qa K a b) H1
end L2
end
section
namespace Nk
open PySem PySem.Spec PyProof.Rows
variable {a b:Addr} {ks:List Int} {Q:Bool->Shared->Prop}
abbrev j8:=Int×Int×List Int
variable {k x y:j8}
section
variable {prog:Program} {w:World} {A:Around} {E:Value->Shared->Prop} {s:Shared}
def IsSt (prog:Program) (w:World) (h:Heap) (k:j8) (a:Addr):Prop:= ∃o n v1 v2 b,h.get? a=some o/\o.cls= .type "tuple"/\o.data= .seq #[v1,v2, .ref b] n/\(intKind prog w).is k.1 v1=true/\(intKind prog w).is k.2.1 v2=true/\IsTupleKey (intKind prog w) h k.2.2 b
theorem IsSt.typeIs (x:IsSt prog w s.heap k a):s.TypeIs (.ref a) "tuple":=let ⟨o,_,_,_,_,ho,hc,_⟩:=x;⟨o,ho,hc⟩
theorem IsSt.inj {h:Heap} (hx:IsSt prog w h x a) (hy:IsSt prog w h y a):x=y:=by
 obtain ⟨o,n,v1,v2,b,ho,_,hd,a1,a2,a3⟩:=hx;obtain ⟨o',n',u1,u2,b',ho',_,hd',c1,c2,c3⟩:=hy;obtain rfl:o=o':=Ym (ho.symm.trans ho');rw [hd] at hd';injection hd' with e1 _
 have e2:=Yt Array.toList e1;simp only [List.cons.injEq,and_true] at e2;obtain ⟨rfl,rfl,e3⟩:=e2
 cases e3;have z3:=a3.inj c3;have z1:=(intKind prog w).inj _ _ _ a1 c1;have z2:=(intKind prog w).inj _ _ _ a2 c2;exact Prod.ext z1 (Prod.ext z2 z3)
theorem IsSt.keeps {h h':Heap} {d:Addr} {o:Obj} {es ep} (x:IsSt prog w h k a) (ho:h.get? d=some o) (hd:o.data= .dict es ep) (hs:Heap.SameBut d h h'):IsSt prog w h' k a:=by
 obtain ⟨o',n,v1,v2,b,ho',hc,hd',a1,a2,a3⟩:=x;have hne:a≠d:=by
  rintro rfl;obtain rfl:o'=o:=Ym (ho'.symm.trans ho);rw [hd] at hd';exact nomatch hd'
 exact ⟨o',n,v1,v2,b,(hs.2 a hne).trans ho',hc,hd',a1,a2,a3.keeps ho hd hs⟩
def nu (cs:List Int):Int:=reduceHash (Builtin.Tuple.tupleHashOf (cs.map hashInt))
def nA (k:j8):Int:=reduceHash (Builtin.Tuple.tupleHashOf [hashInt k.1,hashInt k.2.1,nu k.2.2])
theorem Gi {Q:Int->Shared->Prop} (hu:A.units+1<cLine) (hk:IsSt prog w s.heap k a) (h:Q (nA k) { s with toks:=s.toks+(k.2.2.length+4) }):wpAny (model prog w) A (pyHash (.ref a)) Q E s:=by
 have hT:=hk.typeIs;obtain ⟨o,n,v1,v2,b,ho,_,hd,a1,a2,a3⟩:=hk;unfold pyHash
 first | unfold pyHashByItsType | skip
 first | refine Qb (wpAny_cRoomFor_or (.inr (by rfl')) ?_) | skip
 refine Qb (wpAny_specialOf hT F.slot_tuple_hash.lookup ?_);show wpAny _ _ (if (some (Value.builtin "tuple.__hash__")==some Value.none)=true then _ else _) Q E s;rw [if_neg (by rw [beq_builtin_none];exact Zr)];refine Qb (wpAny_specialOf hT F.slot_tuple_hash.lookup ?_);show wpAny _ _ (callSpecialIfBoundUnlessNone? (.ref a) "__hash__" _ >>= _) Q E s;refine Qb (wpAny_callSpecialIfBoundUnlessNone?_slot hT F.slot_tuple_hash (Yv F.slot_tuple_hash hT F.entry_tuple_hash ?_ (F.args_tuple_hash_1 _)));show wpAny _ _ (Builtin.Tuple.tupleItemsOf (.ref a) >>= _) _ _ s;refine Qb (wpAny_tupleItemsOf ho hd ?_);refine Qb ?_;rw [<- Array.forIn_toList];show wpAny _ _ (forIn [v1,v2,Value.ref b] _ _) _ _ s;have in1:A.in1.units<cLine:=by show A.units+1<cLine;exact hu
 rw [Xd];refine Qb (Qb ((intKind prog w).pyHash a1 (Zc ?_)));show wpAny _ _ (forIn [v2,Value.ref b] _ _) _ _ _;rw [Xd];refine Qb (Qb ((intKind prog w).pyHash a2 (Zc ?_)));show wpAny _ _ (forIn [Value.ref b] _ _) _ _ _;rw [Xd];refine Qb (Qb (wpAny_pyHash_tuple (knd:=intKind prog w) in1 a3 (Zc ?_)));show wpAny _ _ (forIn [] _ _) _ _ _;rw [List.forIn_nil];refine Zc ?_;show wpAny _ _ (retInt (Builtin.Tuple.tupleHashOf [hashInt k.1,hashInt k.2.1,nu k.2.2])) _ _ _;refine wpAny_ret_mkInt ?_;show wpAny _ _ (if (decide (-(2:Int)^63<=Builtin.Tuple.tupleHashOf [hashInt k.1,hashInt k.2.1,nu k.2.2])&&decide (Builtin.Tuple.tupleHashOf [hashInt k.1,hashInt k.2.1,nu k.2.2]<2^63))=true then _ else _) Q E _;have hh: ∀x:Nat,x=s.toks+(k.2.2.length+4)->Q (nA k) { s with toks:=x }:=λ x e=>by rw [e];exact h
 unfold nA at hh;unfold reduceHash at hh;by_cases hr:(decide (-(2:Int)^63<=Builtin.Tuple.tupleHashOf [hashInt k.1,hashInt k.2.1,nu k.2.2])&&decide (Builtin.Tuple.tupleHashOf [hashInt k.1,hashInt k.2.1,nu k.2.2]<2^63))=true
 .rw [if_pos hr];rw [if_pos hr] at hh;exact Zc (hh _ (by dsimp only;rfl'))
 .rw [if_neg hr];rw [if_neg hr] at hh;exact Qb (wpAny_rule (Zc (hh _ (by dsimp only;rfl'))))
theorem u9 {P:PySem.Fin->Shared->Prop} (hu:A.units<cLine) (hx:IsSt prog w s.heap x a) (hy:IsSt prog w s.heap y b) (h:P (.done (.ret (.bool (decide (x=y))))) s):
  wpAny (model prog w) A (Builtin.«tuple.__eq__» ⟨[.ref a, .ref b],[]⟩) P E s:=by
 have hTb:=hy.typeIs;obtain ⟨oa,na,v1,v2,c,hoa,_,hda,a1,a2,a3⟩:=hx;obtain ⟨ob,nb,u1,u2,d,hob,_,hdb,b1,b2,b3⟩:=hy;show wpAny _ _ (isInstance (.ref b) (.type "tuple") >>= _) _ _ s;refine Qb (wpAny_isInstance hTb isSubtype_tuple_tuple ?_);simp only [Bool.not_true,Yl,Xr];refine Qb (wpAny_tupleItemsOf hoa hda ?_);refine Qb (wpAny_tupleItemsOf hob hdb ?_);refine Qb ?_;show wpAny _ _ (forIn [(v1,u1),(v2,u2),(Value.ref c,Value.ref d)] _ _) _ _ s;obtain ⟨x1,x2,x3⟩:=x;obtain ⟨y1,y2,y3⟩:=y;dsimp only at a1 a2 a3 b1 b2 b3;have no: ∀ {q:Bool},q=false->P (.done (.ret (.bool q))) s->P (.done (.ret (.bool false))) s:=λ e h=>e▸h
 rw [Xd];refine Qb (Qb ((intKind prog w).eqBool (a:=x1) (b:=y1) a1 b1 ?_));by_cases e1:x1=y1
 .subst e1;rw [Yj rfl];simp only [Bool.not_true,Yl,Xr];refine Zc ?_;show wpAny _ _ (forIn [(v2,u2),(Value.ref c,Value.ref d)] _ _) _ _ s;rw [Xd];refine Qb (Qb ((intKind prog w).eqBool (a:=x2) (b:=y2) a2 b2 ?_));by_cases e2:x2=y2
  .subst e2;rw [Yj rfl];simp only [Bool.not_true,Yl,Xr];refine Zc ?_;show wpAny _ _ (forIn [(Value.ref c,Value.ref d)] _ _) _ _ s;rw [Xd];refine Qb (Qb (wpAny_eqBool_tuple (knd:=intKind prog w) hu a3 b3 ?_));by_cases e3:x3=y3
   .subst e3;rw [Yj rfl];simp only [Bool.not_true,Yl,Xr];refine Zc ?_;show wpAny _ _ (forIn [] _ _) _ _ s;rw [List.forIn_nil];refine Zc ?_;rw [Yj rfl] at h;exact Zc h
   .rw [Yf e3];simp only [Bool.not_false,if_true];exact Qb (Zc (Zc (Zc (Zc (no (Yf λ z=>e3 (by cases z;rfl)) h)))))
  .rw [Yf e2];simp only [Bool.not_false,if_true];exact Qb (Zc (Zc (Zc (Zc (no (Yf λ z=>e2 (by cases z;rfl)) h)))))
 .rw [Yf e1];simp only [Bool.not_false,if_true];exact Qb (Zc (Zc (Zc (Zc (no (Yf λ z=>e1 (by cases z;rfl)) h)))))
theorem Qc (hu:A.units+1<cLine) (hx:IsSt prog w s.heap x a) (hy:IsSt prog w s.heap y b) (h:Q (decide (x=y)) s):wpAny (model prog w) A (eqBool (.ref a) (.ref b)) Q E s:=by
 unfold eqBool;try with_reducible refine Xg ?_
 show wpAny _ _ (if (Value.ref a==Value.ref b)=true then _ else _) Q E s;by_cases hab:(Value.ref a==Value.ref b)=true
 .rw [if_pos hab];have e:a=b:=by have:=eq_of_beq hab;injection this
  subst e;obtain rfl:=hx.inj hy;exact Qb (wpAny_rule (Zc (by simpa using h)))
 .rw [if_neg hab];exact Qb (wpAny_richCompare_same_room (op:= .Eq) hx.typeIs hy.typeIs F.slot_tuple_eq
   (Yv F.slot_tuple_eq hx.typeIs F.entry_tuple_eq (u9 (by show A.units+1<cLine;exact hu) hx hy ⟨_,rfl,(λ e=>nomatch e),wpAny_truthy_bool h⟩) (F.args_tuple_eq_2 _ _)) (by rfl'))
theorem uc (hk:IsTupleKey (intKind prog w) s.heap ks a) (h:Q true s):wpAny (model prog w) A (eqIsQuiet 7 (.ref a)) Q E s:=by
 have hT:=hk.typeIs;obtain ⟨o,its,n,ho,_,hd,hi⟩:=hk;unfold eqIsQuiet;refine Qb (wpAny_specialOf hT F.slot_tuple_eq.lookup ?_);show wpAny _ _ (isInstance (.ref a) (.type "tuple") >>= _) _ _ s;refine Qb (wpAny_isInstance hT isSubtype_tuple_tuple ?_);simp only [Bool.not_true,Yl,Xr];refine Qb (Xs ho hd ?_);refine Qb ?_;show wpAny _ _ (forIn its _ _) _ _ s;rw [<- Array.forIn_toList];refine wpAny_forIn_list _ (λ rest r s1=>r.1=none/\s1=s/\ ∀v∈rest,carriedByValue v=true) _ ?_ ?_ _ _ ⟨rfl,rfl,hi.byValue⟩
 .rintro v rest r s1 ⟨hr,rfl,hall⟩;rw [eqIsQuiet_byValue _ (hall v Zs)];refine Qb (Zc ?_);simp only [Bool.not_true,Yl,Xr];exact Zc ⟨rfl,rfl,λ u m=>hall u (Zv _ m)⟩
 .rintro ⟨r1,r2⟩ s1 ⟨hr,rfl,_⟩;simp only at hr;subst hr;exact Zc h
theorem Ar (hk:IsSt prog w s.heap k a) (h:Q true s):wpAny (model prog w) A (eqIsQuiet 8 (.ref a)) Q E s:=by
 have hT:=hk.typeIs;obtain ⟨o,n,v1,v2,b,ho,_,hd,a1,a2,a3⟩:=hk;unfold eqIsQuiet;refine Qb (wpAny_specialOf hT F.slot_tuple_eq.lookup ?_);show wpAny _ _ (isInstance (.ref a) (.type "tuple") >>= _) _ _ s;refine Qb (wpAny_isInstance hT isSubtype_tuple_tuple ?_);simp only [Bool.not_true,Yl,Xr];refine Qb (Xs ho hd ?_);refine Qb ?_;show wpAny _ _ (forIn #[v1,v2,Value.ref b] _ _) _ _ s;rw [<- Array.forIn_toList];show wpAny _ _ (forIn [v1,v2,Value.ref b] _ _) _ _ s;rw [Xd,eqIsQuiet_byValue _ ((intKind prog w).byValue _ _ a1)];refine Qb (Qb (Zc ?_));simp only [Bool.not_true,Yl,Xr];refine Zc ?_;show wpAny _ _ (forIn [v2,Value.ref b] _ _) _ _ s;rw [Xd,eqIsQuiet_byValue _ ((intKind prog w).byValue _ _ a2)];refine Qb (Qb (Zc ?_));simp only [Bool.not_true,Yl,Xr];refine Zc ?_;show wpAny _ _ (forIn [Value.ref b] _ _) _ _ s;rw [Xd];refine Qb (Qb (uc a3 ?_));simp only [Bool.not_true,Yl,Xr];refine Zc ?_;show wpAny _ _ (forIn [] _ _) _ _ s;rw [List.forIn_nil];exact Zc (Zc h)
end
def gK (prog:Program) (w:World):HeapKind prog w j8 where
 is:=IsSt prog w
 hash:=nA
 draws:=λ k=>k.2.2.length+4
 room:=λ A=>A.units+1<cLine
 inj:=λ hx hy=>hx.inj hy
 keeps:=λ x ho hd hs=>x.keeps ho hd hs
 pyHash:=λ hu hk h=>Gi hu hk h
 eqBool:=λ hu hx hy h=>Qc hu hx hy h
 quiet:=λ hk h=>Ar hk h
end Nk
namespace L2
open PySem PySem.Spec PyProof.Rows Nk
variable {y:V} {H':Hp} {u:Value} {w:World} {Q:Value->Shared->Prop}
abbrev Sk:=Int×Int×List Int
variable {kvs:List (Addr×Sk×V)} {xs:List (Sk×Addr×Value)}
def xY (x:Sk×Addr×Value):DictEntry:=⟨nA x.1, .ref x.2.1,x.2.2⟩
def Vy (a:Addr) (kvs:List (Addr×Sk×V)) (h:Heap):Prop:=kvs.length<=sizeLine/\(a==sysModules)=false/\ ∃xs:List (Sk×Addr×Value),Paired (λ (p:Addr×Sk×V) (q:Sk×Addr×Value)=>p.2.1=q.1/\p.1=q.2.1/\RelV p.2.2 q.2.2) kvs xs/\
 ∃o es ep,h.get? a=some o/\o.ExactDict/\o.data= .dict es ep/\es.toList=xs.map xY/\(xs.map (·.1)).Nodup
abbrev bA (a:Addr) (kvs:List (Addr×Sk×V)):HO:= .ext (Vy a kvs)
def pA (H:Hp) (b:Addr) (k:Sk):Prop:= ∃c,H b=some (.tup [.int k.1, .int k.2.1, .ref c])/\H c=some (.tup (k.2.2.map V.int))
def cL (kvs:List (Addr×Sk×V)) (k:Sk):Option V:=(kvs.find? λ p=>decide (p.2.1=k)).map (·.2.2)
def pB (kvs:List (Addr×Sk×V)) (b:Addr) (k:Sk) (v:V):List (Addr×Sk×V):=if (cL kvs k).isSome then kvs.map λ p=>if p.2.1=k then (p.1,p.2.1,v) else p else kvs++[(b,k,v)]
def SGet (H:Hp) (a:Addr) (y:V) (r:Option V):Prop:= ∃kvs k b,Rd H a (bA a kvs)/\(∀p∈kvs,pA H p.1 p.2.1)/\y= .ref b/\pA H b k/\r=cL kvs k
def SPut (H:Hp) (a:Addr) (y v:V) (H':Hp):Prop:= ∃kvs k b,H a=some (bA a kvs)/\(∀p∈kvs,pA H p.1 p.2.1)/\y= .ref b/\pA H b k/\kvs.length<sizeLine/\H'=upd H a (bA a (pB kvs b k v))
section
variable {P:Program} {w:World} {H:Hp} {h:Heap} {a b:Addr}
theorem rD {P:Program} {w:World}: ∀ {ks:List Int} {us:List Value},Vals (ks.map V.int) us->ItemsAre (intKind P w) ks us
 | [],_,r=>by rw [Xq] at r;cases r;exact .nil
 | k::ks,_,r=>by
  rw [Zl] at r
  cases r with
  | cons h t=>
   obtain ⟨t',rfl⟩:=(show ∃t,_=Value.int k t from h);exact .cons (intKind_is _ _ _ _) (rD t)
theorem nF {k:Sk} (ok:HOk P w H h) (e:pA H a k):(gK P w).is h k a:=by
 obtain ⟨c,e1,e2⟩:=e;obtain ⟨_,its,r,o,g1,g2,n,g3⟩:=(show ObjOk P w H h a (.tup [.int k.1, .int k.2.1, .ref c]) from ok a _ e1);obtain ⟨_,its2,r2,o2,f1,f2,n2,f3⟩:=(show ObjOk P w H h c (.tup (k.2.2.map V.int)) from ok c _ e2)
 cases r with
 | cons h1 t1=>
  cases t1 with
  | cons h2 t2=>
   cases t2 with
   | cons h3 t3=>
    cases t3;obtain ⟨u1,rfl⟩:=(show ∃t,_=Value.int k.1 t from h1);obtain ⟨u2,rfl⟩:=(show ∃t,_=Value.int k.2.1 t from h2)
    cases (show _=Value.ref c from h3);exact ⟨o,n,_,_,c,g1,g2,g3,intKind_is _ _ _ _,intKind_is _ _ _ _,⟨o2,its2.toArray,n2,f1,f2,f3,by simpa using rD r2⟩⟩
abbrev KS:List (Addr×Sk×V)->List (Sk×Addr×Value)->Prop:=Paired λ p q=>p.2.1=q.1/\p.1=q.2.1/\RelV p.2.2 q.2.2
theorem KS.val (r:KS kvs xs) (k:Sk):RelO (cL kvs k) ((atKey xs k).map (·.2)):=by
 induction r with
 | nil=>exact True.intro
 | @cons p q ps qs h t ih=>
  obtain ⟨h1,_,h2⟩:=h;by_cases e:p.2.1=k
  .have e':q.1=k:=h1.symm.trans e;have z:atKey (q::qs) k=some q.2:=by simp [atKey,List.find?_cons,e']
   have y:cL (p::ps) k=some p.2.2:=by simp [cL,List.find?_cons,e]
   rw [y,z];exact h2
  .have e': ¬q.1=k:=λ z=>e (h1.trans z)
   have z:atKey (q::qs) k=atKey qs k:=by simp [atKey,List.find?_cons,e']
   have y:cL (p::ps) k=cL ps k:=by simp [cL,List.find?_cons,e]
   rw [y,z];exact ih
theorem KS.repl (r:KS kvs xs) (k:Sk) (ry:RelV y u):KS (kvs.map λ p=>if p.2.1=k then (p.1,p.2.1,y) else p) (xs.map (putAt k u)):=by
 induction r with
 | nil=>exact .nil
 | @cons p q ps qs h t ih=>
  rw [Zl,Zl];refine .cons ?_ ih;obtain ⟨h1,h2,h3⟩:=h;unfold putAt;by_cases e:p.2.1=k
  .rw [if_pos e,if_pos (h1.symm.trans e)];exact ⟨h1,h2,ry⟩
  .rw [if_neg e,if_neg (λ z=>e (h1.trans z))];exact ⟨h1,h2,h3⟩
theorem KS.put (r:KS kvs xs) (k:Sk) {b:Addr} (ry:RelV y u):KS (pB kvs b k y) (storedH xs k b u):=by
 have e:(cL kvs k).isSome=(atKey xs k).isSome:=by rw [(r.val k).isSome_eq,Option.isSome_map]
 unfold pB storedH;rw [e];by_cases q:(atKey xs k).isSome=true
 .rw [if_pos q,if_pos q];exact r.repl k ry
 .rw [if_neg q,if_neg q];exact Paired.snoc r ⟨rfl,rfl,ry⟩
theorem Av (kvs:List (Addr×Sk×V)) (b:Addr) (k:Sk) (v:V):(pB kvs b k v).length<=kvs.length+1:=by
 unfold pB;split
 .rw [Qr];rfl'
 .rw [Zg,Yn];rfl'
theorem Iu (ok:HOk P w H h) (e:Rd H a (bA a kvs)):ObjOk P w H h a (bA a kvs):=by
 rcases e with e | ⟨o,e⟩
 .exact ok a _ e
 .exact (show ObjOk P w H h a (.frz o (bA a kvs)) from ok a _ e).2
theorem nG (ok:HOk P w H h) (e:Rd H a (bA a kvs)) (hk: ∀p∈kvs,pA H p.1 p.2.1):kvs.length<=sizeLine/\(a==sysModules)=false/\ ∃xs,KS kvs xs/\h.DictOfH (gK P w) a xs:=by
 obtain ⟨⟨z,y,xs,r,o,es,ep,h1,h2,h3,h4,h5⟩,_⟩:=Iu ok e;refine ⟨z,y,xs,r,o,es,ep,h1,h2,h3,h4,λ x hx=> ?_,h5⟩;have all: ∀ {l:List (Addr×Sk×V)} {m:List (Sk×Addr×Value)},KS l m->(∀p∈l,pA H p.1 p.2.1)-> ∀x∈m,(gK P w).is h x.1 x.2.1:=by
  intro l m q;induction q with
  | nil=>intro _ x hx;exact nomatch hx
  | @cons p q ps qs hq t ih=>
   intro hl x hx;rcases Zm.mp hx with e | hx
   .subst e;have:=nF ok (hl p Zs);rw [<- hq.1,<- hq.2.1];exact this
   .exact ih (λ p m=>hl p (Zv _ m)) x hx
 exact all r hk x hx
theorem Aw {P:Program} {h':Heap} (z:kvs.length<=sizeLine) (hd:(a==sysModules)=false) (rel:KS kvs xs) (dd: ∃o es ep,h'.get? a=some o/\o.ExactDict/\o.data= .dict es ep/\es.toList=xs.map xY/\(xs.map (·.1)).Nodup):ObjOk P w H' h' a (bA a kvs):=by
 obtain ⟨o,es,ep,d1,d2,d3,d4,d5⟩:=dd;exact ⟨⟨z,hd,xs,rel,o,es,ep,d1,d2,d3,d4,d5⟩,⟨o,d1⟩,λ h1 h2 ⟨z1,y1,xs1,r1,o1,es1,ep1,q1,q2⟩ k=>⟨z1,y1,xs1,r1,o1,es1,ep1,k o1 q1,q2⟩⟩
end
section
variable {X:Cx} {pins:List (Addr×Obj)} {Z:St} {H:Hp} {s:Shared} {a:Addr} {y v:V} {u r:Value} {o:Option V} {A:Around} {E:Value->Shared->Prop}
theorem ud (hu:A.units+2<cLine) (I:Inv X pins Z H s) (g:SGet H a y (some v)) (ry:RelV y u) (h: ∀w' s',Inv X pins Z H s'->RelV v w'->Q w' s'):wpAny (model X.prog X.w) A (getItem (.ref a) u) Q E s:=by
 obtain ⟨kvs,k,b,e,hk,ey,eb,l⟩:=g;subst ey
 cases (show u=Value.ref b from ry);obtain ⟨z,hd,xs,rel,dd⟩:=nG I.hok e hk;obtain ⟨w',hw,rw'⟩:=RelO.some_of (v:=v) (o:=(atKey xs k).map (·.2)) (by rw [l];exact rel.val k);obtain ⟨p,hp,hp2⟩:=Yp.mp hw;refine wpAny_getItem_heap (knd:=gK X.prog X.w) (show A.units+1+1<cLine by rfl') (nF I.hok eb) dd hp ?_;rw [hp2];exact h w' _ (I.tok _) rw'
theorem Qd (hu:A.units+2<cLine) (I:Inv X pins Z H s) (g:SGet H a y o) (ry:RelV y u) (h: ∀s',Inv X pins Z H s'->Q (.bool o.isSome) s'):wpAny (model X.prog X.w) A (compareOp .In u (.ref a)) Q E s:=by
 obtain ⟨kvs,k,b,e,hk,ey,eb,l⟩:=g;subst ey
 cases (show u=Value.ref b from ry);obtain ⟨z,hd,xs,rel,dd⟩:=nG I.hok e hk;refine wpAny_in_heap (knd:=gK X.prog X.w) (show A.units+1+1<cLine by rfl') (nF I.hok eb) hd dd ?_;have q:=(rel.val k).isSome_eq;rw [Option.isSome_map] at q;rw [<- q,<- l];exact h _ (I.tok _)
theorem Ax (hu:A.units+2<cLine) (I:Inv X pins Z H s) (g:SGet H a y o) (ry:RelV y u) (h: ∀s',Inv X pins Z H s'->Q (.bool (!o.isSome)) s'):wpAny (model X.prog X.w) A (compareOp .NotIn u (.ref a)) Q E s:=by
 obtain ⟨kvs,k,b,e,hk,ey,eb,l⟩:=g;subst ey
 cases (show u=Value.ref b from ry);obtain ⟨z,hd,xs,rel,dd⟩:=nG I.hok e hk;refine wpAny_notIn_heap (knd:=gK X.prog X.w) (show A.units+1+1<cLine by rfl') (nF I.hok eb) hd dd ?_;have q:=(rel.val k).isSome_eq;rw [Option.isSome_map] at q;rw [<- q,<- l];exact h _ (I.tok _)
theorem ue {Q:Unit->Shared->Prop} (hu:A.units+2<cLine) (I:Inv X pins Z H s) (g:SPut H a y v H') (ry:RelV y u) (rv:RelV v r) (h: ∀s',Inv X pins Z H' s'->Q () s'):wpAny (model X.prog X.w) A (setItem (.ref a) u r) Q E s:=by
 obtain ⟨kvs,k,b,e,hk,ey,eb,l,eH⟩:=g;subst ey eH
 cases (show u=Value.ref b from ry);obtain ⟨z,hd,xs,rel,dd⟩:=nG I.hok (.inl e) hk;have hz:xs.length<=sizeLine:=by rw [<- Wp rel];exact z
 have hl:(pB kvs b k v).length<=sizeLine:=by have:=Av kvs b k v;rfl'
 refine wpAny_setItem_heap (hsz:=hz) (knd:=gK X.prog X.w) (show A.units+1+1<cLine by rfl') (nF I.hok eb) dd λ h' dd' hs=>h _ ?_
 obtain ⟨q,es,ep,hq,h2,h3,h4,_,h5⟩:=dd';exact fP I (by rw [e];exact True.intro) hs ⟨q,hq⟩ (Aw hl hd (rel.put k rv) ⟨q,es,ep,hq,h2,h3,h4,h5⟩)
end
end L2
end
section
namespace Nk
open PySem PySem.Spec PyProof.Rows Sx
def Fn (h:Heap) (f:Value->j8) (v:Value):Prop:= ∃b ob its n t1 t2 c oc ics nc,v= .ref b/\h.get? b=some ob/\ob.cls= .type "tuple"/\ob.data= .seq its n/\its.toList=[.int (f v).1 t1, .int (f v).2.1 t2, .ref c]/\h.get? c=some oc/\oc.cls= .type "tuple"/\oc.data= .seq ics nc/\IntsAre ics.toList (f v).2.2
section
variable {prog:Program} {w:World} {A:Around} {E:Value->Shared->Prop} {s:Shared} {f:Value->j8}
theorem pC: ∀a:List Int,HT.lexLt a a=false
 | []=>rfl
 | x::a=>by rw [HT.fO,if_pos rfl];exact pC a
theorem rE: ∀ {a b:List Int},HT.lexLt a b=true->HT.lexLt b a=false
 | [],[],h=>by cases h
 | [],_::_,_=>rfl
 | _::_,[],h=>by cases h
 | x::a,y::b,h=>by
  rw [HT.fO] at h ⊢;by_cases e:x=y
  .rw [if_pos e] at h;rw [if_pos e.symm];exact rE h
  .rw [if_neg e] at h;rw [if_neg (Ne.symm e)];have:=Xx h;exact Yf (by rfl')
theorem Ay: ∀ {a b c:List Int},HT.lexLt b a=false->HT.lexLt c b=false->HT.lexLt c a=false
 | [],[],c,_,h=>h
 | [],_::_,[],_,_=>rfl
 | [],_::_,_::_,_,_=>rfl
 | _::_,[],c,h,_=>by cases h
 | _::_,_::_,[],_,h=>by cases h
 | x::a,y::b,z::c,h1,h2=>by
  rw [HT.fO] at h1 h2 ⊢;by_cases e1:y=x
  .rw [if_pos e1] at h1;by_cases e2:z=y
   .rw [if_pos e2] at h2;rw [if_pos (e2.trans e1)];exact Ay h1 h2
   .rw [if_neg e2] at h2;have:=of_decide_eq_false h2;rw [if_neg (by rfl')];exact Yf (by rfl')
  .rw [if_neg e1] at h1;have:=of_decide_eq_false h1;by_cases e2:z=y
   .rw [if_neg (by rfl')];exact Yf (by rfl')
   .rw [if_neg e2] at h2;have:=of_decide_eq_false h2;rw [if_neg (by rfl')];exact Yf (by rfl')
end
end Nk
namespace L2
open PySem PySem.Spec PyProof.Rows Sx Nk
section
variable {prog:Program} {w:World} {A:Around} {E:Value->Shared->Prop} {s:Shared} {d:Addr} {od:Obj} {es:Array DictEntry} {ep:Nat}
theorem j9: ∀ {ns:List Int} {us:List Value},Vals (ns.map V.int) us->IntsAre us ns
 | [],_,r=>by rw [Xq] at r;cases r;exact .nil
 | k::ks,_,r=>by
  rw [Zl] at r
  cases r with
  | cons h t=>
   obtain ⟨t',rfl⟩:=(show ∃t,_=Value.int k t from h);exact .cons _ _ (j9 t)
def stOf (h:Heap) (v:Value):j8:=open Classical in if e: ∃k,Fn h (λ _=>k) v then e.choose else (0,0,[])
end
end L2
namespace L2
open PySem PySem.Spec PyProof.Rows Nk
variable {A:Around} {pins:List (Addr×Obj)}
def rG:TE:=λ _ H Q=> ∀p,H p=none->Q (.ref p) (upd H p (bA p []))
def jb (td ty:TE):TE:=λ Z H Q=>td Z H λ x H1=>ty Z H1 λ y H2=> ∃a v,x= .ref a/\SGet H2 a y (some v)/\Q v H2
def Kv (ty td:TE):TE:=λ Z H Q=>ty Z H λ y H1=>td Z H1 λ x H2=> ∃a o,x= .ref a/\SGet H2 a y o/\Q (.bl o.isSome) H2
def jT (ty td:TE):TE:=λ Z H Q=>ty Z H λ y H1=>td Z H1 λ x H2=> ∃a o,x= .ref a/\SGet H2 a y o/\Q (.bl (!o.isSome)) H2
def rH (td ty tv:TE):TS:=λ D Z H=>tv Z H λ v H1=>td Z H1 λ x H2=>ty Z H2 λ y H3=> ∃a H4,x= .ref a/\SPut H3 a y v H4/\D.nx Z H4
section
variable {X:Cx} {o i e value:Expr} {pos pos' tpos:Pos} {td ty tv:TE}
theorem pD:PE X (.Dict [] [] pos) rG:=λ pins s Z H Q I h=>
 wpAny_Dict_empty ⟨.ref s.heap.objs.size,_,I.laid (a:=s.heap.objs.size) (o:=bA s.heap.objs.size []) (t':=s.toks) (λ _ _ q=>Zf _ q) (Zk _)
  (Aw (Yz _) (Wu.mpr (Ne.symm (Yo I.big))) .nil ⟨_,#[],0,Zt _ rfl,⟨rfl,rfl,rfl⟩,rfl,rfl,List.nodup_nil⟩),rfl,h _ (I.hok.fresh (Zk _))⟩
theorem Gj {Z:St} {H:Hp} {s:Shared} {a:Addr} {y:V} {r:Option V} (I:Inv X pins Z H s) (g:SGet H a y r):s.TypeIs (.ref a) "dict":=by
 obtain ⟨kvs,k,b,e,hk,_⟩:=g;obtain ⟨_,_,xs,_,dd⟩:=nG I.hok e hk;exact dd.typeIs
theorem gb (hu:X.A.units+2<cLine) (ho:PE X o td) (hi:PE X i ty) (hs:JR i):PE X (.Subscript o i pos) (jb td ty):=by
 intro pins s Z H Q I h;refine vM PySem.F.slot_dict_getitem.lookup hs (bB (ho pins s Z H _ I h) λ u s1 ⟨x,H1,I1,rx,q1⟩=>bB (hi pins s1 Z H1 _ I1 q1) λ iv s2 ⟨y,H2,I2,ry,a,v,ex,g,q2⟩=> ?_);subst ex;obtain rfl:u=Value.ref a:=rx;exact ⟨Gj I2 g,ud hu I2 g ry λ w' s3 I3 rw'=>⟨v,H2,I3,rw',q2⟩⟩
theorem Kw (hu:X.A.units+2<cLine) (hi:PE X i ty) (ho:PE X o td):PC X .In i o (Kv ty td):=by
 intro pins s Z H Q I h;refine bB (hi pins s Z H _ I h) λ iv s1 ⟨y,H1,I1,ry,q1⟩=>bB (ho pins s1 Z H1 _ I1 q1) λ u s2 ⟨x,H2,I2,rx,a,ov,ex,g,q2⟩=> ?_
 subst ex;obtain rfl:u=Value.ref a:=rx;exact Qd hu I2 g ry λ s3 I3=>⟨.bl ov.isSome,H2,I3,rfl,q2⟩
theorem nH (hu:X.A.units+2<cLine) (hi:PE X i ty) (ho:PE X o td):PC X .NotIn i o (jT ty td):=by
 intro pins s Z H Q I h;refine bB (hi pins s Z H _ I h) λ iv s1 ⟨y,H1,I1,ry,q1⟩=>bB (ho pins s1 Z H1 _ I1 q1) λ u s2 ⟨x,H2,I2,rx,a,ov,ex,g,q2⟩=> ?_
 subst ex;obtain rfl:u=Value.ref a:=rx;exact Ax hu I2 g ry λ s3 I3=>⟨.bl (!ov.isSome),H2,I3,rfl,q2⟩
theorem pF (hu:X.A.units+2<cLine) (ho:PE X o td) (hi:PE X i ty) (hv:PE X value tv) (hs:swapsWith value (some (.Subscript o i pos')) pos.line X.env=pure false):
  PS X (.Assign [.Subscript o i pos'] value pos) (rH td ty tv):=by
 intro pins s Z H D I h;refine wpAny_Assign_Subscript (bB (hv pins s Z H _ I h) λ r s1 ⟨v,H1,I1,rv,q1⟩=>bB (ho pins s1 Z H1 _ I1 q1) λ u s2 ⟨x,H2,I2,rx,q2⟩=>bB (hi pins s2 Z H2 _ I2 q2) λ iv s3 ⟨y,H3,I3,ry,a,H4,ex,g,q3⟩=> ?_) hs;subst ex;obtain rfl:u=Value.ref a:=rx;exact ue hu I3 g ry rv λ s4 I4=>⟨Z,H4,I4,q3⟩
def U7 (td ty tx:TE):TE:=λ Z H Q=>td Z H λ x H1=> ∃a kvs,x= .ref a/\Rd H1 a (bA a kvs)/\ty Z H1 λ y H2=>tx Z H2 λ z H3=> ∃o,SGet H3 a y o/\Q (o.getD z) H3
theorem cV {k:Nat} (hr:Room k A):A.units+2<cLine:=Yb (Nat.add_le_add_left (by decide:2<=64) _) hr.units
end
end L2
end
section
namespace Nk
open PySem PySem.Spec PyProof.Rows
variable {es:Array DictEntry} {Q:Value->Shared->Prop}
section
variable {prog:Program} {w:World} {A:Around} {E:Value->Shared->Prop} {s:Shared}
theorem Gk {d:Addr} {od:Obj} {ep:Nat} (lo:(d==sysModules)=false) (hex:od.ExactDict) (ho:s.heap.get? d=some od) (hdd:od.data= .dict es ep) (hfit:(es.size:Int)<2^63)
  (h: ∀t tk,Q (.int es.size t) { s with toks:=tk }):wpAny (model prog w) A (call (.builtin "len") [.ref d]) Q E s:=by
 have T:s.TypeIs (.ref d) "dict":=⟨od,ho,hex.1⟩;refine Calls.call_function_entry kind_len plain_len entry_len (args_len1 _) ?_;unfold Builtin.«len»;refine Qb (m:=oneArg "len" _) (Zc ?_);refine Qb (m:=callSpecial? (.ref d) (Str.ofString "__len__")) (wpAny_callSpecial?_slot (name:=Str.ofString "__len__") T PySem.F.slot_dict_len (Yv PySem.F.slot_dict_len T PySem.F.entry_dict_len ?_ (PySem.F.args_dict_len_1 _)));unfold Builtin.«dict.__len__» Builtin.Dict.dictSlotNone;refine Qb (Qb (wpAny_notOrdered_dict T ?_));show wpAny _ _ (pure (Value.ref d)) _ _ _;refine Zc ?_;show wpAny _ _ (dictSize d >>= _) _ _ _;have nq: ¬ ((d==sysModules)=true):=by rw [lo];exact Zr
 unfold dictSize;refine Qb (Qb (Xy ho hdd (Zc ?_)));show wpAny _ _ (Builtin.Dict.pendingCount d >>= _) _ _ _;unfold Builtin.Dict.pendingCount;refine Qb ?_;rw [if_neg nq];refine Zc ?_;show wpAny _ _ (retInt (((es.size:Nat):Int)+((0:Nat):Int))) _ _ _;rw [show ((es.size:Nat):Int)+((0:Nat):Int)=(es.size:Int) by rfl'];refine wpAny_ret_mkInt ?_;refine Qb (Xg (Zc ?_));refine Qb (wpAny_letGo ?_);show wpAny _ _ (if ((es.size:Nat):Int)<0 then _ else _) _ _ _;rw [if_neg (by rfl')];show wpAny _ _ (if ((es.size:Nat):Int)>=2^63 then _ else _) _ _ _;rw [if_neg (by rfl')];exact Qb (wpAny_mkInt (Zc ⟨_,rfl,h _ _⟩))
end
end Nk
end
section
namespace Sy
open PySem PyProof.Rows
theorem nJ {K:Type} [DecidableEq K] {xs:List (K×Addr×Value)} {k:K} (h:k∉xs.map (·.1)):atKey xs k=none:=by
 unfold atKey;rw [Option.map_eq_none_iff,List.find?_eq_none];intro x mx e;exact h (Zb.mpr ⟨x,mx,Xx e⟩)
end Sy
end
section
namespace St
open PySem PySem.Spec PyProof.Rows
def Az (h:Heap) (a:Addr) (es:Array (Int×Value)) (ep:Nat) (t:SetTable):Prop:= ∃o,h.get? a=some o/\o.ExactSet/\o.data= .set es ep t/\t.fits es.size=true
def Vz (h:Heap) (I:Addr) (f0:Value) (i:Nat) (a:Addr) (n ep:Nat):Prop:= ∃o,h.get? I=some o/\o.cls= .type "set_iterator"/\o.data= .fields #[f0, .int i 0, .ref a, .int n 0, .int ep 0]
section
variable {prog:Program} {w:World} {A:Around} {E:Value->Shared->Prop} {s:Shared}
structure Go (prog:Program) (w:World) (A:Around) (s:Shared) (a:Addr) (vs:List Value) (n:Nat) (I:Addr) (s1:Shared):Prop where
 ex: ∃ (fp:List Addr) (P:Nat->Value->Prop) (St:Nat->Heap->Prop),Walks prog w A I fp [I] n P St/\St 0 s1.heap/\(∀b∈fp,b=a\/s.heap.objs.size<=b)/\ ∀acc:Array Value,ItemsOf P acc n->acc.toList.Perm vs
 keep: ∀b o,s.heap.get? b=some o->s1.heap.get? b=some o
 fresh:s.heap.objs.size<=I
 rest: ∃d,s1={ s with heap:=s1.heap,drawn:=d }
def wU (prog:Program) (w:World) (a:Addr) (es:Array (Int×Value)) (ep:Nat) (t:SetTable):Prop:= ∀ {A:Around} {E:Value->Shared->Prop} {s:Shared} {Q:Value->Shared->Prop},A.handled=none->Az s.heap a es ep t->(∀I s1,Go prog w A s a (es.toList.map (·.2)) es.size I s1->Q (.ref I) s1)->wpAny (model prog w) A (pyIter (.ref a)) Q E s
def tx:Value->Str
 | .str x _=>x
 | _=>⟨#[]⟩
structure SetS (prog:Program) (w:World) (h:Heap) (a:Addr) (ls:List Str) (es:Array (Int×Value)) (ep:Nat) (t:SetTable):Prop where
 at_:Az h a es ep t
 el:ElemsOf (PySem.strKind prog w) es.toList
 pm:(es.toList.map λ e=>tx e.2).Perm ls
 nd:ls.Nodup
 sz:es.size<4096
 led:w.params.followText "set-order"=false->t.led=true
 pl:1<=es.size->t.plain=false
end
end St
end
section
namespace L2
open PySem PySem.Spec PyProof.Rows
def Ba:List V->Hp->VK->Prop:=λ xs H Q=> ∃ (a:Addr) (kvs:List (List Key×V)),xs=[.ref a]/\H a=some (.dT kvs)/\Q (.int kvs.length) H
theorem xZ {X:Cx}:bH X (.builtin "len") Ba:=by
 intro pins s Z H xs us Q I rv h;obtain ⟨a,kvs,rfl,ea,q⟩:=h;obtain ⟨u,rfl,ru⟩:=rv.one
 cases (show u=Value.ref a from ru);obtain ⟨z,lo,xs,rel,o,es,ep,h1,h2,h3,h4,_⟩:=mW I.hok ea;have hes:es.size=kvs.length:=by rw [<- Xm,h4,Qr,Wp rel]
 refine Nk.Gk lo h2 h1 h3 (by rw [hes];rw [sizeLine_eq] at z;rfl') λ t tk=> ?_
 rw [hes];exact ⟨.int kvs.length,H,I.tok _,⟨t,rfl⟩,q⟩
end L2
end
section
namespace Tb
open PySem
def g5:Nat->Nat
 | 0=>0
 | n+1=>5*g5 n+1
def f5 (M:Nat):Nat->Nat->Nat
 | 0,x=>x%M
 | n+1,x=>(5*f5 M n x+1)%M
def VB (xs:Array Nat):Prop:= ∀i k,i<k->k<xs.size->xs.getD i 0<xs.getD k 0
def lp (mask:Nat) (h:Int):Nat->Nat×Nat
 | 0=>(SetTable.bits h%(mask+1),SetTable.bits h)
 | n+1=>SetTable.leap mask (lp mask h n).1 (lp mask h n).2
def rn (mask:Nat) (h:Int) (n:Nat):Nat:=SetTable.runEnd mask (lp mask h n).1-(lp mask h n).1
def po (mask:Nat) (h:Int) (n r:Nat):Nat:=(lp mask h n).1+r
def pr (mask:Nat) (h:Int) (n r:Nat):SetTable.Probe:={ j:=po mask h n r,more:=rn mask h n-r,i:=(lp mask h n).1,perturb:=(lp mask h n).2,dummy:=none }
def Vk (t:SetTable) (j:Nat):Prop:= ∃i:Nat,t.place[i]? =some j
def Qe (n r n' r':Nat):Prop:=n<n'\/(n=n'/\r<r')
def Pass (t:SetTable) (ha:Nat->Int) (h:Int) (n0 r0 n r:Nat):Prop:= ∀n' r',r'<=rn t.mask h n'-> ¬Qe n' r' n0 r0->Qe n' r' n r-> ∃i:Nat,t.place[i]? =some (po t.mask h n' r')/\ha i≠h
inductive Meets (t:SetTable) (ha:Nat->Int) (h:Int) (n0 r0:Nat):SetTable.Met->Prop
 | empty {n r:Nat} (hr:r<=rn t.mask h n) (ps:Pass t ha h n0 r0 n r) (no: ¬Vk t (po t.mask h n r)):Meets t ha h n0 r0 (.empty (po t.mask h n r) none)
 | cand {n r i:Nat} (hr:r<=rn t.mask h n) (ge: ¬Qe n r n0 r0) (ps:Pass t ha h n0 r0 n r) (hi:t.place[i]? =some (po t.mask h n r)) (he:ha i=h):Meets t ha h n0 r0 (.candidate (po t.mask h n r) i (t.advance (pr t.mask h n r)))
section
variable {β:Type}
structure Ok (t:SetTable) (es:Array (Int×β)):Prop where
 pw: ∃k,t.mask+1=2^k
 dm:t.dummies= #[]
 as:VB t.place
 le: ∀i j:Nat,t.place[i]? =some j->j<=t.mask
 sz:t.place.size=es.size
 rm:es.size<=t.mask
 pt: ∀ (i j:Nat) e,t.place[i]? =some j->es[i]? =some e-> ∃n r,r<=rn t.mask e.1 n/\po t.mask e.1 n r=j/\ ∀n' r',r'<=rn t.mask e.1 n'->Qe n' r' n r->Vk t (po t.mask e.1 n' r')
end
def stp (mask:Nat) (acc:Option (Array (Option Nat)×Nat)) (h:Int):Option (Array (Option Nat)×Nat):=do
 let (owner,k) <- acc
 let j <- SetTable.layClean.free mask owner (SetTable.turns mask) (SetTable.bits h%(mask+1)) (SetTable.bits h)
 pure (owner.setIfInBounds j (some k),k+1)
structure Lay (mask:Nat) (hs:List Int) (owner:Array (Option Nat)):Prop where
 size:owner.size=mask+1
 val: ∀j k:Nat,owner[j]? =some (some k)->k<hs.length
 uq: ∀j j' k:Nat,owner[j]? =some (some k)->owner[j']? =some (some k)->j=j'
 ex: ∀ (k:Nat) h,hs[k]? =some h-> ∃n r,r<=rn mask h n/\owner[po mask h n r]? =some (some k)/\ ∀n' r',r'<=rn mask h n'->Qe n' r' n r-> ∃k',owner[po mask h n' r']? =some (some k')
def lv (owner:Array (Option Nat)) (m:Nat):List (Nat×Nat):=(List.range m).filterMap λ j=>(owner.getD j none).map (j,·)
end Tb
end
section
namespace Ts
open PySem PySem.Spec PyProof.Rows
section
variable {prog:Program} {w:World} {A:Around} {E:Value->Shared->Prop} {s:Shared} {K:Type} [DecidableEq K] {knd:HeapKind prog w K}
structure SetK (knd:HeapKind prog w K) (h:Heap) (a:Addr) (ks:List (K×Addr)) (es:Array (Int×Value)) (ep:Nat) (t:SetTable):Prop where
 at_:St.Az h a es ep t
 ok:Tb.Ok t es
 lo:es.size*5<t.mask*3
 ms:t.mask=7\/t.mask=31\/t.mask=127\/t.mask=511\/t.mask=2047\/t.mask=8191
 ee:es.toList=ks.map λ p=>(knd.hash p.1,Value.ref p.2)
 is: ∀p∈ks,knd.is h p.1 p.2
 nd:(ks.map (·.1)).Nodup
 led:w.params.followText "set-order"=false->t.led=true
structure Calm (knd:HeapKind prog w K):Prop where
 cs: ∀ {A:Around} {E:Value->Shared->Prop} {s:Shared} {k:K} {a:Addr} {Q:Bool->Shared->Prop},knd.is s.heap k a->Q false s->wpAny (model prog w) A (ofAClassStatement 8 (.ref a)) Q E s
 hv: ∀ {A:Around} {E:Value->Shared->Prop} {s:Shared} {k:K} {a:Addr} {Q:Bool->Shared->Prop},knd.is s.heap k a->(∀b,Q b s)->wpAny (model prog w) A (hashByValue 8 (.ref a)) Q E s
 kp: ∀ {h h':Heap} {k:K} {a d:Addr} {o:Obj},knd.is h k a->h.get? d=some o->o.cls≠ .type "tuple"->(∀c o',c≠d->h.get? c=some o'->h'.get? c=some o')->knd.is h' k a
 ke: ∀ {h h':Heap} {k:K} {a:Addr},knd.is h k a->(∀c o',h.get? c=some o'->h'.get? c=some o')->knd.is h' k a
end
end Ts
end
section
namespace Ck
open PySem PySem.Spec PyProof.Rows Nk
abbrev Qf:=Int×j8
section
variable {prog:Program} {w:World} {A:Around} {E:Value->Shared->Prop} {s:Shared}
def VD (prog:Program) (w:World) (h:Heap) (k:Qf) (a:Addr):Prop:= ∃o n v1 b,h.get? a=some o/\o.cls= .type "tuple"/\o.data= .seq #[v1, .ref b] n/\(intKind prog w).is k.1 v1=true/\IsSt prog w h k.2 b
def Qg (k:Qf):Int:=reduceHash (Builtin.Tuple.tupleHashOf [hashInt k.1,nA k.2])
end
end Ck
end
section
namespace L2
open PySem PySem.Spec PyProof.Rows Sx Nk Ck
variable {A:Around}
abbrev wj:=Int×Int×Int×List Int
def Vl (H:Hp) (b:Addr) (k:wj):Prop:= ∃c,H b=some (.tup [.int k.1, .ref c])/\pA H c k.2
def U8 (x:wj×Addr×Value):DictEntry:=⟨Qg x.1, .ref x.2.1,x.2.2⟩
def VF (a:Addr) (kvs:List (Addr×wj×V)) (h:Heap):Prop:=kvs.length<=sizeLine/\(a==sysModules)=false/\ ∃xs:List (wj×Addr×Value),Paired (λ (p:Addr×wj×V) (q:wj×Addr×Value)=>p.2.1=q.1/\p.1=q.2.1/\RelV p.2.2 q.2.2) kvs xs/\
 ∃o es ep,h.get? a=some o/\o.ExactDict/\o.data= .dict es ep/\es.toList=xs.map U8/\(xs.map (·.1)).Nodup
abbrev U9 (a:Addr) (kvs:List (Addr×wj×V)):HO:= .ext (VF a kvs)
def Ua (kvs:List (Addr×wj×V)) (k:wj):Option V:=(kvs.find? λ p=>decide (p.2.1=k)).map (·.2.2)
def Ub (kvs:List (Addr×wj×V)) (b:Addr) (k:wj) (v:V):List (Addr×wj×V):=if (Ua kvs k).isSome then kvs.map λ p=>if p.2.1=k then (p.1,p.2.1,v) else p else kvs++[(b,k,v)]
def Uc (H:Hp) (a:Addr) (y v:V) (H':Hp):Prop:= ∃kvs k b,H a=some (U9 a kvs)/\(∀p∈kvs,Vl H p.1 p.2.1)/\y= .ref b/\Vl H b k/\kvs.length<sizeLine/\H'=upd H a (U9 a (Ub kvs b k v))
section
variable {P:Program} {w:World} {H:Hp} {h:Heap} {a b:Addr}
abbrev KC:List (Addr×wj×V)->List (wj×Addr×Value)->Prop:=Paired λ p q=>p.2.1=q.1/\p.1=q.2.1/\RelV p.2.2 q.2.2
end
def Vm:TE:=λ _ H Q=> ∀p,H p=none->Q (.ref p) (upd H p (U9 p []))
def Vn (td ty tv:TE):TS:=λ D Z H=>tv Z H λ v H1=>td Z H1 λ x H2=>ty Z H2 λ y H3=> ∃a H4,x= .ref a/\Uc H3 a y v H4/\D.nx Z H4
section
variable {X:Cx} {o i e value:Expr} {pos pos' tpos:Pos} {td ty tv:TE}
theorem Gm {k:Nat} (hr:Room k A):A.units+12<cLine:=Yb (Nat.add_le_add_left (by decide:12<=64) _) hr.units
end
end L2
end
section
namespace L2
open PySem PySem.Spec PyProof.Rows Nk
variable {H:Hp} {a:Addr} {tg:Expr} {w:World} {S:Heap->Prop} {es:Array DictEntry} {kvs:List (Addr×Sk×V)} {pins:List (Addr×Obj)}
section
variable {P:Program} {w:World} {H:Hp} {h:Heap} {a:Addr} {S:Heap->Prop} {od:Obj}
theorem HOk.freezeE (x:HOk P w H h) (ea:H a=some (.ext S)) (eo:h.get? a=some od):HOk P w (upd H a (.frz od (.ext S))) h:=by
 have keepO: ∀c y,H c=some (.own y)->upd H a (.frz od (.ext S)) c=some (.own y):=λ c y q=>by
  rw [au (bx q ea (by intro z;cases z))];exact q
 have keepT: ∀c xs,H c=some (.tup xs)->upd H a (.frz od (.ext S)) c=some (.tup xs):=λ c xs q=>by
  rw [au (bx q ea (by intro z;cases z))];exact q
 intro b u e;by_cases hb:b=a
 .rw [hb] at e ⊢;rw [aa] at e
  cases e;exact ⟨eo,(x a _ ea).stay (λ c v _ q=>q) (λ c q=>keepO c _ q) λ c xs q=>keepT c xs q⟩
 .rw [au hb] at e;exact (x b u e).stay (λ c v _ q=>q) (λ c q=>keepO c _ q) λ c xs q=>keepT c xs q
end
theorem Inv.freezeE {X:Cx} {Z:St} {s:Shared} {od:Obj} (I:Inv X pins Z H s) (ea:H a=some (.ext S)) (eo:s.heap.get? a=some od):
  Inv X pins Z (upd H a (.frz od (.ext S))) s:=by
 refine I.call' (ch:=[]) rfl ⟨λ b o q _ _ _=>q,λ b o q _ _ _=>⟨o.slots,q⟩,λ b o q n _=> ?_,λ b o q _=>⟨o,q⟩,λ b xs q=> ?_,λ b o u q=> ?_,λ b ps q=>⟨#[],?_⟩⟩ (I.hok.freezeE ea eo) I.bare λ b hb=>nomatch hb
 .rw [au (λ z=>by rw [z,ea] at n;cases n)];exact n
 .rw [au (bx q ea (by intro z;cases z))];exact q
 .rw [au (bx q ea (by intro z;cases z))];exact q
 .rw [au (bx q ea (by intro z;cases z)),q];simp
theorem jn {P:Program} {h:Heap} {od:Obj} (ok:HOk P w H h) (ea:H a=some (.frz od (bA a kvs))):
  h.get? a=some od/\od.ExactDict/\(a==sysModules)=false/\ ∃es ep xs,od.data= .dict es ep/\KS kvs xs/\es.toList=xs.map xY/\es.size=kvs.length:=by
 obtain ⟨eo,⟨_,y,xs,r,o,es,ep,h1,h2,h3,h4,_⟩,_⟩:=(show ObjOk P w H h a (.frz od (bA a kvs)) from ok a _ ea);rw [eo] at h1
 cases h1;exact ⟨eo,h2,y,es,ep,xs,h3,r,h4,by rw [<- Xm,h4,Qr];exact (Wp r).symm⟩
def uf (od:Obj) (a:Addr) (kvs:List (Addr×Sk×V)):It where
 go:=λ i H=>H a=some (.frz od (bA a kvs))/\i<kvs.length
 yld:=λ i H v H'=>H'=H/\ ∃p,kvs[i]? =some p/\v= .ref p.1
 stop:=λ i H=>H a=some (.frz od (bA a kvs))/\kvs.length<=i
theorem ug {P:Program} {K:W.Frag} (it a:Addr) {od:Obj} {ep:Nat} (hdd:od.data= .dict es ep):Turn P w K tg (uf od a kvs) [it] it (λ i h=>h.IsKeyIter it a i es.size ep) where
 mem:=by simp
 obj:=λ i h st b hb=>by
  obtain ⟨o,e,c,d⟩:=st;have e':b=it:=by simpa using hb
  rw [e'];exact ⟨o,e,λ v z=>by rw [d] at z;cases z⟩
 keep:=λ i h h' st k=>by
  obtain ⟨o,e,r⟩:=st;exact ⟨o,k it (by simp) o e,r⟩
 item:=by
  intro X hP hw hK hc i pins s Z H E I hf st hg;subst hP hw hK;obtain ⟨ea,hi⟩:=hg;obtain ⟨eo,_,_,es',ep',xs,e3,rel,e4,hsz⟩:=jn I.hok ea;rw [hdd] at e3
  cases e3;obtain ⟨f0,f1,f2,f3,f4,f5⟩:=hf it (by simp);refine lq st eo hdd (by rfl') λ h' st' hs=> ?_
  have I1:Inv X pins Z H { s with heap:=h',toks:=s.toks }:=I.turned (λ b o hb e=>hs.extBut b o hb e) f0 f1 f3 f4 f5;obtain ⟨o,e,hcl,d⟩:=id st';obtain ⟨p,q,hk,hx,_,r2,_⟩:=fC i rel hi;have hes:(es[i]'(by rfl')).key= .ref p.1:=by
   have:es.toList[i]? =some (xY q):=by rw [e4,Zj,hx];rfl
   rw [Xf,Wt (by rfl')] at this;rw [Ym this,r2];rfl
  refine ⟨_,rfl,qp (s:={ s with heap:=h' }) e hcl d (by decide) ⟨.ref p.1,H,I1,by rw [hes];rfl,⟨rfl,p,hk,rfl⟩,st',λ b hb=>(hf b hb).1⟩⟩
 done:=by
  intro X hP hw hK hc i pins s Z H E I hf st hg;subst hP hw hK;obtain ⟨ea,hi⟩:=hg;obtain ⟨eo,_,_,es',ep',xs,e3,rel,e4,hsz⟩:=jn I.hok ea;rw [hdd] at e3
  cases e3;obtain ⟨f0,f1,f2,f3,f4,f5⟩:=hf it (by simp);exact oX (I.ok.hd hc) st eo hdd (by rfl') λ h' kk=>⟨rfl,I.turned (t':=s.toks) (λ b o hb e=>kk b o hb e) f0 f1 f3 f4 f5⟩
 self:=λ _ _ _ _ _ st h=>wpAny_pyIter_keyiter st h
def pG (tl:TE):TI:=λ Z H R=>tl Z H λ x H1=> ∃a kvs,x= .ref a/\((H1 a=some (bA a kvs)/\ ∀od,R (uf od a kvs) (upd H1 a (.frz od (bA a kvs))))\/ ∃od,H1 a=some (.frz od (bA a kvs))/\R (uf od a kvs) H1)
theorem rJ {X:Cx} {l:Expr} {tl:TE} (hl:PE X l tl):PI X tg l (pG tl):=by
 intro pins s Z H R I h;refine bB (hl pins s Z H _ I h) λ v s1 ⟨x,H1,I1,r1,q1⟩=> ?_
 obtain ⟨a,kvs,rfl,q⟩:=q1
 cases r1;obtain ⟨od,H2,I2,ea,q⟩: ∃od H2,Inv X pins Z H2 s1/\H2 a=some (.frz od (bA a kvs))/\R (uf od a kvs) H2:=by
  rcases q with ⟨ea,q⟩ | ⟨od,ea,q⟩
  .obtain ⟨⟨_,_,_,_,o,es,ep,e1,_⟩,_⟩:=(show ObjOk X.prog X.w H1 s1.heap a (bA a kvs) from I1.hok a _ ea);exact ⟨o,_,I1.freezeE ea e1,aa,q o⟩
  .exact ⟨od,H1,I1,ea,q⟩
 obtain ⟨eo,ex,hsm,es,ep,xs,e3,_⟩:=jn I2.hok ea;refine j5 hsm ⟨od,eo,ex.1⟩ eo e3 ?_;refine ⟨s1.heap.objs.size,[s1.heap.objs.size],_,_,_,rfl,I2.kept (t':=s1.toks) λ b o e=>Zf _ e,ug _ a e3,⟨_,Zt _ rfl,rfl,rfl⟩,λ b hb=> ?_,q⟩;rw [Za.mp hb];exact I2.fpOk (Zk _) (I2.hok.fresh (Zk _))
end L2
end
section
namespace Nk
open PySem
variable {Q:Option Value->Shared->Prop}
section
variable {prog:Program} {w:World} {A:Around} {E:Value->Shared->Prop} {s:Shared} {it d v:Addr} {i ep:Nat} {od:Obj} {es:Array DictEntry} {ok ov:Value}
theorem Gp {Q:Value->Shared->Prop} (lo:(d==sysModules)=false) (hex:od.ExactDict) (ho:s.heap.get? d=some od)
  (h:Q (.ref s.heap.objs.size) { s with heap:=s.heap.push { cls:= .type "dict_items",data:= .fields #[.ref d] } }):wpAny (model prog w) A (call (.builtin "dict.items") [.ref d]) Q E s:=by
 have T:s.TypeIs (.ref d) "dict":=⟨od,ho,hex.1⟩;refine Yv F.slot_dict_items T F.entry_dict_items ?_ (F.args_dict_items_1 _);unfold Builtin.«dict.items» Builtin.Dict.noArgs;refine Qb (Qb (wpAny_notOrdered_dict T (Zc (show wpAny _ _ (Builtin.Dict.showsAll d >>= _) _ _ s from ?_))));unfold Builtin.Dict.showsAll;rw [lo];exact Qb (Zc (Qb (Xe (Zc ⟨_,rfl,h⟩))))
theorem Gq {Q:Value->Shared->Prop} (hv:s.heap.IsItemsView v d) (ho:s.heap.get? d=some od) (hdd:od.data= .dict es ep)
  (h:Q (.ref s.heap.objs.size) { s with heap:=s.heap.push { cls:= .type "dict_itemiterator",data:= .fields #[.none, .bool false, .ref d, .int 0 0, .int es.size 0, .int ep 0, .none, .none] } }):
  wpAny (model prog w) A (pyIter (.ref v)) Q E s:=by
 obtain ⟨o,e1,_,e3⟩:=id hv;refine wpAny_pyIter_slot hv.typeIs F.slot_dict_items_iter (Yv F.slot_dict_items_iter hv.typeIs F.entry_dict_items_iter ?_ (F.args_dict_items_iter_1 _));unfold Builtin.«dict_items.__iter__» Builtin.Dict_items.dictOf Builtin.Dict_items.newIterator;refine Qb (Zc (Qb (Qb (Xl e1 e3 (x:= .ref d) rfl (Zc (Qb (Qb (Xy ho hdd (Qb (wpAny_dictEpoch ho hdd ?_))))))))));simp only [show Builtin.Dict_items.ownsTuple "dict_itemiterator"=true by decide,if_true];refine Xe (Zc ⟨_,rfl,"dict_itemiterator",_,⟨_,Zt _ rfl,rfl⟩,F.slot_dict_itemiterator_next.lookup,?_⟩) (by simp [sizeOk,Builtin.Dict_items.ownedTupleFields,sizeLine_eq]);simpa [rawInt,Builtin.Dict_items.ownedTupleFields] using h
theorem Gr (hit:IsItemIter s.heap it d i es.size ep ok ov) (hod:s.heap.get? d=some od) (hdd:od.data= .dict es ep) (hi:i<es.size)
  (hQ: ∀h',IsItemIterOut h' it d (i+1) es.size ep es[i].key es[i].val s.heap.objs.size->h'.get? s.heap.objs.size=some { cls:= .type "tuple",data:= .seq #[es[i].key,es[i].val] }->h'.objs.size=s.heap.objs.size+1->
   (∀b o,b≠it->s.heap.get? b=some o->h'.get? b=some o)->Q (some (.ref s.heap.objs.size)) { s with heap:=h' }):wpAny (model prog w) A (pyNext (.ref it)) Q E s:=by
 have T:s.TypeIs (.ref it) "dict_itemiterator":=⟨_,hit,rfl⟩;unfold pyNext;refine Qb (wpAny_attempt (wpAny_callSpecial?_slot (name:=Str.ofString "__next__") T F.slot_dict_itemiterator_next (Yv F.slot_dict_itemiterator_next T F.entry_dict_itemiterator_next ?_ (F.args_dict_itemiterator_next_1 _))));have f0:Builtin.Dict_items.ownsTuple "dict_itemiterator"=true:=by decide
 have f1: ¬ (Value.ref d==Value.none)=true:=Zr;have f2: ¬ ((i:Int)<0):=by rfl'
 have tn: ∀ {s':Shared} {A':Around} {E':Value->Shared->Prop} {R:String->Shared->Prop},s'.TypeIs (.ref it) "dict_itemiterator"->R "dict_itemiterator" s'->wpAny (model prog w) A' (typeNameOfWhole (.ref it)) R E' s':=λ a b=>wpAny_typeNameOfWhole_itemiter a b
 repeat (first
  | (refine tn T ?_)
  | (refine wpAny_fieldsOf hit rfl ?_)
  | (refine Xy hod hdd ?_)
  | (refine wpAny_dictEpoch hod hdd ?_)
  | (refine Zc ?_)
  | (refine Qb ?_)
  | (simp only [f0,if_true])
  | (rw [if_neg f1])
  | (rw [if_neg (by simp)]))
 rw [Yh,Wt hi];dsimp only;refine Qb (Qb (tn T (Zc (Qb (wpAny_isOneOf_itemiter T ?_)))));show wpAny (model prog w) A.in1 (do setField (.ref it) 3 (rawInt ((i:Int)+1));_) _ _ s;refine Qb (Xk hit (by simp) λ h1 g1 k1=> ?_);replace k1:Heap.SameBut it s.heap h1:=k1;replace g1:IsItemIter h1 it d (i+1) es.size ep ok ov:=by
  unfold IsItemIter;rw [show ((i+1:Nat):Int)=(i:Int)+1 by rfl'];simpa [rawInt] using g1
 have T1:Shared.TypeIs { s with heap:=h1 } (.ref it) "dict_itemiterator":=⟨_,g1,rfl⟩;refine Qb (Xg (Qb (wpAny_isOneOf_itemiter T1 (Qb (wpAny_isOneOf_itemiter T1 ?_)))));show wpAny (model prog w) _ (Builtin.Dict_items.pairFromOwner (.ref it) 6 es[i].key es[i].val) _ _ { s with heap:=h1 };unfold Builtin.Dict_items.pairFromOwner Builtin.Dict_items.ownedTupleIsFree;refine Qb (wpAny_newTuple ?_);have z1:h1.objs.size=s.heap.objs.size:=k1.1;have hil:it<s.heap.objs.size:=Zp hit;obtain ⟨h2,g2,t2,z2,k2,e2⟩: ∃h2,IsItemIter h2 it d (i+1) es.size ep ok ov/\h2.get? s.heap.objs.size=some { cls:= .type "tuple",data:= .seq #[es[i].key,es[i].val] }/\h2.objs.size=s.heap.objs.size+1/\(∀b o,b≠it->s.heap.get? b=some o->h2.get? b=some o)/\h2=h1.push { cls:= .type "tuple",data:= .seq #[es[i].key,es[i].val] }:=
  ⟨_,Zf _ g1,by rw [<- z1];exact Zt _ rfl,by rw [Heap.size_push,z1],λ b o hb e=>Zf _ (k1.extBut b o hb e),rfl⟩
 rw [z1];show wpAny (model prog w) _ _ _ _ { s with heap:=h1.push { cls:= .type "tuple",data:= .seq #[es[i].key,es[i].val] } };rw [<- e2];clear e2 g1 k1 T1 z1;refine Qb (Qb (Xl g2 rfl (x:= .none) rfl (Zc ?_)));simp only [if_true];refine Qb (Xl g2 rfl (x:=ok) rfl (Qb (Xl g2 rfl (x:=ov) rfl ?_)));refine Qb (Xk g2 (by simp) λ h3 g3 k3=>Qb (Xk g3 (by simp) λ h4 g4 k4=>Qb (Xk g4 (by simp) λ h5 g5 k5=>Qb (Xk g5 (by simp) λ h6 g6 k6=> ?_))));replace g6:IsItemIterOut h6 it d (i+1) es.size ep es[i].key es[i].val s.heap.objs.size:=g6;replace k3:Heap.SameBut it h2 h3:=k3;replace k4:Heap.SameBut it h3 h4:=k4;replace k5:Heap.SameBut it h4 h5:=k5;replace k6:Heap.SameBut it h5 h6:=k6;have kk: ∀b o,b≠it->h2.get? b=some o->h6.get? b=some o:=λ b o hb e=>k6.extBut b o hb (k5.extBut b o hb (k4.extBut b o hb (k3.extBut b o hb e)))
 exact Qb (wpAny_letGo (Zc (Zc ⟨_,rfl,Zc (hQ h6 g6 (kk _ _ (Nat.ne_of_gt hil) t2) (by rw [k6.1,k5.1,k4.1,k3.1,z2]) λ b o hb e=>kk b o hb (k2 b o hb e))⟩)))
theorem Ky (hh:A.handled=none) (hit:IsItemIter s.heap it d i es.size ep ok ov) (hod:s.heap.get? d=some od) (hdd:od.data= .dict es ep) (hi:es.size<=i)
  (hQ: ∀h',Heap.ExtBut it s.heap h'->Q none { s with heap:=h' }):wpAny (model prog w) A (pyNext (.ref it)) Q E s:=by
 have T:s.TypeIs (.ref it) "dict_itemiterator":=⟨_,hit,rfl⟩;unfold pyNext;refine Qb (wpAny_attempt (wpAny_callSpecial?_slot (name:=Str.ofString "__next__") T F.slot_dict_itemiterator_next (Yv F.slot_dict_itemiterator_next T F.entry_dict_itemiterator_next ?_ (F.args_dict_itemiterator_next_1 _))));have f0:Builtin.Dict_items.ownsTuple "dict_itemiterator"=true:=by decide
 have f1: ¬ (Value.ref d==Value.none)=true:=Zr;have tn: ∀ {s':Shared} {A':Around} {E':Value->Shared->Prop} {R:String->Shared->Prop},s'.TypeIs (.ref it) "dict_itemiterator"->R "dict_itemiterator" s'->wpAny (model prog w) A' (typeNameOfWhole (.ref it)) R E' s':=λ a b=>wpAny_typeNameOfWhole_itemiter a b
 repeat (first
  | (refine tn T ?_)
  | (refine wpAny_fieldsOf hit rfl ?_)
  | (refine Xy hod hdd ?_)
  | (refine wpAny_dictEpoch hod hdd ?_)
  | (refine Zc ?_)
  | (refine Qb ?_)
  | (simp only [f0,if_true])
  | (rw [if_neg f1])
  | (rw [if_neg (by simp)]))
 rw [Yh,Array.getElem?_eq_none hi];dsimp only;refine Qb (Qb (tn T (Zc ?_)));show wpAny (model prog w) A.in1 (do setField (.ref it) 2 .none;_) _ _ s;refine Qb (wpAny_setField hit rfl (by simp) (Qb ?_));have fin: ∀h' x,Heap.ExtBut it s.heap h'->(∃ob,h'.get? x=some ob/\ob.cls= .type "StopIteration")->wpAny (model prog w) A (do let b <- isInstance (.ref x) (.type "StopIteration");if b=true then pure none else throw (.ref x)) Q E { s with heap:=h' }:=λ h' x eb ⟨ob,e1,e2⟩=>Qb (wpAny_isInstance (T:="StopIteration") (b:=true) ⟨ob,e1,e2⟩ isSubtype_stop (Zc (hQ h' eb)))
 simp only [newExc,newTuple,raiseNew];repeat (first
  | exact fin _ _ (((Xn ..).extBut.push _).push _) ⟨_,Zt _ rfl,rfl⟩
  | (refine Xe ?_ (by size_fits))
  | (refine wpAny_handled ?_)
  | (refine wpAny_throw ?_)
  | (refine Zc ?_)
  | (rw [show A.in1.handled=none from hh])
  | (refine Qb (m:=firstArgMember _ _) (wpAny_of_eq (a:=Value.none) (by first | rfl | (simp only [firstArgMember];rfl)) ?_))
  | (refine Qb ?_))
end
end Nk
namespace L2
open PySem PySem.Spec PyProof.Rows Nk
variable {k:Nat} {w:World} {tpos:Pos} {elts:List Expr} {es:Array DictEntry} {kvs:List (Addr×Sk×V)}
def uh (od:Obj) (a:Addr) (kvs:List (Addr×Sk×V)):It where
 go:=λ i H=>H a=some (.frz od (bA a kvs))/\i<kvs.length
 yld:=λ i H v H'=> ∃p q,H p=none/\kvs[i]? =some q/\v= .ref p/\H'=upd H p (.tup [.ref q.1,q.2.2])
 stop:=λ i H=>H a=some (.frz od (bA a kvs))/\kvs.length<=i
theorem rK {P:Program} {K:W.Frag} (it a:Addr) {od:Obj} {ep:Nat} (hdd:od.data= .dict es ep):
  Turn P w K (.Tuple elts k tpos) (uh od a kvs) [it] it (λ i h=> ∃ok ov,IsItemIter h it a i es.size ep ok ov) where
 mem:=by simp
 obj:=λ i h st b hb=>by
  obtain ⟨ok,ov,st⟩:=st;rw [Za.mp hb];exact ⟨_,st,λ v z=>by cases z⟩
 keep:=λ i h h' ⟨ok,ov,st⟩ kk=>⟨ok,ov,kk it (by simp) _ st⟩
 item:=by
  intro X hP hw hK hc i pins s Z H E I hf st hg;subst hP hw hK;obtain ⟨ok,ov,st⟩:=st;obtain ⟨ea,hi⟩:=hg;obtain ⟨eo,_,_,es',ep',xs,e3,rel,e4,hsz⟩:=jn I.hok ea;rw [hdd] at e3
  cases e3;refine Gr st eo hdd (by rfl') λ h' a1 a3 a4 a5=> ?_
  refine ⟨_,rfl,wpAny_letOwnedTupleGo_items a1 λ h'' b1 hs=> ?_⟩;have hT:s.heap.objs.size≠it:=Nat.ne_of_gt (Zp st);obtain ⟨p,q,hk,hx,_,r2,r3⟩:=fC i rel hi;have hes:es[i]'(by rfl')=xY q:=by
   have:es.toList[i]? =some (xY q):=by rw [e4,Zj,hx];rfl
   rw [Xf,Wt (by rfl')] at this;exact Ym this
  have kk: ∀c o,c∉[it]->s.heap.get? c=some o->h''.get? c=some o:=λ c o hc' q=>by
   have hc2:c≠it:=λ z=>hc' (by rw [z];simp)
   exact hs.extBut _ _ hc2 (a5 c o hc2 q)
  have I1:Inv X pins Z H { s with heap:=h'',toks:=s.toks }:=I.turnedAll kk hf;have hnew:H s.heap.objs.size=none:=I.hok.fresh (Zk _);have e5:h''.get? s.heap.objs.size=some { cls:= .type "tuple",data:= .seq #[.ref p.1,q.2.2] }:=by
   have:=hs.extBut _ _ hT a3;rw [hes] at this;rw [r2];exact this
  have un:Un (frs X.stack) [it] H (upd H s.heap.objs.size (.tup [.ref p.1,p.2.2])) s.heap h'':=
   ⟨λ b o q _ _ hx=>kk b o hx q,λ b o q _ _ hx=>⟨o.slots,kk b o hx q⟩,λ b o q n _=>by rw [au (Yo (Zp q))];exact n,λ b o q hx=>⟨o,kk b o hx q⟩,
    λ b xs q=>by rw [au (aO q hnew)];exact q,λ b o y q=>by rw [au (aO q hnew)];exact q,λ b ps q=>⟨#[],by rw [au (aO q hnew),q];simp⟩⟩
  have hok:HOk X.prog X.w (upd H s.heap.objs.size (.tup [.ref p.1,p.2.2])) h'':=HOk.track I1.hok hnew ⟨by show 2<=sizeLine;decide,[.ref p.1,q.2.2], .cons rfl (.cons r3 .nil),_,e5,rfl,_,rfl⟩;have I2:Inv X pins Z (upd H s.heap.objs.size (.tup [.ref p.1,p.2.2])) { s with heap:=h'',toks:=s.toks }:=I.call' (s':={ s with heap:=h'',toks:=s.toks }) rfl un hok I.bare λ c hc'=>⟨(hf c hc').2.2.2.1,(hf c hc').2.1,(hf c hc').2.2.2.2⟩
  refine ⟨.ref s.heap.objs.size,_,I2,rfl,⟨_,p,hnew,hk,rfl,rfl⟩,⟨_,_,b1⟩,λ c hc'=> ?_⟩;rw [Za.mp hc',au (Yo (Zp st))];exact (hf it (by simp)).1
 done:=by
  intro X hP hw hK hc i pins s Z H E I hf st hg;subst hP hw hK;obtain ⟨ok,ov,st⟩:=st;obtain ⟨ea,hi⟩:=hg;obtain ⟨eo,_,_,es',ep',xs,e3,rel,e4,hsz⟩:=jn I.hok ea;rw [hdd] at e3
  cases e3;refine Ky (I.ok.hd hc) st eo hdd (by rfl') λ h' kk=>⟨rfl,I.turnedAll (t':=s.toks) (λ c o hc' q=>kk c o (λ z=>hc' (by rw [z];simp)) q) hf⟩
 self:=λ _ _ _ _ _ ⟨_,_,st⟩ h=>PySem.W.kcp_self st h
def pH (tl:TE):TI:=λ Z H R=>tl Z H λ x H1=> ∃a kvs,x= .ref a/\((H1 a=some (bA a kvs)/\ ∀od,R (uh od a kvs) (upd H1 a (.frz od (bA a kvs))))\/ ∃od,H1 a=some (.frz od (bA a kvs))/\R (uh od a kvs) H1)
theorem yc {X:Cx} {apos cpos:Pos} {o:Expr} {tl:TE} (hl:PE X o tl) (hbase:attributeBase o "items" X.env (eval o X.env)=eval o X.env:=by rfl) (hline:(apos.endLine==cpos.line)=true:=by rfl):
  PI X (.Tuple elts k tpos) (.Call (.Attribute o "items" apos) [] [] cpos) (pH tl):=by
 intro pins s Z H R I h;refine wpAny_Call_method0_late hbase hline (bB (hl pins s Z H _ I h) λ v s1 ⟨x,H1,I1,r1,q1⟩=> ?_);obtain ⟨a,kvs,rfl,q⟩:=q1
 cases (show v=Value.ref a from r1);obtain ⟨od,H2,I2,ea,q⟩: ∃od H2,Inv X pins Z H2 s1/\H2 a=some (.frz od (bA a kvs))/\R (uh od a kvs) H2:=by
  rcases q with ⟨ea,q⟩ | ⟨od,ea,q⟩
  .obtain ⟨⟨_,_,_,_,o,es,ep,e1,_⟩,_⟩:=(show ObjOk X.prog X.w H1 s1.heap a (bA a kvs) from I1.hok a _ ea);exact ⟨o,_,I1.freezeE ea e1,aa,q o⟩
  .exact ⟨od,H1,I1,ea,q⟩
 obtain ⟨eo,ex,hsm,es,ep,xs,e3,_⟩:=jn I2.hok ea;refine ⟨"dict","dict.items",PySem.F.plainAttrs_dict,PySem.F.slot_dict_items,PySem.F.type_dict_items,⟨od,eo,ex.1⟩,λ a1 e1=>by cases e1;exact ⟨od,eo,ex.2.1⟩,Calls.callWith_builtin rfl (PySem.evalArgs_none (Gp hsm ex eo ?_))⟩;refine Gq ⟨_,Zt _ rfl,rfl,rfl⟩ (Zf _ eo) e3 ?_;have I3:Inv X pins Z H2 { s1 with heap:=s1.heap.push { cls:= .type "dict_items",data:= .fields #[.ref a] } }:=I2.kept (t':=s1.toks) λ b ob q=>Zf _ q
 refine ⟨_,[_],_,_,_,rfl,I3.kept (t':=s1.toks) λ b o e=>Zf _ e,rK _ a e3,⟨_,_,Zt _ rfl⟩,λ b hb=> ?_,q⟩;rw [Za.mp hb];exact I3.fpOk (Zk _) (I3.hok.fresh (Zk _))
end L2
end
section
namespace Nk
open PySem
variable {v:Value} {p:Addr×Value} {Q:Value->Shared->Prop}
theorem Bb {α β:Type} {f:α->β}: ∀ (l:List α) (i:Nat),(l.map f).eraseIdx i=(l.eraseIdx i).map f
 | [],_=>rfl
 | _::_,0=>rfl
 | x::l,i+1=>Yt (f x:: ·) (Bb l i)
section
variable {prog:Program} {w:World} {K:Type} [DecidableEq K] {knd:HeapKind prog w K} {A:Around} {E:Value->Shared->Prop} {s:Shared} {d a:Addr} {k:K} {xs:List (K×Addr×Value)}
theorem Bc (hu:knd.room A) (hkey:knd.is s.heap k a) (hm:s.heap.DictOfH knd d xs) (hsz:xs.length<=sizeLine)
  (old: ∀ (j:Nat) (p:Addr×Value),xs[j]? =some (k,p)->Q p.2 { s with toks:=s.toks+knd.draws k })
  (new:k∉xs.map (·.1)-> ∀h',h'.DictOfH knd d (xs++[(k,a,v)])->Heap.SameBut d s.heap h'->Q v { s with heap:=h',toks:=s.toks+knd.draws k }):wpAny (model prog w) A (dictSetDefault d (.ref a) v) Q E s:=by
 obtain ⟨o,es,ep,ho,hc,hd,he,his,hn⟩:=hm;unfold dictSetDefault;refine Xg (Qb (knd.pyHash hu hkey (Qb (wpAny_dictFind_heap (s:={ s with toks:=s.toks+knd.draws k }) hu hkey ho hd he his hn (λ hno=> ?_) λ j p hj=> ?_))))
 .have nk:k∉xs.map (·.1):=not_mem_keys_of_get hno;refine Qb (wpAny_rule (Qb (wpAny_updateDictKeys (hz:=by have e:=size_of_entries he;rfl') (s:={ s with toks:=s.toks+knd.draws k }) ho hd (Zc (new nk _ ⟨_,_,ep+1,Ww _ ho (Obj.isFreed_of_dict (Obj.data_mapDictKeys hd _)),hc.mapDictKeys _,Obj.data_mapDictKeys hd _,by simp [he,entryOfKey],λ x hx=> ?_,?_⟩ (Xn ..))))))
  .have all:knd.is s.heap x.1 x.2.1:=by
    rcases Zi.mp hx with hx | hx
    .exact his x hx
    .rw [Za.mp hx];exact hkey
   exact knd.keeps all ho hd (Xn ..)
  .rw [Zh,Xc];exact ⟨hn,by simp,λ x hx y hy e=>nk (by rw [Zl,Xq,Za] at hy;have q:x=k:=e.trans hy;rw [<- q];exact hx)⟩
 .refine Qb (Xy (s:={ s with toks:=s.toks+knd.draws k }) ho hd ?_);rw [entry_at he j,hj];exact Qb (wpAny_rule (Zc (old j p hj)))
theorem Bd {j:Nat} (hu:knd.room A.in1) (hkey:knd.is s.heap k a) (hm:s.heap.DictOfH knd d xs) (hj:xs[j]? =some (k,p)) (hsz:xs.length<=sizeLine)
  (h: ∀h',h'.DictOfH knd d (xs.eraseIdx j)->Heap.SameBut d s.heap h'->Q p.2 { s with heap:=h',toks:=s.toks+knd.draws k }):wpAny (model prog w) A (call (.builtin "dict.pop") [.ref d, .ref a]) Q E s:=by
 have T:=hm.typeIs;obtain ⟨o,es,ep,ho,hc,hd,he,his,hn⟩:=hm;refine Yv F.slot_dict_pop T F.entry_dict_pop ?_ (F.args_dict_pop_2 _ _);unfold Builtin.«dict.pop» Builtin.Dict.keyAndDefault;refine Qb (Qb (wpAny_notOrdered_dict T (show wpAny _ _ (pure (d,Value.ref a,none)) _ _ s from Zc ?_)));have e0:es.size=xs.length:=size_of_entries he;have hjl:j<xs.length:=(Zo.mp hj).1;have ne:es.isEmpty=false:=by rw [Array.isEmpty_eq_false_iff];intro z;rw [z] at e0;simp at e0;rfl'
 dsimp only;rw [show (keyPart (Value.ref a)).isSome=false from rfl];simp only [Yl,Xr];refine Qb (Xy ho hd (Qb (Zc ?_)));rw [ne];simp only [Yl,Xr];unfold Builtin.Dict.takeOut;refine Qb (Xg (Qb (knd.pyHash hu hkey (Qb (wpAny_dictFind_heap (s:={ s with toks:=s.toks+knd.draws k }) hu hkey ho hd he his hn (λ hno=>absurd hj (hno j p)) λ i q hi=> ?_)))));have eij:i=j/\q=p:=by
  have hil:i<xs.length:=(Zo.mp hi).1;have e1:(xs.map (·.1))[i]? =some k:=by rw [Zj,hi];rfl
  have e2:(xs.map (·.1))[j]? =some k:=by rw [Zj,hj];rfl
  have e3:i=j:=(List.getElem?_inj (by rw [Qr];exact hil) hn).mp (e1.trans e2.symm);subst e3;rw [hi] at hj
  cases hj;exact ⟨rfl,rfl⟩
 obtain ⟨rfl,rfl⟩:=eij;refine Qb (Xy (s:={ s with toks:=s.toks+knd.draws k }) ho hd ?_);rw [entry_at he i,hi];refine Qb (wpAny_updateDictKeys (hz:=by rfl') (s:={ s with toks:=s.toks+knd.draws k }) ho hd (Zc ?_));dsimp only;simp only [Option.isNone_some,Yl,Xr];refine Qb (wpAny_letGo (Zc ⟨_,rfl,h _ ⟨_,_,ep+1,Ww _ ho (Obj.isFreed_of_dict (Obj.data_mapDictKeys hd _)),hc.mapDictKeys _,Obj.data_mapDictKeys hd _,?_,λ x hx=>knd.keeps (his x (List.mem_of_mem_eraseIdx hx)) ho hd (Xn ..),?_⟩ (Xn ..)⟩))
 .rw [Array.eraseIdxIfInBounds,dif_pos (by rfl'),Array.toList_eraseIdx,he];exact Bb _ _
 .exact List.Nodup.sublist (List.Sublist.map _ (List.eraseIdx_sublist _ _)) hn
end
end Nk
namespace L2
open PySem PySem.Spec PyProof.Rows Nk
variable {k:List Key} {p:Addr×Value} {Q:Value->Shared->Prop} {kvs:List (List Key×V)} {xs:List (List Key×Addr×Value)}
theorem KT.drop {H:Hp} (r:KT H kvs xs): ∀ {j:Nat},(xs.map (·.1)).Nodup->xs[j]? =some (k,p)->KT H (cN kvs k) (xs.eraseIdx j):=by
 induction r with
 | nil=>intro j _ h;cases h
 | @cons p0 q0 ps qs h0 t ih=>
  intro j hn hj;rw [Zl,Wr] at hn;have keys: ∀ {l:List (List Key×V)} {m:List (List Key×Addr×Value)},KT H l m->m.map (·.1)=l.map (·.1):=λ r=>by
   induction r with
   | nil=>rfl
   | cons h _ ih=>rw [Zl,Zl,ih,h.1]
  cases j with
  | zero=>
   cases hj;have e1:p0.1=k:=h0.1;have e2:cN (p0::ps) k=ps:=by
    unfold cN;rw [List.filter_cons,if_neg (by simp [e1]),List.filter_eq_self];intro y my;have:y.1≠k:=λ z=>hn.1 (by rw [keys t];exact Zb.mpr ⟨y,my,z⟩)
    exact Yj this
   rw [e2];exact t
  | succ j=>
   have hj':qs[j]? =some (k,p):=hj;have ne:p0.1≠k:=λ z=>hn.1 (Zb.mpr ⟨(k,p),Ze hj',(h0.1.symm.trans z).symm⟩)
   have e2:cN (p0::ps) k=p0::cN ps k:=by
    unfold cN;rw [List.filter_cons,if_pos (Yj ne)]
   rw [e2];exact .cons h0 (ih hn.2 hj')
theorem KD (h:atKey xs k=some p): ∃j:Nat,xs[j]? =some (k,p):=by
 obtain ⟨⟨k',p'⟩,hf,rfl⟩:=Yp.mp h;obtain ⟨j,hj⟩:=Xv.mp (List.mem_of_find?_eq_some hf);have e:=List.find?_some hf;exact ⟨j,by rw [hj,show k'=k from Xx e]⟩
section
variable {X:Cx} {pins:List (Addr×Obj)} {Z:St} {H:Hp} {s:Shared} {a b:Addr} {kvs:List (List Key×V)} {k:List Key} {A:Around} {E:Value->Shared->Prop}
theorem KH {v:V} (hu:A.units+1<cLine) (I:Inv X pins Z H s) (e:H a=some (.dT kvs)) (eb:H b=some (.tup (k.map kV))) (l:bF kvs k=some v)
  (h: ∀w' s',Inv X pins Z (upd H a (.dT (cN kvs k))) s'->RelV v w'->Q w' s'):wpAny (model X.prog X.w) A (call (.builtin "dict.pop") [.ref a, .ref b]) Q E s:=by
 obtain ⟨z,hd,xs,rel,dd⟩:=mW I.hok e;obtain ⟨w',hw,rw'⟩:=RelO.some_of (v:=v) (o:=(atKey xs k).map (·.2)) (by rw [<- l];exact rel.val k);obtain ⟨p,hp,rfl⟩:=Yp.mp hw;obtain ⟨j,hj⟩:=KD hp;have hn:(xs.map (·.1)).Nodup:=by obtain ⟨_,_,_,_,_,_,_,_,hn⟩:=dd;exact hn
 refine Bd (tupleKind_room_in1 hu) (gG I.hok eb) dd hj (by rw [<- Wp rel];exact z) λ h' dd' hs=>h _ _ ?_ rw'
 obtain ⟨q,es,ep,hq,h2,h3,h4,_,h5⟩:=dd';refine fP I (by rw [e];exact True.intro) hs ⟨q,hq⟩ ⟨Nat.le_trans (zj kvs k) z,hd,_,(rel.drop hn hj).keeps λ c ys ec=> ?_,q,es,ep,hq,h2,h3,h4,h5⟩;rw [au (bx ec e (λ z=>nomatch z))];exact ec
theorem KJ {z:V} {r:Value} (hu:A.units+1<cLine) (I:Inv X pins Z H s) (e:H a=some (.dT kvs)) (eb:H b=some (.tup (k.map kV))) (hl:kvs.length<sizeLine) (rz:RelV z r)
  (h1: ∀v w' s',bF kvs k=some v->Inv X pins Z H s'->RelV v w'->Q w' s') (h2: ∀s',bF kvs k=none->Inv X pins Z (upd H a (.dT (kvs++[(k,z)]))) s'->Q r s'):wpAny (model X.prog X.w) A (call (.builtin "dict.setdefault") [.ref a, .ref b,r]) Q E s:=by
 obtain ⟨zz,hd,xs,rel,dd⟩:=mW I.hok e;have T:=dd.typeIs;refine Yv PySem.F.slot_dict_setdefault T PySem.F.entry_dict_setdefault ?_ (PySem.F.args_dict_setdefault_3 _ _ _);unfold Builtin.«dict.setdefault» Builtin.Dict.keyAndDefault;refine Qb (Qb (wpAny_notOrdered_dict T (show wpAny _ _ (pure (a,Value.ref b,some r)) _ _ s from Zc ?_)));dsimp only;rw [hd];simp only [Yl,Xr];have hn:(xs.map (·.1)).Nodup:=by obtain ⟨_,_,_,_,_,_,_,_,hn⟩:=id dd;exact hn
 refine Qb (Bc (A:=A.in1) (tupleKind_room_in1 hu) (gG I.hok eb) dd (by rw [<- Wp rel];exact zz) (λ j p hj=>Zc ⟨_,rfl,?_⟩) λ nk h' dd' hs=>Zc ⟨_,rfl,?_⟩)
 .have ha:atKey xs k=some p:=atKey_of_get hn hj;have:=rel.val k;rw [ha] at this
  cases hv:bF kvs k with
  | none=>rw [hv] at this;exact absurd this (λ z=>nomatch z)
  | some v=>rw [hv] at this;exact h1 v _ _ hv (I.tok _) this
 .have hv:bF kvs k=none:=by
   have ha:atKey xs k=none:=Sy.nJ nk;have:=rel.val k;rw [ha] at this
   cases hv:bF kvs k with
   | none=>rfl
   | some v=>rw [hv] at this;exact absurd this (λ z=>nomatch z)
  refine h2 _ hv ?_;obtain ⟨q,es,ep,hq,g2,g3,g4,_,g5⟩:=dd';have rel':KT H (kvs++[(k,z)]) (xs++[(k,b,r)]):=by
   have:=rel.put k (b:=b) eb rz;rw [show putK kvs k z=kvs++[(k,z)] from gF _ hv,storedH_new (Sy.nJ nk)] at this;exact this
  refine fP I (by rw [e];exact True.intro) hs ⟨q,hq⟩ ⟨by rw [Zg,Yn];rfl',hd,_,rel'.keeps λ c ys ec=> ?_,q,es,ep,hq,g2,g3,g4,g5⟩;rw [au (bx ec e (λ z=>nomatch z))];exact ec
end
def Be (td ty:TE):TE:=λ Z H Q=>td Z H λ x H1=> ∃a,x= .ref a/\JS H1 a/\ty Z H1 λ y H2=> ∃kvs k b v,H2 a=some (.dT kvs)/\y= .ref b/\H2 b=some (.tup (k.map kV))/\bF kvs k=some v/\Q v (upd H2 a (.dT (cN kvs k)))
def Bg (td ty tx:TE):TE:=λ Z H Q=>td Z H λ x H1=> ∃a,x= .ref a/\JS H1 a/\ty Z H1 λ y H2=>tx Z H2 λ z H3=> ∃kvs k b,H3 a=some (.dT kvs)/\y= .ref b/\H3 b=some (.tup (k.map kV))/\kvs.length<sizeLine/\
 (∀v,bF kvs k=some v->Q v H3)/\(bF kvs k=none->Q z (upd H3 a (.dT (kvs++[(k,z)]))))
section
variable {X:Cx} {o e f:Expr} {apos cpos:Pos} {td ty tx:TE}
theorem Gs (hu:X.A.units+1<cLine) (ho:PE X o td) (he:PE X e ty) (m:M1 X o "pop" apos e cpos):PE X (.Call (.Attribute o "pop" apos) [e] [] cpos) (Be td ty):=by
 intro pins s Z H Q I h;refine wpAny_Call_method m.base m.few m.line PySem.F.plainAttrs_dict PySem.F.slot_dict_pop PySem.F.type_dict_pop (bB (ho pins s Z H _ I h) λ u s1 ⟨x,H1,I1,rx,a,ex,d,q1⟩=> ?_);subst ex;obtain rfl:u=Value.ref a:=rx;obtain ⟨t1,t2,_⟩:=zu I1 d;refine ⟨t1,t2,?_⟩;rw [m.trees];refine Calls.callWith_builtin rfl (Calls.evalArgs_plain (Calls.spliced_cons (bB (he pins s1 Z H1 _ I1 q1) λ iv s2 ⟨y,H2,I2,ry,kvs,k,b,v,ea,ey,eb,l,q2⟩=>Calls.spliced_nil ?_)));subst ey
 cases (show iv=Value.ref b from ry);exact KH hu I2 ea eb l λ w' s3 I3 rw'=>⟨v,_,I3,rw',q2⟩
theorem Gu (hu:X.A.units+1<cLine) (ho:PE X o td) (he:PE X e ty) (hf:PE X f tx) (m:M2 X o "setdefault" apos e f cpos):PE X (.Call (.Attribute o "setdefault" apos) [e,f] [] cpos) (Bg td ty tx):=by
 intro pins s Z H Q I h;refine wpAny_Call_method m.base m.few m.line PySem.F.plainAttrs_dict PySem.F.slot_dict_setdefault PySem.F.type_dict_setdefault (bB (ho pins s Z H _ I h) λ u s1 ⟨x,H1,I1,rx,a,ex,d,q1⟩=> ?_);subst ex;obtain rfl:u=Value.ref a:=rx;obtain ⟨t1,t2,_⟩:=zu I1 d;refine ⟨t1,t2,?_⟩;rw [m.trees];refine Calls.callWith_builtin rfl (Calls.evalArgs_plain (Calls.spliced_cons (bB (he pins s1 Z H1 _ I1 q1) λ iv s2 ⟨y,H2,I2,ry,q2⟩=>
  Calls.spliced_cons (bB (hf pins s2 Z H2 _ I2 q2) λ fv s3 ⟨z,H3,I3,rz,kvs,k,b,ea,ey,eb,hl,q3,q4⟩=>Calls.spliced_nil ?_))))
 subst ey
 cases (show iv=Value.ref b from ry);exact KJ hu I3 ea eb hl rz (λ v w' s4 l I4 rw'=>⟨v,H3,I4,rw',q3 v l⟩) λ s4 l I4=>⟨z,_,I4,rz,q4 l⟩
end
end L2
end
section
namespace Nk
open PySem
variable {x:Value} {E Q:Value->Shared->Prop}
section
variable {prog:Program} {w:World} {A:Around} {R:Result->Shared->Prop} {I S:Addr} {fp wr:List Addr} {n:Nat} {P:Nat->Value->Prop} {St:Nat->Heap->Prop} {bt:Nat->Nat->Bool}
def Iv (prog:Program) (w:World) (A:Around) (P:Nat->Value->Prop) (St:Nat->Heap->Prop) (bt:Nat->Nat->Bool):Prop:=
 ∀m i j x y (s:Shared) (Q:Value->Shared->Prop) (E:Value->Shared->Prop),St m s.heap->P i x->P j y->Q (.bool (bt i j)) s->wpAny (model prog w) A (richCompare .Lt x y) Q E s
theorem jU:(toString "min"++toString ".loop":String)="min.loop":=by decide
theorem Gv (W:Walks prog w A.in1 I fp wr n P St) (cmp:Iv prog w A.in1 P St bt) (hSf:S∉fp): ∀ (k j:Nat) (s:Shared) (x:Value) (c:Nat),n=j+1+k->St (j+1) s.heap->P (argBest bt j) x->
  s.heap.get? S=some { cls:= .type "list",dict:=none,data:= .seq #[x,x] c,slots:= #[] }->
  (∀v h' tk,P (argBest bt (n-1)) v->(∀b o,b∉wr->b≠S->s.heap.get? b=some o->h'.get? b=some o)->R (.ok (.ret v)) { s with heap:=h',toks:=tk })->
  codeAny (model prog w) A (.builtin "min.loop" ⟨[.ref I, .none, .ref S],[]⟩) R s:=by
 have hSw:S∉wr:=λ h=>hSf (W.sub _ h)
 intro k;induction k with
 | zero=>
  intro j s x c hk st hx eS hR;have ej:j+1=n:=hk.symm;refine codeAny_builtin F.entry_min_loop ?_;rw [Around.under_plainId F.plain_min_loop _];refine Qb (Xs eS rfl (Qb (wpAny_tryCatch (W.done s _ _ (ej▸st) λ h' tk kk=> ?_))));have eS':=kk S _ hSw eS;refine Qb (wpAny_updateSeq eS' rfl (Qb (wpAny_letGo (Zc (hR x _ tk (by rw [<- ej];exact hx) λ b o hb hbS e=> ?_)))));rw [Heap.get?_update_other _ _ (Ne.symm hbS)];exact kk b o hb e
 | succ k ih=>
  intro j s x c hk st hx eS hR;refine codeAny_builtin F.entry_min_loop ?_;rw [Around.under_plainId F.plain_min_loop _];refine Qb (Xs eS rfl (Qb (wpAny_tryCatch (W.item (j+1) s _ _ (by rfl') st λ y h' tk hy st' kk=> ?_))));have eS':=kk S _ hSw eS;have off: ∀ {f:Obj->Obj} {b:Addr} {o:Obj},b≠S->h'.get? b=some o->(h'.update S f).get? b=some o:=λ hb e=>by rw [Heap.get?_update_other _ _ (Ne.symm hb)];exact e
  show wpAny _ A.in1 (tryCatch (holding [y,y] (richCompare .Lt y x >>= _)) _ >>= _) _ _ _;refine Qb (wpAny_tryCatch (Xg (Qb (cmp _ (j+1) (argBest bt j) y x _ _ _ st' hy hx (Qb (Xg (wpAny_truthy_bool (Qb (wpAny_letGo (Zc ?_))))))))))
  cases hb:bt (j+1) (argBest bt j) with
  | true=>
   simp only [if_true];refine Qb (wpAny_updateSeq eS' rfl (Qb (wpAny_letGo ?_)));rw [jU];refine Zc ⟨plainId_quiet F.plain_min_loop _,ih (j+1) _ y _ (by rfl') (W.frame _ _ _ st' λ b hbf o e=>off (λ z=>hSf (z▸hbf)) e) (by rw [argBest,if_pos hb];exact hy) (Ww _ eS' rfl) λ v h2 tk2 hv k2=>hR v h2 tk2 hv λ b o hbw hbS e=>k2 b o hbw hbS (off hbS (kk b o hbw e))⟩
  | false=>
   simp only [Yl,Xr];refine Qb (wpAny_letGo ?_);rw [jU];exact Zc ⟨plainId_quiet F.plain_min_loop _,ih (j+1) _ x c (by rfl') st' (by rw [argBest,if_neg (by rw [hb];decide)];exact hx) eS' λ v h2 tk2 hv k2=>hR v h2 tk2 hv λ b o hbw hbS e=>k2 b o hbw hbS (kk b o hbw e)⟩
theorem Bh {s:Shared}
  (h:wpAny (model prog w) A.in1 (pyIter x) (λ it s₂=> ∃I fp wr n P St bt,it= .ref I/\Walks prog w A.in1 I fp wr n P St/\St 0 s₂.heap/\(∀b∈fp,b<s₂.heap.objs.size)/\0<n/\Iv prog w A.in1 P St bt/\
   ∀v h' tk,P (argBest bt (n-1)) v->(∀b o,b∉wr->s₂.heap.get? b=some o->h'.get? b=some o)->Q v { s₂ with heap:=h',toks:=tk }) E s):
  wpAny (model prog w) A (call (.builtin "min") [x]) Q E s:=by
 refine call_function_tree F.kind_min F.plain_min F.entry_min (F.args_min1 _) ?_;show wpAny _ A.in1 (Builtin.Builtins.bindParams "min" ["key","default"] 0 ⟨[],[]⟩ >>= _) _ _ s;refine Qb (wpAny_of_eq (a:=[none,none]) rfl (Qb (Zc (Qb (Wv h (λ it s₂ h₂=> ?_) λ _ _ e=>e)))));obtain ⟨I,fp,wr,n,P,St,bt,rfl,W,st,hfp,hn,cmp,hQ⟩:=h₂;refine Qb (Xe ?_);have hSf:s₂.heap.objs.size∉fp:=λ hm=>Xj _ (hfp _ hm)
 have hSw:s₂.heap.objs.size∉wr:=λ h=>hSf (W.sub _ h)
 rw [jU];refine Zc ⟨plainId_quiet F.plain_min_loop _,codeAny_builtin F.entry_min_loop ?_⟩;rw [Around.under_plainId F.plain_min_loop _];have e0:(s₂.heap.push { cls:= .type "list",data:= .seq #[] }).get? s₂.heap.objs.size=some { cls:= .type "list",dict:=none,data:= .seq #[] 0,slots:= #[] }:=Zt _ rfl;refine Qb (Xs e0 rfl (Qb (wpAny_tryCatch (W.item 0 _ _ _ hn (W.frame _ _ _ st λ b _ o e=>Zf _ e) λ y h' tk hy st' kk=> ?_))));have eS':=kk s₂.heap.objs.size _ hSw e0;have off: ∀ {f:Obj->Obj} {b:Addr} {o:Obj},b≠s₂.heap.objs.size->h'.get? b=some o->(h'.update s₂.heap.objs.size f).get? b=some o:=λ hb e=>by rw [Heap.get?_update_other _ _ (Ne.symm hb)];exact e
 show wpAny _ A.in1 (updateSeq s₂.heap.objs.size (λ _=> #[y,y]) >>= _) _ _ _;refine Qb (wpAny_updateSeq eS' rfl ?_);rw [jU];refine Zc ⟨plainId_quiet F.plain_min_loop _,Gv W cmp hSf (n-1) 0 _ y _ (by rfl') (W.frame _ _ _ st' λ b hbf o e=>off (λ z=>hSf (z▸hbf)) e) hy (Ww _ eS' rfl) λ v h2 tk2 hv k2=>hQ v h2 tk2 hv λ b o hbw e=> ?_⟩;have hbS:b≠s₂.heap.objs.size:=Yo (Zp e);exact k2 b o hbw hbS (off hbS (kk b o hbw (Zf _ e)))
end
end Nk
namespace L2
open PySem PySem.Spec PyProof.Rows Nk
theorem rM (f:Nat->List Int): ∀k,argBest (λ i j=>HT.lexLt (f i) (f j)) k<=k/\ ∀j,j<=k->HT.lexLt (f j) (f (argBest (λ i j=>HT.lexLt (f i) (f j)) k))=false
 | 0=>⟨Nat.le_refl _,λ j hj=>by rw [Nat.le_zero.mp hj];exact pC _⟩
 | k+1=>by
  obtain ⟨h1,h2⟩:=rM f k;rw [argBest];split
  .rename_i hb;refine ⟨Nat.le_refl _,λ j hj=> ?_⟩;rcases Nat.lt_or_eq_of_le hj with hj | rfl
   .exact Ay (rE hb) (h2 j (by rfl'))
   .exact pC _
  .rename_i hb;refine ⟨by rfl',λ j hj=> ?_⟩;rcases Nat.lt_or_eq_of_le hj with hj | rfl
   .exact h2 j (by rfl')
   .exact Bool.eq_false_iff.mpr hb
def Bj:List V->Hp->VK->Prop:=λ vs H Q=> ∃ (a:Addr) (kvs:List (List Int×V)),vs=[.ref a]/\H a=some (.dT (kvs.map λ p=>(p.1.map Sum.inl,p.2)))/\kvs≠[]/\
 ∀b k,H b=some (.tup (k.map V.int))->k∈kvs.map (·.1)->(∀k'∈kvs.map (·.1),HT.lexLt k' k=false)->Q (.ref b) H
theorem yd {X:Cx} (hc:X.calm=true) (hu:X.A.units+1<cLine):bH X (.builtin "min") Bj:=by
 intro pins s Z H vs us Q I rv h;obtain ⟨a,kvs,rfl,ea,hne,q⟩:=h;obtain ⟨u,rfl,ru⟩:=rv.one
 cases (show u=Value.ref a from ru);obtain ⟨z,hd,xs,rel,dd⟩:=mW I.hok ea;obtain ⟨o,es,ep,ho,hex,hdd,he,_,hn⟩:=dd;have hlen:kvs.length=xs.length:=by have:=Wp rel;rw [Qr] at this;exact this
 have hes:es.size=kvs.length:=by rw [<- Xm,he,Qr,hlen]
 have hpos:0<kvs.length:=List.length_pos_iff.mpr hne;have at_: ∀ {i:Nat} {x},xs[i]? =some x-> ∃p,kvs[i]? =some p/\H x.2.1=some (.tup (p.1.map V.int)):=λ {i x} hx=>by
  have hi:i<kvs.length:=by rw [hlen];exact (Zo.mp hx).1
  obtain ⟨p,y,h1,h2,h3,h4,_⟩:=fC i rel (by rw [Qr];exact hi);rw [hx] at h2
  cases h2;rw [Zj] at h1;obtain ⟨p',e1,rfl⟩:=Yp.mp h1;refine ⟨p',e1,?_⟩;rw [h4,Zq];rfl
 have tup: ∀ {i:Nat} {x p},xs[i]? =some x->kvs[i]? =some p-> ∃its:List Value,IsTup s.heap x.2.1 its.toArray/\IntsAre its p.1:=λ {i x p} hx hp=>by
  obtain ⟨p',e1,e2⟩:=at_ hx;rw [hp] at e1
  cases e1;obtain ⟨its,r,ht,_⟩:=I.tuple (SqT.of (K:=X.K) e2);exact ⟨its,ht,j9 r⟩
 obtain ⟨kk,ekk⟩: ∃kk:Nat->List Int,∀ {i p},kvs[i]? =some p->kk i=p.1:=⟨λ i=>((kvs[i]?).map λ p=>p.1).getD [],λ {i p} hp=>by dsimp only;rw [hp];rfl⟩;refine Bh (j5 hd ⟨o,ho,hex.1⟩ ho hdd ⟨s.heap.objs.size,s.heap.objs.size::a::xs.map (·.2.1),[s.heap.objs.size],kvs.length,(λ i v=> ∃x,xs[i]? =some x/\v= .ref x.2.1),
  (λ i h=>h.IsKeyIter s.heap.objs.size a i es.size ep/\h.get? a=some o/\ ∀x∈xs,∀ob,s.heap.get? x.2.1=some ob->h.get? x.2.1=some ob),(λ i j=>HT.lexLt (kk i) (kk j)),rfl,?W,⟨⟨_,Zt _ rfl,rfl,rfl⟩,Zf _ ho,λ x _ ob e=>Zf _ e⟩,?lt,hpos,?cmp,λ v h' tk hv kp=> ?fin⟩)
 case lt=>
  intro b hb;rw [show (s.heap.push { cls:= .type "dict_keyiterator",data:= .fields #[.ref a, .int 0 0, .int es.size 0, .int ep 0] }).objs.size=s.heap.objs.size+1 from Heap.size_push ..];rcases Zm.mp hb with rfl | hb
  .exact Nat.lt_succ_self _
  rcases Zm.mp hb with rfl | hb
  .exact Nat.lt_succ_of_lt (Zp ho)
  obtain ⟨x,mx,rfl⟩:=Zb.mp hb;obtain ⟨i,hi⟩:=Xv.mp mx;obtain ⟨p,hp,_⟩:=at_ hi;obtain ⟨its,⟨ob,e1,_⟩,_⟩:=tup hi hp;exact Nat.lt_succ_of_lt (Zp e1)
 case cmp=>
  rintro m i j x y s' Q' E' ⟨_,_,hk⟩ ⟨x',hx,rfl⟩ ⟨y',hy,rfl⟩ hQ;obtain ⟨p1,hp1,_⟩:=at_ hx;obtain ⟨p2,hp2,_⟩:=at_ hy;obtain ⟨i1,⟨o1,g1,r1⟩,n1⟩:=tup hx hp1;obtain ⟨i2,⟨o2,g2,r2⟩,n2⟩:=tup hy hp2;dsimp only at hQ;rw [ekk hp1,ekk hp2] at hQ;exact HT.tD (A:=X.A.in1) ⟨o1,hk x' (Ze hx) _ g1,r1⟩ ⟨o2,hk y' (Ze hy) _ g2,r2⟩ n1 n2 (by show X.A.units+1<cLine;exact hu) hQ
 case W=>
  have na:a≠s.heap.objs.size:=Yo (Zp ho);have nx: ∀x∈xs,x.2.1≠s.heap.objs.size:=λ x mx=>by
   obtain ⟨i,hi⟩:=Xv.mp mx;obtain ⟨p,hp,_⟩:=at_ hi;obtain ⟨its,⟨ob,e1,_⟩,_⟩:=tup hi hp;exact Yo (Zp e1)
  refine ⟨λ b hb=>by rw [Za.mp hb];exact Zs,λ i h h' st k=>⟨st.1.at λ ob e=>k _ Zs ob e,k a (Zv _ Zs) _ st.2.1,λ x mx ob e=>k _ (Zv _ (Zv _ (Zb.mpr ⟨x,mx,rfl⟩))) _ (st.2.2 x mx ob e)⟩,λ i s' Q' E' hi st hQ=> ?_,λ s' Q' E' st hQ=> ?_,λ i s' Q' E' st hq=>wpAny_pyIter_keyiter st.1 hq⟩
  .refine lq st.1 st.2.1 hdd (by rfl') λ h' a1 a2=>hQ _ h' s'.toks ?_ ⟨a1,(a2.2 a na).trans st.2.1,λ x mx ob e=>(a2.2 _ (nx x mx)).trans (st.2.2 x mx ob e)⟩ λ b ob hb e=>(a2.2 b λ z=>hb (by rw [z];simp)).trans e
   have hx:xs[i]? =some (xs[i]'(by rfl')):=Zd (by rfl');refine ⟨_,hx,?_⟩;have:es.toList[i]? =some (entryOfKey (tupleKind (bD X.prog X.w)) (xs[i]'(by rfl'))):=by rw [he,Zj,hx];rfl
   rw [Xf,Wt (by rfl')] at this;rw [Ym this];rfl
  .exact oX (I.ok.hd hc) st.1 st.2.1 hdd (by rfl') λ h' eb=>hQ h' s'.toks λ b ob hb e=>eb b ob (λ z=>hb (by rw [z];simp)) e
 case fin=>
  obtain ⟨x,hx,rfl⟩:=hv;obtain ⟨p,hp,e2⟩:=at_ hx;obtain ⟨b1,b2⟩:=rM kk (kvs.length-1);refine ⟨.ref x.2.1,H,I.kept (t':=tk) λ b ob e=>kp b ob (λ z=> ?_) (Zf _ e),rfl,q _ _ e2 (Zb.mpr ⟨p,Ze hp,rfl⟩) λ k' mk=> ?_⟩
  .exact absurd (Za.mp z) (Yo (Zp e))
  .obtain ⟨p',mp,rfl⟩:=Zb.mp mk;obtain ⟨j,hj⟩:=Xv.mp mp;have hjl:=(Zo.mp hj).1;have:=b2 j (by rfl');rw [ekk hj,ekk hp] at this;exact this
end L2
end
section
namespace Nk
open PySem PySem.Spec PyProof PyProof.Rows
variable {A:Around} {E:Value->Shared->Prop}
mutual
def pI:PyData->PyData->Bool
 | .int a, .int b=>decide (a<b)
 | .str x, .str y=>decide (x.cps.toList<y.cps.toList)
 | .tuple xs, .tuple ys=>pJ xs ys
 | _,_=>false
def pJ:List PyData->List PyData->Bool
 | [],[]=>false
 | [],_::_=>true
 | _::_,[]=>false
 | x::xs,y::ys=>if PyData.eqv x y=true then pJ xs ys else pI x y
end
mutual
inductive CmpD:PyData->PyData->Prop where
 | int (a b:Int):CmpD (.int a) (.int b)
 | str (x y:Str):CmpD (.str x) (.str y)
 | tup {xs ys:List PyData}:CmpDs xs ys->CmpD (.tuple xs) (.tuple ys)
inductive CmpDs:List PyData->List PyData->Prop where
 | nil {ys:List PyData}:CmpDs [] ys
 | over {xs:List PyData}:CmpDs xs []
 | cons {x y:PyData} {xs ys:List PyData}:CmpD x y->CmpDs xs ys->CmpDs (x::xs) (y::ys)
end
section
variable {prog:Program} {w:World} {s:Shared}
theorem ul {h:Heap}: ∀ {vs:List Value} {ds:List PyData} {as:List Addr},ReadsAll h vs ds as->vs.length=ds.length
 | _,_,_, .nil=>rfl
 | _,_,_, .cons _ r=>Yt (· +1) (ul r)
theorem KN {m:Nat} {β:Type} {f:Value×Value->β->Sem (ForInStep β)} {i:β} {g:Bool->β}
  (hf: ∀x y d e as bs (Q:ForInStep β->Shared->Prop),d.depth<=m->Reads s.heap x d as->Reads s.heap y e bs->CmpD d e->PyData.canLay0 d=true->PyData.canLay0 e=true->(if PyData.eqv d e=true then Q (.yield i) s else Q (.done (g (pI d e))) s)->wpAny (model prog w) A (f (x,y) i) Q E s):
  ∀ (xs ys:List Value) (ds es:List PyData) (as bs:List Addr) (Q:β->Shared->Prop),PyData.depthAll ds<=m->ReadsAll s.heap xs ds as->ReadsAll s.heap ys es bs->CmpDs ds es->PyData.canLayAll0 ds=true->PyData.canLayAll0 es=true->
   (pJ ds es=decide (ds.length<es.length)->Q i s)->Q (g (pJ ds es)) s->wpAny (model prog w) A (forIn (xs.zip ys) i f) Q E s:=by
 intro xs;induction xs with
 | nil=>
  intro ys ds es as bs Q hm ra rb c l1 l2 h1 h2
  cases ra;rw [List.zip_nil_left,List.forIn_nil];refine Zc (h1 ?_)
  cases es<;>simp [pJ]
 | cons x xs ih=>
  intro ys ds es as bs Q hm ra rb c l1 l2 h1 h2
  cases ra with
  | cons r1 r2=>
   cases rb with
   | nil=>
    rw [List.zip_nil_right,List.forIn_nil];exact Zc (h1 (by simp [pJ]))
   | cons k1 k2=>
    cases c with
    | cons c1 c2=>
     simp only [PyData.canLayAll0,Xo] at l1 l2;simp only [PyData.depthAll] at hm;rw [List.zip_cons_cons,Xd];refine Qb (hf _ _ _ _ _ _ _ (by rfl') r1 k1 c1 l1.1 l2.1 ?_);rw [pJ] at h1 h2;split
     .rename_i e;rw [if_pos e] at h1 h2;exact ih _ _ _ _ _ Q (by rfl') r2 k2 c2 l1.2 l2.2 (λ z=>h1 (by rw [z];exact decide_eq_decide.mpr (by simp))) h2
     .rename_i e;rw [if_neg e] at h2;exact Zc h2
theorem Gw: ∀ (n:Nat) (d e:PyData) (A:Around) (a b:Value) (as bs:List Addr) (Q:Value->Shared->Prop) (E:Value->Shared->Prop),d.depth<=n->CmpD d e->Reads s.heap a d as->Reads s.heap b e bs->PyData.canLay0 d=true->PyData.canLay0 e=true->A.units+n+1<cLine->Q (.bool (pI d e)) s->wpAny (model prog w) A (richCompare .Lt a b) Q E s:=by
 intro n;induction n with
 | zero=>
  intro d e A a b as bs Q E hn c ra rb l1 l2 hu hQ
  cases c with
  | int i j=>
   cases ra;cases rb;rw [pI] at hQ;exact wpAny_lt_int (A:=A) (Q:=Q) hQ
  | str x y=>
   cases ra;cases rb;rw [pI] at hQ;exact lt_str (A:=A) (Q:=Q) hQ
  | tup c=>simp [PyData.depth] at hn
 | succ n ih=>
  intro d e A a b as bs Q E hn c ra rb l1 l2 hu hQ
  cases c with
  | int i j=>
   cases ra;cases rb;rw [pI] at hQ;exact wpAny_lt_int (A:=A) (Q:=Q) hQ
  | str x y=>
   cases ra;cases rb;rw [pI] at hQ;exact lt_str (A:=A) (Q:=Q) hQ
  | tup c=>
   cases ra with
   | tuple e1 c1 d1 r1=>
    cases rb with
    | tuple e2 c2 d2 r2=>
     rw [pI] at hQ;simp only [PyData.depth] at hn;simp only [PyData.canLay0] at l1 l2;refine wpAny_richCompare_same_room (op:= .Lt) ⟨_,e1,c1⟩ ⟨_,e2,c2⟩ PySem.F.slot_tuple_lt
      (Yv PySem.F.slot_tuple_lt ⟨_,e1,c1⟩ PySem.F.entry_tuple_lt ?_ (PySem.F.args_tuple_lt_2 _ _)) (by rfl')
     show wpAny _ _ (isInstance (.ref _) (.type "tuple") >>= _) _ _ s;refine Qb (wpAny_isInstance ⟨_,e2,c2⟩ isSubtype_tuple_tuple ?_);simp only [Bool.not_true,Yl,Xr];refine Qb (wpAny_tupleItemsOf e1 d1 ?_);refine Qb (wpAny_tupleItemsOf e2 d2 ?_);refine Qb ?_;refine KN (m:=n) (g:=λ b=>⟨some (.done (.ret (.bool b))),⟨⟩⟩) ?_ _ _ _ _ _ _ _ (by rfl') r1 r2 c l1 l2 ?_ ?_
     .intro x y d e as bs Q' hd rx ry cd lx ly hq;refine Qb (SeqAt.eqBoolOverData _ _ _ _ _ _ _ _ _ _ _ _ rx ry lx ly (by show A.units+1+_<cLine;rfl') ?_);split at hq
      .rename_i ev;rw [ev];simp only [Bool.not_true,Yl,Xr];exact Zc hq
      .rename_i ev;rw [Bool.eq_false_iff.mpr ev];simp only [Bool.not_false,if_true];refine Qb (wpAny_rule (Qb ?_));refine ih _ _ _ _ _ _ _ _ _ hd cd rx ry lx ly (by show A.units+1+n+1<cLine;rfl') ?_;exact Qb (Zc (Zc hq))
     .intro z;rw [z] at hQ;rw [<- ul r1,<- ul r2] at hQ;exact Zc ⟨_,rfl,(λ e=>nomatch e),hQ⟩
     .exact Zc ⟨_,rfl,(λ e=>nomatch e),hQ⟩
end
end Nk
namespace L2
open PySem PySem.Spec PyProof PyProof.Rows Nk
def pK (K:W.Frag):List V->Hp->VK->Prop:=λ xs H Q=> ∃ (a:Addr) (us:List (V×PyData)) (f:PyData->Int),xs=[.ref a]/\SqL K H a (us.map (·.1))/\us≠[]/\
 (∀u∈us,Dp K H u.1 u.2/\u.2.canLay0=true/\u.2.depth<=8)/\(∀u∈us,∀v∈us,CmpD u.2 v.2/\(pI u.2 v.2=true->f u.2<=f v.2)/\(pI u.2 v.2=false->f v.2<=f u.2))/\
 ∀u∈us,(∀v∈us,f u.2<=f v.2)->Q u.1 H
theorem rN {bt:Nat->Nat->Bool} {f:Nat->Int} {n:Nat} (h: ∀i j,i<n->j<n->(bt i j=true->f i<=f j)/\(bt i j=false->f j<=f i)): ∀k,k<n->argBest bt k<=k/\ ∀j,j<=k->f (argBest bt k)<=f j
 | 0,_=>⟨Nat.le_refl _,λ j hj=>by rw [Nat.le_zero.mp hj];exact Int.le_refl _⟩
 | k+1,hk=>by
  obtain ⟨h1,h2⟩:=rN h k (by rfl');obtain ⟨g1,g2⟩:=h (k+1) (argBest bt k) hk (by rfl');rw [argBest];split
  .rename_i hb;refine ⟨Nat.le_refl _,λ j hj=> ?_⟩;rcases Nat.lt_or_eq_of_le hj with hj | rfl
   .exact Int.le_trans (g1 hb) (h2 j (by rfl'))
   .exact Int.le_refl _
  .rename_i hb;refine ⟨by rfl',λ j hj=> ?_⟩;rcases Nat.lt_or_eq_of_le hj with hj | rfl
   .exact h2 j (by rfl')
   .exact g2 (Bool.eq_false_iff.mpr hb)
theorem uo {X:Cx} (hc:X.calm=true) (hu:X.A.units+12<cLine):bH X (.builtin "min") (pK X.K):=by
 intro pins s Z H xs us' Q I rv h;obtain ⟨a,us,f,rfl,hx,hne,hd,hcmp,q⟩:=h;obtain ⟨u,rfl,ru⟩:=rv.one
 cases (show u=Value.ref a from ru);obtain ⟨its,r,ht,hz⟩:=I.list hx;have hlen:us.length=its.length:=by have:=r.length;rw [Qr] at this;exact this
 have hpos:0<us.length:=List.length_pos_iff.mpr hne;have at_: ∀ {i:Nat} {v:Value},its[i]? =some v-> ∃u∈us,us[i]? =some u/\RelV u.1 v/\ ∃as,Reads s.heap v u.2 as:=λ {i v} hv=>by
  have hi:i<us.length:=by rw [hlen];exact (Zo.mp hv).1
  obtain ⟨u,hu'⟩: ∃u,us[i]? =some u:=⟨_,Zd hi⟩;have hm:=Ze hu';obtain ⟨v',e',rel⟩:=r.get (i:=i) (x:=u.1) (by rw [Zj,hu'];rfl);rw [hv] at e'
  cases e';exact ⟨u,hm,hu',rel,(hd u hm).1.reads I rel⟩
 obtain ⟨kk,ekk⟩: ∃kk:Nat->PyData,∀ {i u},us[i]? =some u->kk i=u.2:=⟨λ i=>((us[i]?).map λ p=>p.2).getD .none,λ {i u} hp=>by dsimp only;rw [hp];rfl⟩;have hlt:a<s.heap.objs.size:=by obtain ⟨_,e,_⟩:=ht.isList;exact Zp e
 have hna:a≠s.heap.objs.size:=Yo hlt;have hsz:its.toArray.size=its.length:=Zu;have W:=Walks.list (prog:=X.prog) (w:=X.w) (A:=X.A.in1) (I.ok.hd hc) s.heap.objs.size a hna its.toArray;refine Bh (wpAny_pyIter_list ht.isList ⟨s.heap.objs.size,List.range (s.heap.objs.size+1),[s.heap.objs.size],its.length,(λ i v=>its[i]? =some v),(λ i h=>(h.IsListIter s.heap.objs.size a i/\h.IsList a its.toArray)/\ ∀b o,s.heap.get? b=some o->h.get? b=some o),(λ i j=>pI (kk i) (kk j)),rfl,?W,⟨⟨⟨_,Zt _ rfl,rfl,rfl⟩,ht.isList.push _⟩,λ b o e=>Zf _ e⟩,?lt,by rfl',?cmp,?fin⟩)
 case lt=>
  intro b hb;rw [show (s.heap.push { cls:= .type "list_iterator",data:= .fields #[.ref a, .int 0 0] }).objs.size=s.heap.objs.size+1 from Heap.size_push ..];exact Yw.mp hb
 case cmp=>
  rintro m i j x y s' Q' E' ⟨_,hk⟩ hx hy hQ;obtain ⟨u,mu,hu1,_,as,ra⟩:=at_ hx;obtain ⟨v,mv,hv1,_,bs,rb⟩:=at_ hy;dsimp only at hQ;rw [ekk hu1,ekk hv1] at hQ;exact Gw 8 u.2 v.2 _ x y as bs _ _ (hd u mu).2.2 (hcmp u mu v mv).1 (Reads.keeps hk ra) (Reads.keeps hk rb) (hd u mu).2.1 (hd v mv).2.1 (by show X.A.units+1+8+1<cLine;rfl') hQ
 case W=>
  have new: ∀ {h h':Heap},(∀b o,s.heap.get? b=some o->h.get? b=some o)->(∀b o,b∉[s.heap.objs.size]->h.get? b=some o->h'.get? b=some o)-> ∀b o,s.heap.get? b=some o->h'.get? b=some o:=λ h1 h2 b o e=>h2 b o (λ z=>by
   rw [Za.mp z] at e;exact Xj _ (Zp e)) (h1 b o e)
  refine ⟨λ b hb=>by rw [Za.mp hb];exact Yw.mpr (Nat.lt_succ_self _),λ i h h' st k=>⟨W.frame i h h' st.1 λ b hb o e=>k b (Yw.mpr ?_) o e,λ b o e=>k b (Yw.mpr (Nat.lt_succ_of_lt (Zp e))) o (st.2 b o e)⟩,λ i s' Q' E' hi st hQ=>W.item i s' Q' E' (by rw [hsz];exact hi) st.1 λ v h' tk hv st' k=>hQ v h' tk (by rw [<- Wx];exact hv) ⟨st',new st.2 k⟩ k,λ s' Q' E' st hQ=>W.done s' Q' E' (by rw [hsz];exact st.1) hQ,λ i s' Q' E' st hQ=>W.self i s' Q' E' st.1 hQ⟩;rcases Zm.mp hb with rfl | hb
  .exact Nat.lt_succ_self _
  .rw [Za.mp hb];exact Nat.lt_succ_of_lt hlt
 case fin=>
  intro v h' tk hv kp;obtain ⟨u,mu,hu1,rel,_⟩:=at_ hv;obtain ⟨b1,b2⟩:=rN (bt:=λ i j=>pI (kk i) (kk j)) (f:=λ i=>f (kk i)) (n:=its.length) (λ i j hi hj=>by
   obtain ⟨x,mx,hx1,_⟩:=at_ (Zd hi);obtain ⟨y,my,hy1,_⟩:=at_ (Zd hj);rw [ekk hx1,ekk hy1];exact (hcmp x mx y my).2) (its.length-1) (by rfl')
  refine ⟨u.1,H,I.kept (t':=tk) λ b ob e=>kp b ob (λ z=> ?_) (Zf _ e),rel,q u mu λ x mx=> ?_⟩
  .rw [Za.mp z] at e;exact Xj _ (Zp e)
  .obtain ⟨j,hj⟩:=Xv.mp mx;have hjl:=(Zo.mp hj).1;have:=b2 j (by rfl');rw [ekk hj,ekk hu1] at this;exact this
theorem rO {X:Cx} (K:W.Frag) (hK:X.K=K) (hc:X.calm=true) (hu:X.A.units+12<cLine):bH X (.builtin "min") (pK K):=hK▸uo hc hu
end L2
end
section
namespace L2
open PySem PySem.Spec PyProof.Rows Nk
variable {c v:Value} {Q:Value->Shared->Prop}
section
variable {X:Cx} {pins:List (Addr×Obj)} {Z:St} {H:Hp} {s:Shared} {a:Addr} {y:V} {u:Value} {o:Option V} {A:Around} {E:Value->Shared->Prop}
theorem Gx (hu:A.units+2<cLine) (I:Inv X pins Z H s) (g:SGet H a y o) (ry:RelV y u) (h: ∀w' s',Inv X pins Z H s'->RelV (o.getD .non) w'->Q w' s'):wpAny (model X.prog X.w) A (call (.builtin "dict.get") [.ref a,u]) Q E s:=by
 obtain ⟨kvs,k,b,e,hk,ey,eb,l⟩:=g;subst ey
 cases (show u=Value.ref b from ry);obtain ⟨z,hd,xs,rel,dd⟩:=nG I.hok e hk;refine call_meetsIn PySem.F.slot_dict_get dd.typeIs PySem.F.entry_dict_get (PySem.F.args_dict_get_2 _ _) (meetsH_dict_get (gK X.prog X.w) a b hd) ⟨(show A.units+1+1<cLine by rfl'),k,xs,nF I.hok eb,dd,h _ _ (I.tok _) ?_⟩;rw [l];exact (rel.val k).getD rfl
end
def ur (td ty:TE):TE:=λ Z H Q=>td Z H λ x H1=> ∃a kvs,x= .ref a/\Rd H1 a (bA a kvs)/\ty Z H1 λ y H2=> ∃o,SGet H2 a y o/\Q (o.getD .non) H2
theorem Bk {X:Cx} {o e:Expr} {apos cpos:Pos} {td ty:TE} (hu:X.A.units+2<cLine) (ho:PE X o td) (he:PE X e ty) (m:M1 X o "get" apos e cpos):PE X (.Call (.Attribute o "get" apos) [e] [] cpos) (ur td ty):=by
 intro pins s Z H Q I h;refine wpAny_Call_method m.base m.few m.line PySem.F.plainAttrs_dict PySem.F.slot_dict_get PySem.F.type_dict_get (bB (ho pins s Z H _ I h) λ u s1 ⟨x,H1,I1,rx,a,kvs,ex,d,q1⟩=> ?_);subst ex;obtain rfl:u=Value.ref a:=rx;obtain ⟨⟨_,lo,_,_,oo,es,ep,h1,h2,h3,_⟩,_⟩:=Iu I1.hok d;refine ⟨⟨oo,h1,h2.1⟩,λ a1 e1=>by cases e1;exact ⟨oo,h1,h2.2.1⟩,?_⟩;rw [m.trees];refine Calls.callWith_builtin rfl (Calls.evalArgs_plain (Calls.spliced_cons (bB (he pins s1 Z H1 _ I1 q1) λ iv s2 ⟨y,H2,I2,ry,ov,g,q2⟩=>Calls.spliced_nil ?_)));exact Gx hu I2 g ry λ w' s3 I3 rw'=>⟨_,H2,I3,rw',q2⟩
def lJ (K:W.Frag):List V->Hp->VK->Prop:=λ xs H Q=> ∃ (a:Addr) (ss:List Str),xs=[.ref a]/\SqT K H a (ss.map V.str)/\ss≠[]/\ ∀s∈ss,Q (.str s) H
section
variable {X:Cx} {pins:List (Addr×Obj)} {Z:St} {H:Hp} {s:Shared} {a:Addr} {ss:List Str} {its:List Value}
theorem ig (r:Vals (ss.map V.str) its) {i:Nat} (h:its[i]? =some v): ∃x t,ss[i]? =some x/\v= .str x t:=by
 have hi:i<ss.length:=by
  have:=r.length;rw [Qr] at this;rw [this];exact (Zo.mp h).1
 obtain ⟨x,hx⟩: ∃x,ss[i]? =some x:=⟨_,Zd hi⟩;obtain ⟨v',e',rel⟩:=r.get (i:=i) (x:= .str x) (by rw [Zj,hx];rfl);rw [h] at e'
 cases e';obtain ⟨t,rfl⟩:=rel;exact ⟨x,t,hx,rfl⟩
theorem wk {h':Heap} {d:Data} (hk: ∀b o,b∉[s.heap.objs.size]->(s.heap.push { cls:=c,data:=d }).get? b=some o->h'.get? b=some o): ∀b o,s.heap.get? b=some o->h'.get? b=some o:=λ b o e=>by
 refine hk b o (λ hm=> ?_) (Zf _ e);rw [Za.mp hm] at e;exact Xj _ (Zp e)
end
theorem ye {X:Cx} (hc:X.calm=true):bH X (.builtin "min") (lJ X.K):=by
 intro pins s Z H xs us Q I rv h;obtain ⟨a,ss,rfl,hx,hne,q⟩:=h;obtain ⟨u,rfl,ru⟩:=rv.one
 cases (show u=Value.ref a from ru);obtain ⟨its,r,ht,hz⟩:=I.tuple hx;have hlen:ss.length=its.length:=by have:=r.length;rw [Qr] at this;exact this
 have hpos:0<ss.length:=List.length_pos_iff.mpr hne;have hT:s.heap.IsTuple a its.toArray:=ht;have hlt:a<s.heap.objs.size:=by obtain ⟨_,e,_⟩:=ht;exact Zp e
 refine call_min_walk (wpAny_pyIter_tuple hT ⟨_,[_,a],[_],_,_,_,λ i j=>decide (((ss[i]?).getD default).cps.toList<((ss[j]?).getD default).cps.toList),rfl,Walks.tuple (A:=X.A.in1) (I.ok.hd hc) _ a (Yo hlt) its.toArray,
  ⟨⟨_,Zt _ rfl,rfl,rfl⟩,hT.push _⟩,λ c hcc=> ?_,by simpa using (show 0<its.length by rfl'),λ i j vi vj s' Q' E' hi hj h=> ?_,λ v h' tk hP hk=> ?_⟩)
 .show c<(s.heap.push _).objs.size;rw [Heap.size_push];rcases Zm.mp hcc with rfl | hcc
  .exact Nat.lt_succ_self _
  .rw [Za.mp hcc];exact Nat.lt_succ_of_lt hlt
 .obtain ⟨x,t,hx1,rfl⟩:=ig r (by simpa using hi);obtain ⟨y,t',hy1,rfl⟩:=ig r (by simpa using hj);dsimp only at h;rw [hx1,hy1] at h;exact richCompare_gives (op:= .Lt) (typeIs_str s' x t) (typeIs_str s' y t') F.slot_str_lt F.entry_str_lt (F.args_str_lt_2 _ _) (gives_str_lt x y t t') (λ x=>nomatch x) h
 .obtain ⟨x,t,hx1,rfl⟩:=ig r (by simpa using hP);exact ⟨.str x,H,I.kept (t':=tk) (wk hk),⟨t,rfl⟩,q x (Ze hx1)⟩
theorem yf {X:Cx} (hc:X.calm=true):bH X (.builtin "max") (lJ X.K):=by
 intro pins s Z H xs us Q I rv h;obtain ⟨a,ss,rfl,hx,hne,q⟩:=h;obtain ⟨u,rfl,ru⟩:=rv.one
 cases (show u=Value.ref a from ru);obtain ⟨its,r,ht,hz⟩:=I.tuple hx;have hlen:ss.length=its.length:=by have:=r.length;rw [Qr] at this;exact this
 have hpos:0<ss.length:=List.length_pos_iff.mpr hne;have hT:s.heap.IsTuple a its.toArray:=ht;have hlt:a<s.heap.objs.size:=by obtain ⟨_,e,_⟩:=ht;exact Zp e
 refine call_max_walk (wpAny_pyIter_tuple hT ⟨_,[_,a],[_],_,_,_,λ i j=>decide (((ss[j]?).getD default).cps.toList<((ss[i]?).getD default).cps.toList),rfl,Walks.tuple (A:=X.A.in1) (I.ok.hd hc) _ a (Yo hlt) its.toArray,
  ⟨⟨_,Zt _ rfl,rfl,rfl⟩,hT.push _⟩,λ c hcc=> ?_,by simpa using (show 0<its.length by rfl'),λ i j vi vj s' Q' E' hi hj h=> ?_,λ v h' tk hP hk=> ?_⟩)
 .show c<(s.heap.push _).objs.size;rw [Heap.size_push];rcases Zm.mp hcc with rfl | hcc
  .exact Nat.lt_succ_self _
  .rw [Za.mp hcc];exact Nat.lt_succ_of_lt hlt
 .obtain ⟨x,t,hx1,rfl⟩:=ig r (by simpa using hi);obtain ⟨y,t',hy1,rfl⟩:=ig r (by simpa using hj);dsimp only at h;rw [hx1,hy1] at h;exact richCompare_gives (op:= .Gt) (typeIs_str s' x t) (typeIs_str s' y t') F.slot_str_gt F.entry_str_gt (F.args_str_gt_2 _ _) (gives_str_gt x y t t') (λ x=>nomatch x) h
 .obtain ⟨x,t,hx1,rfl⟩:=ig r (by simpa using hP);exact ⟨.str x,H,I.kept (t':=tk) (wk hk),⟨t,rfl⟩,q x (Ze hx1)⟩
theorem ut {X:Cx} (K:W.Frag) (hK:X.K=K) (hc:X.calm=true):bH X (.builtin "min") (lJ K):=hK▸ye hc
theorem uv {X:Cx} (K:W.Frag) (hK:X.K=K) (hc:X.calm=true):bH X (.builtin "max") (lJ K):=hK▸yf hc
end L2
end
set_option linter.all false
namespace Mm
variable {k:Nat}
theorem jc (x:Int) (m:Nat) (h:0<m): ∃n:Nat,x%(m:Int)=(n:Int)/\n<m:=by
 have h1:=Int.emod_nonneg x (b:=(m:Int)) (by rfl');have h2:=Int.emod_lt_of_pos x (b:=(m:Int)) (by rfl');exact ⟨(x%(m:Int)).toNat,by rfl',by rfl'⟩
theorem Gy (k:Nat):(0:Int)<1*2^k:=by
 rw [Int.one_mul];exact Int.pow_pos (by decide)
theorem gM {α β:Type} (f:α->Option β) (xs:List α) (x:α):(xs++[x]).filterMap f=xs.filterMap f++(f x).toList:=by
 rw [List.filterMap_append]
 cases h:f x<;>simp [h]
def cellAt (ns:List Int) (k:Nat):Int:=ns.getD k 0
def hgt (c:Int):Nat:=if c%2=0 then (1+c / 2%6).toNat else (1+c / 2%60).toNat
def dH:List Nat->List Nat->Nat
 | x::xs,y::ys=>Bm.pop (x^^^y)+dH xs ys
 | _,_=>0
theorem rP: ∀xs ys:List Nat,((List.zipWith (λ x y=>((Bm.pop (x^^^y):Nat):Int)) xs ys).sum:Int)=(dH xs ys:Nat)
 | [],_=>by simp [dH]
 | _::_,[]=>by simp [dH]
 | x::xs,y::ys=>by
  rw [List.zipWith_cons_cons,List.sum_cons,rP xs ys,dH];rfl'
theorem nM: ∀xs ys:List Nat,dH xs ys=dH ys xs
 | [],[]=>rfl
 | [],_::_=>rfl
 | _::_,[]=>rfl
 | x::xs,y::ys=>by rw [dH,dH,nM xs ys,Nat.xor_comm]
theorem nO: ∀xs:List Nat,dH xs xs=0
 | []=>rfl
 | x::xs=>by rw [dH,nO xs,Nat.xor_self,Bm.iV]
theorem nP: ∀ (xs ys:List Nat) (x y:Nat),xs.length=ys.length->dH (xs++[x]) (ys++[y])=dH xs ys+Bm.pop (x^^^y)
 | [],[],x,y,_=>by simp [dH]
 | [],_::_,_,_,h=>by simp at h
 | _::_,[],_,_,h=>by simp at h
 | a::xs,b::ys,x,y,h=>by
  rw [List.cons_append,List.cons_append,dH,dH,nP xs ys x y (by simpa using h)];rfl'
theorem getD_some {ns:List Int} {z:Int} (h:ns[k]? =some z):cellAt ns k=z:=by
 unfold cellAt;rw [Zn,h];rfl
theorem getD_none {ns:List Int} (h:ns.length<=k):cellAt ns k=0:=by
 unfold cellAt;rw [Zn,List.getElem?_eq_none h];rfl
def On (h n:Nat) (s:Int×Int):Prop:=0<=s.1/\s.1<n/\0<=s.2/\s.2<h
instance decOn (h n:Nat) (s:Int×Int):Decidable (On h n s):=by unfold On;exact inferInstance
end Mm
section
namespace L2
open PySem
variable {c:TT} {t:TA} {u:TS} {n:Nat} {v x:V} {wi:TI} {A:Prop} {b:Bool} {H H':Hp} {a p:Addr} {d:PyData} {i j k:Int} {cs:List Nat} {es:List Int} {qs:List Addr} {xs ys:List V} {f:Int->Int->V} {C:Int->Int->Prop} {R:Bool->Hp->Prop} {hi lo:Option Int} {κ:List (Option Nat)} {ds:List (List (Str×Int))} {ta tb td te tk to tv ty:TE}
theorem Qh {B:Prop} (h:B):if (!true)=true then A else B:=zf h
theorem Qi {B:Prop} (h:A):if (!false)=true then A else B:=zg h
theorem dW {p B:Prop} [Decidable p] (h1:p->A) (h2: ¬p->B):if decide p=true then A else B:=by
 by_cases h:p
 .rw [Yj h];exact zg (h1 h)
 .rw [Yf h];exact zf (h2 h)
theorem nQ {p B:Prop} [Decidable p] (h1: ¬p->A) (h2:p->B):if (!decide p)=true then A else B:=by
 by_cases h:p
 .rw [Yj h];exact zf (h2 h)
 .rw [Yf h];exact zg (h1 h)
theorem GC {B:Prop} (h1:b=true->A) (h2:b=false->B):if b=true then A else B:=by
 cases b with
 | true=>exact zg (h1 rfl)
 | false=>exact zf (h2 rfl)
theorem nR {p B:Prop} [Decidable p] (hp:p) (h:A):if decide p=true then A else B:=dW (λ _=>h) λ n=>absurd hp n
theorem wu {p B:Prop} [Decidable p] (hp: ¬p) (h:B):if decide p=true then A else B:=dW (λ n=>absurd n hp) λ _=>h
theorem pL {p B:Prop} [Decidable p] (hp:p) (h:B):if (!decide p)=true then A else B:=nQ (λ n=>absurd hp n) λ _=>h
theorem Qj {α:Type} [DecidableEq α] {a:α} {B:Prop} (h:A):if decide (a=a)=true then A else B:=nR rfl h
theorem KQ {α:Type} [DecidableEq α] {a:α} {B:Prop} (h:B):if (!decide (a=a))=true then A else B:=pL rfl h
theorem KR {p B:Prop} [Decidable p] (hp: ¬p) (h:A):if (!decide p)=true then A else B:=nQ (λ _=>h) λ n=>absurd n hp
theorem Same.new {H0:Hp} {o:HO} (e:Same H0 H) (h:H p=none):Same H0 (upd H p o):=λ b u q=>by rw [au (aO (e b u q) h)];exact e b u q
theorem Same.tup {K:W.Frag} (e:Same H H') (h:SqT K H a xs):SqT K H' a xs:=by
 rcases h with (h | ⟨o,h⟩) | h
 .exact .inl (.inl (e _ _ h))
 .exact .inl (.inr ⟨o,e _ _ h⟩)
 .exact .inr h
theorem Ud {r:St}:oR (none::r) (some v::r):=⟨rfl,λ j u z=>by
 match j,z with
 | j+1,z=>exact z⟩
theorem ext2 {r:St} {w:V}:oR (none::none::r) (some v::some w::r):=⟨rfl,λ j u z=>by
 match j,z with
 | j+2,z=>exact z⟩
theorem Iw (a b:Int):decide (V.int a=V.int b)=decide (a=b):=by simp
theorem uw (h:0<=k):dU xs none (some k)=xs.take k.toNat:=by
 unfold dU;show (xs.drop 0).take ((if k<0 then (k+(xs.length:Int)).toNat else min k.toNat xs.length)-0)=_;rw [if_neg (by rfl'),List.drop_zero,Nat.sub_zero];rcases Nat.le_total k.toNat xs.length with q | q
 .rw [Nat.min_eq_left q]
 .rw [Nat.min_eq_right q,Xb (Zk _),Xb q]
theorem jd (h:0<=k):dU xs (some k) none=xs.drop k.toNat:=by
 unfold dU;show (xs.drop (if k<0 then (k+(xs.length:Int)).toNat else min k.toNat xs.length)).take (xs.length-(if k<0 then (k+(xs.length:Int)).toNat else min k.toNat xs.length))=_;rw [if_neg (by rfl')];rcases Nat.le_total k.toNat xs.length with q | q
 .rw [Nat.min_eq_left q,Xb (by rw [Yx];rfl')]
 .rw [Nat.min_eq_right q,List.drop_of_length_le (Zk _),List.drop_of_length_le q];simp
theorem ww (h:0<=k) (hj:0<=j):dU xs (some k) (some j)=(xs.take j.toNat).drop k.toNat:=by
 unfold dU;show (xs.drop (if k<0 then (k+(xs.length:Int)).toNat else min k.toNat xs.length)).take ((if j<0 then (j+(xs.length:Int)).toNat else min j.toNat xs.length)-(if k<0 then (k+(xs.length:Int)).toNat else min k.toNat xs.length))=_;rw [if_neg (Int.not_lt.mpr h),if_neg (Int.not_lt.mpr hj),List.drop_take];generalize k.toNat=k;generalize j.toNat=j;rcases Nat.le_total k xs.length with c | c
 .rw [Nat.min_eq_left c,List.take_eq_take_iff,Yx];rcases Nat.le_total j xs.length with d | d
  .rw [Nat.min_eq_left d]
  .rw [Nat.min_eq_right d,Nat.min_self,Nat.min_eq_right (Nat.sub_le_sub_right d k)]
 .rw [Nat.min_eq_right c,List.drop_of_length_le (Zk _),List.drop_of_length_le c,List.take_nil,List.take_nil]
theorem je (i:Int) (ns:List Int):inV (.int i) (ns.map V.int)=decide (i∈ns):=by
 unfold inV;rw [List.any_map];induction ns with
 | nil=>simp
 | cons n r ih=>
  rw [List.any_cons,ih];by_cases h:n=i
  .subst h;simp [yr]
  .simp [yr,h,Ne.symm h]
theorem gO (ns:List Int):(ns.map V.int).all dN=true:=by
 rw [List.all_map];simp [Function.comp_def,dN]
theorem KY {α:Type} {xs:List α} (h0:0<=i) (h1:i.toNat<xs.length):xm xs i=some xs[i.toNat]:=by
 have e:=aN (xs:=xs) (j:=i.toNat) (v:=xs[i.toNat]) (Zd h1);rwa [show ((i.toNat:Nat):Int)=i by rfl'] at e
section
variable {Z:St} {H:Hp} {Q:VK} {D:Ends} {K:W.Frag}
theorem Iz {t:TS} (h:t { D with nx:=u D } Z H):aG t u D Z H:=h
theorem Qk {g:TG} (h:te Z H λ x H1=>g x Z H1 D.nx):aJ te g D Z H:=h
theorem Ql (h:te Z H D.rt):bJ te D Z H:=h
theorem KZ (h:D.nx Z H):bT D Z H:=h
theorem La (h:te Z H λ _ H1=>D.nx Z H1):dF te D Z H:=h
theorem Qm {t:TS} (h:c Z H λ b H1=>if b=true then t D Z H1 else u D Z H1):cI c t u D Z H:=h
theorem Qn {i:Nat} (e:Z[i]? =some (some v)) (h:Q v H):aj i Z H Q:=⟨v,e,h⟩
theorem VG (h:Q v H):tC v Z H Q:=h
theorem Ue {r:R2} (h:ta Z H λ x H1=>tb Z H1 λ y H2=>r x y H2 Q):aH r ta tb Z H Q:=h
theorem Ug {r:List V->Hp->VK->Prop} (h:t Z H λ vs H1=>r vs H1 Q):cH r t Z H Q:=h
theorem s_call {sp:Sp} {E:XK} (h:t Z H λ vs H1=>sp vs H1 Q E):aU sp [] E t Z H Q:=by
 unfold aU;simpa only [Xa] using h
theorem Qo {R:List V->Hp->Prop} (h:R [] H):aC Z H R:=h
theorem Lb {tr:TA} {R:List V->Hp->Prop} (h:ta Z H λ x H1=>tr Z H1 λ xs H2=>R (x::xs) H2):ao ta tr Z H R:=h
theorem Ld (h:te Z H λ x H'=> ∃k,x= .bl k/\R k H'):aY te Z H R:=h
theorem Qp (h:te Z H λ x H'=> ∃k,yQ K x H' k/\R k H'):qK K te Z H R:=h
theorem Uh {R:Bool->Prop} (h:R b): ∃k,V.bl b= .bl k/\R k:=⟨b,rfl,h⟩
theorem Qq {R:Bool->Prop} (h:R b): ∃k,yQ K (.bl b) H k/\R k:=⟨b,rfl,h⟩
theorem Qs {t:TT} (h:t Z H λ c H1=>R (!c) H1):yx t Z H R:=h
theorem Qt {t u:TT} (h:t Z H λ c H1=>if c=true then u Z H1 R else R false H1):jG t u Z H R:=h
theorem Ui {t u:TT} (h:t Z H λ c H1=>if c=true then R true H1 else u Z H1 R):OD t u Z H R:=h
theorem Le (h:ta Z H λ x H1=> ∃c,x= .bl c/\if c=true then tb Z H1 Q else Q (.bl false) H1):jA ta tb Z H Q:=h
theorem Lf (h:ta Z H λ x H1=> ∃c,x= .bl c/\Q (.bl (!c)) H1):yD ta Z H Q:=h
theorem Uj {t:TT} (h:t Z H λ c H1=>if c=true then ta Z H1 Q else tb Z H1 Q):Ti t ta tb Z H Q:=h
theorem Qu (h:R true H):eZ Z H R:=h
theorem GD {i:Nat} {R:St->Hp->Prop} (h:R (Z.set i (some v)) H):az i v Z H R:=h
theorem Lg {R:St->Hp->Prop} (h:R Z H):jH [] Z H R:=⟨rfl,h⟩
theorem GF {t:TG} {u:El} {r:List V} {R:St->Hp->Prop} (h:t v Z H λ Z' H'=>u r Z' H' R):bY t u (v::r) Z H R:=⟨v,r,rfl,h⟩
theorem f9 {t:El} {R:St->Hp->Prop} (hx:SqT K H a xs) (hn:xs.length=n) (h:t xs Z H R):ji K n t (.ref a) Z H R:=⟨a,xs,rfl,hx,hn,h⟩
theorem Lh {ti:TE} {t:yH} {R:St->Hp->Prop} (h:to Z H λ o H1=>ti Z H1 λ i H2=>t o i v H2 λ H3=>R Z H3):Ep to ti t v Z H R:=h
theorem Qv {i:Nat} {ti:Jk} (e:Z[i]? =some (some x)) (h:te Z H λ y H1=>ti x y H1 λ z H2=>D.nx (Z.set i (some z)) H2):Jm i te ti D Z H:=⟨x,e,h⟩
theorem Uk {f:Int->Int->Int} (h:Q (.int (f i j)) H):Tq f (.int i) (.int j) H Q:=⟨i,j,rfl,rfl,h⟩
theorem Qw (h:Q (f i j) H):qe f (.int i) (.int j) H Q:=⟨i,j,rfl,rfl,h⟩
theorem Ul (c:C i j) (h:Q (f i j) H):rI C f (.int i) (.int j) H Q:=⟨i,j,rfl,rfl,c,h⟩
theorem Qx (h:Q (.bl (decide (i=j))) H):qw (.int i) (.int j) H Q:=⟨rfl,by rw [Iw];exact h⟩
theorem Qy (h:Q (.bl (!decide (i=j))) H):Jx (.int i) (.int j) H Q:=⟨rfl,by rw [Iw];exact h⟩
theorem QB (h:t Z H λ xs H1=>xs.length<=sizeLine/\ ∀p,H1 p=none->Q (.ref p) (upd H1 p (.tup xs))):cO t Z H Q:=h
theorem QC (h:t Z H λ xs H1=>xs.length<=sizeLine/\ ∀p,H1 p=none->Q (.ref p) (upd H1 p (.lst xs))):cR t Z H Q:=h
theorem QD {a b:St} {P:Prop} (e:oR a b) (h:P):oR a b/\P:=⟨e,h⟩
theorem QF {P:Prop} (e:n<=1000) (h:P):n<=sizeLine/\P:=⟨small e,h⟩
theorem Um {r:V->Option Int->Option Int->Hp->VK->Prop} {tl th:TO} (h:te Z H λ x H1=>tl Z H1 λ l H2=>th Z H2 λ u H3=>r x l u H3 Q):vJ r te tl th Z H Q:=h
theorem Bo {R:Option Int->Hp->Prop} (h:R none H):cJ Z H R:=h
theorem Li {t:TE} {R:Option Int->Hp->Prop} (h:t Z H λ x H1=> ∃i,x= .int i/\R (some i) H1):dM t Z H R:=h
theorem Lj {R:Int->Prop} (h:R i): ∃k,V.int i= .int k/\R k:=⟨i,rfl,h⟩
theorem Uo {T:String} {r:V->List V->Hp->VK->Prop} (h:to Z H λ x H1=>JL K T x H1/\t Z H1 λ xs H2=>r x xs H2 Q):qz K T r to t Z H Q:=h
theorem QG {T:String} {r:V->List V->Hp->VK->Prop} (h:to Z H λ x H1=>JL K T x H1/\r x [] H1 Q):Fd K T r to Z H Q:=h
theorem dO {P:Prop} (e:SqL K H a xs) (h:P):JL K "list" (.ref a) H/\P:=⟨.inl ⟨rfl,xs,e⟩,h⟩
def pM (g:TG) (tb:TS) (D:Ends) (Z:St):It->Hp->Prop:=λ J H1=> ∃W:Nat->Nat->St->Hp->Prop,(∃m,W 0 m Z H1)/\ ∀i m Z H,W i m Z H->
 (J.stop i H/\D.nx Z H)\/(J.go i H/\ ∃N:St->Hp->Prop,(∀Z' H',N Z' H'-> ∃m',m'<m/\W (i+1) m' Z' H')/\ ∀x H',J.yld i H x H'->g x Z H' λ Z2 H2=>tb { D with nx:=N,ct:=N,bk:=D.nx } Z2 H2)
theorem QH {g:TG} {tb:TS} (h:wi Z H (pM g tb D Z)):eY wi g tb D Z H:=h
def GJ (κ:List (Option Nat)) (g:TG) (tc:TT) (te:TE) (Z:St) (Q:VK):It->Hp->Prop:=λ J H1=> ∃W:Nat->Nat->List V->Hp->Prop,(∃m,W 0 m [] H1)/\ ∀i m ys H,W i m ys H->
 (J.stop i H/\ ∀p,H p=none->Q (.ref p) (upd H p (.lst ys)))\/
 (J.go i H/\ys.length<sizeLine/\ ∃N:List V->Hp->Prop,(∀ys' H',N ys' H'-> ∃m',m'<m/\W (i+1) m' ys' H')/\ ∀x H',J.yld i H x H'->g x (cap κ Z) H' λ Z2 H2=>oR (cap κ Z) Z2/\tc Z2 H2 λ b H3=>if b=true then te Z2 H3 λ y H4=>N (ys++[y]) H4 else N ys H3)
theorem Uq {g:TG} {tc:TT} (h:wi Z H (GJ κ g tc te Z Q)):oV κ wi g tc te Z H Q:=h
def iL (K:W.Frag) (R:It->Hp->Prop) (x:V) (H:Hp):Prop:= ∃a,x= .ref a/\(∃xs,SqL K H a xs)/\R (Er K a) H
def iT (K:W.Frag) (R:It->Hp->Prop) (x:V) (H:Hp):Prop:= ∃a,x= .ref a/\(∃xs,SqT K H a xs)/\R (Ol K a) H
def iR (R:It->Hp->Prop) (vs:List V) (H:Hp):Prop:= ∃j:Int,vs=[.int j]/\ -(2^62)<=j/\j<2^62/\R (wU 0 j.toNat) H
def W3 (R:It->Hp->Prop) (vs:List V) (H:Hp):Prop:= ∃i j:Int,vs=[.int i, .int j]/\(-(2^62)<=i/\i<2^62/\ -(2^62)<=j/\j<2^62)/\R (wU i (j-i).toNat) H
theorem GK {tl:TE} {R:It->Hp->Prop} (h:tl Z H (iL K R)):cQ K tl Z H R:=h
theorem Lk {tl:TE} {R:It->Hp->Prop} (h:tl Z H (iT K R)):qt K tl Z H R:=h
theorem GP {ta:TA} {R:It->Hp->Prop} (h:ta Z H (iR R)):iz ta Z H R:=h
def iS (R:It->Hp->Prop) (x:V) (H:Hp):Prop:= ∃z,x= .str z/\R (V5 z) H
def iZ (K:W.Frag) (R:It->Hp->Prop) (vs:List V) (H:Hp):Prop:= ∃a b xs ys,vs=[.ref a, .ref b]/\SqL K H a xs/\SqL K H b ys/\R (V7 K a b) H
end
section
variable {Z:St} {H:Hp} {Q:VK} {D:Ends} {K:W.Frag} {g:TG} {tb:TS} {κ:List (Option Nat)} {tc:TT} {te:TE}
theorem jC {α:Type} (c:α->V) {zs:List α} (hx:SqL K H a (zs.map c)) (Pv:Nat->St->Hp->Prop) (h0:Pv 0 Z H) (hl: ∀i Z H',Pv i Z H'->SqL K H' a (zs.map c))
  (hs: ∀ (i:Nat) z Z H',zs[i]? =some z->Pv i Z H'->g (c z) Z H' λ Z2 H2=>tb { D with nx:=Pv (i+1),ct:=Pv (i+1),bk:=D.nx } Z2 H2) (hd: ∀Z H',Pv zs.length Z H'->D.nx Z H'):iL K (pM g tb D Z) (.ref a) H:=by
 refine ⟨a,rfl,⟨_,hx⟩,yK (K:=K) (a:=a) (xs:=zs.map c) Pv h0 (λ i Z H _ h=>hl i Z H h) ?_ ?_⟩
 .intro i x Z H' hi p;rw [Zj] at hi;obtain ⟨z,hz,rfl⟩:=Yp.mp hi;exact hs i z Z H' hz p
 .intro Z H' p;rw [Qr] at p;exact hd Z H' p
theorem IK {α:Type} (c:α->V) {zs:List α} (hx:SqT K H a (zs.map c)) (Pv:Nat->St->Hp->Prop) (h0:Pv 0 Z H) (hl: ∀i Z H',Pv i Z H'->SqT K H' a (zs.map c))
  (hs: ∀ (i:Nat) z Z H',zs[i]? =some z->Pv i Z H'->g (c z) Z H' λ Z2 H2=>tb { D with nx:=Pv (i+1),ct:=Pv (i+1),bk:=D.nx } Z2 H2) (hd: ∀Z H',Pv zs.length Z H'->D.nx Z H'):iT K (pM g tb D Z) (.ref a) H:=by
 refine ⟨a,rfl,⟨_,hx⟩,Et (K:=K) (a:=a) (xs:=zs.map c) Pv h0 (λ i Z H _ h=>hl i Z H h) ?_ ?_⟩
 .intro i x Z H' hi p;rw [Zj] at hi;obtain ⟨z,hz,rfl⟩:=Yp.mp hi;exact hs i z Z H' hz p
 .intro Z H' p;rw [Qr] at p;exact hd Z H' p
theorem rQ {n:Int} (m:Nat) (e:n.toNat=m) (hm:m<=1000000000) (hn: -1000000000<=n) (Pv:Nat->St->Hp->Prop) (h0:Pv 0 Z H)
  (hs: ∀ (i:Nat) Z H',i<m->Pv i Z H'->g (.int (i:Int)) Z H' λ Z2 H2=>tb { D with nx:=Pv (i+1),ct:=Pv (i+1),bk:=D.nx } Z2 H2) (hd: ∀Z H',Pv m Z H'->D.nx Z H'):iR (pM g tb D Z) [.int n] H:=by
 refine ⟨n,rfl,by rfl',by rfl',?_⟩;rw [e];refine wX Pv h0 (λ i Z H' hi p=> ?_) hd;rw [Int.zero_add];exact hs i Z H' hi p
theorem Ln {n:Int} (m:Nat) (e:n.toNat=m) (hm:m<=1000000) (hn: -1000000000<=n) (Pv:Nat->List V->Hp->Prop) (h0:Pv 0 [] H) (hz: ∀i ys H',Pv i ys H'->ys.length<=i)
  (hs: ∀ (i:Nat) ys H',i<m->Pv i ys H'->g (.int (i:Int)) (cap κ Z) H' λ Z2 H2=>oR (cap κ Z) Z2/\tc Z2 H2 λ b H3=>if b=true then te Z2 H3 λ y H4=>Pv (i+1) (ys++[y]) H4 else Pv (i+1) ys H3)
  (hd: ∀ys H',Pv m ys H'-> ∀p,H' p=none->Q (.ref p) (upd H' p (.lst ys))):iR (GJ κ g tc te Z Q) [.int n] H:=by
 refine ⟨n,rfl,by rfl',by rfl',?_⟩;rw [e];refine zF Pv h0 (Yg hm (by decide)) hz (λ i ys H' hi p=> ?_) hd;rw [Int.zero_add];exact hs i ys H' hi p
theorem QJ {n:Int} (m:Nat) (e:n.toNat=m) (hm:m<=1000000) (hn: -1000000000<=n) (f:Nat->V)
  (hs: ∀i,i<m-> ∀ (A:VK),A (f i) H->g (.int (i:Int)) (cap κ Z) H λ Z2 H2=>oR (cap κ Z) Z2/\te Z2 H2 A)
  (hd: ∀p,H p=none->Q (.ref p) (upd H p (.lst ((List.range m).map f)))):iR (GJ κ g eZ te Z Q) [.int n] H:=by
 refine Ln m e hm hn (λ i ys H'=>H'=H/\ys=(List.range i).map f) ⟨rfl,rfl⟩ ?_ ?_ ?_
 .rintro i ys _ ⟨rfl,rfl⟩;simp
 .rintro i ys H' hi ⟨e1,rfl⟩;subst e1;have q:=hs i hi (λ y H4=>H4=H'/\(List.range i).map f++[y]=(List.range (i+1)).map f) ⟨rfl,by rw [List.range_succ,Zh];rfl⟩;simpa only [eZ,if_true] using q
 .rintro ys _ ⟨rfl,rfl⟩ p hp;exact hd p hp
theorem Bp {α:Type} (c:α->V) {zs:List α} (hx:SqL K H a (zs.map c)) (hn:zs.length<=1000000) (Pv:Nat->List V->Hp->Prop) (h0:Pv 0 [] H) (hl: ∀i ys H',Pv i ys H'->SqL K H' a (zs.map c)) (hz: ∀i ys H',Pv i ys H'->ys.length<=i)
  (hs: ∀ (i:Nat) z ys H',zs[i]? =some z->Pv i ys H'->g (c z) (cap κ Z) H' λ Z2 H2=>oR (cap κ Z) Z2/\tc Z2 H2 λ b H3=>if b=true then te Z2 H3 λ y H4=>Pv (i+1) (ys++[y]) H4 else Pv (i+1) ys H3)
  (hd: ∀ys H',Pv zs.length ys H'-> ∀p,H' p=none->Q (.ref p) (upd H' p (.lst ys))):iL K (GJ κ g tc te Z Q) (.ref a) H:=by
 refine ⟨a,rfl,⟨_,hx⟩,Ft (K:=K) (a:=a) (xs:=zs.map c) Pv h0 (by rw [Qr];exact Yg hn (by decide)) (λ i ys H' _ p=>hl i ys H' p) hz ?_ ?_⟩
 .intro i x ys H' hi p;rw [Zj] at hi;obtain ⟨z,hz,rfl⟩:=Yp.mp hi;exact hs i z ys H' hz p
 .intro ys H' p;rw [Qr] at p;exact hd ys H' p
theorem wA {α:Type} (c:α->V) {zs:List α} (hx:SqL K H a (zs.map c)) (hn:zs.length<=1000000) (f:α->V)
  (hs: ∀ (i:Nat) z,zs[i]? =some z-> ∀ (A:VK),A (f z) H->g (c z) (cap κ Z) H λ Z2 H2=>oR (cap κ Z) Z2/\te Z2 H2 A)
  (hd: ∀p,H p=none->Q (.ref p) (upd H p (.lst (zs.map f)))):iL K (GJ κ g eZ te Z Q) (.ref a) H:=by
 refine Bp c hx hn (λ i ys H'=>H'=H/\ys=(zs.take i).map f) ⟨rfl,rfl⟩ ?_ ?_ ?_ ?_
 .rintro i ys _ ⟨rfl,_⟩;exact hx
 .rintro i ys _ ⟨rfl,rfl⟩;rw [Qr,Yd];rfl'
 .rintro i z ys H' hz ⟨e1,rfl⟩;subst e1;have et:zs.take (i+1)=zs.take i++[z]:=by rw [Ys,hz];rfl
  have q:=hs i z hz (λ y H4=>H4=H'/\(zs.take i).map f++[y]=(zs.take (i+1)).map f) ⟨rfl,by rw [et,Zh];rfl⟩;simpa only [eZ,if_true] using q
 .rintro ys _ ⟨rfl,rfl⟩ p hp;rw [Xh];exact hd p hp
end
def Thing (H:Hp):V->Prop
 | .non=>True
 | .bl _=>True
 | .int _=>True
 | .str x=>x.length<=100000
 | .ref a=>(∃xs,H a=some (.lst xs))\/(∃xs,H a=some (.tup xs))\/ ∃kvs,H a=some (.dK kvs)
 | _=>False
def isI:V->Bool
 | .int _=>true
 | _=>false
theorem Lp {K:W.Frag} {Q:VK} {T:String} {t:Value} (ty:TyOf K H x t) (e:PySem.W.kitOne K t (.type T)=some b) (h:Q (.bl b) H):iY K [x, .ty T] H Q:=⟨T,x,t,b,rfl,ty,e,h⟩
section
variable {Z:St} {H:Hp} {Q:VK} {D:Ends} {K:W.Frag}
theorem Lq (a b:Str):decide (V.str a=V.str b)=decide (a=b):=by simp
theorem QK {a b:Str} (h:Q (.bl (!decide (a=b))) H):Jx (.str a) (.str b) H Q:=⟨rfl,by rw [Lq];exact h⟩
theorem jo {i j:Str} (e:i.length+j.length<=1000000) (h:Q (.str (i++j)) H):d9 (.str i) (.str j) H Q:=⟨i,j,rfl,rfl,Yg e (by decide),h⟩
theorem cG (e:SqL K H a xs) (h:Q (.int xs.length) H):cB K [.ref a] H Q:=⟨_,_,rfl, .inl ⟨xs,e,rfl⟩,h⟩
theorem cW (e:SqT K H a xs) (h:Q (.int xs.length) H):cB K [.ref a] H Q:=⟨_,_,rfl, .inr ⟨xs,e,rfl⟩,h⟩
theorem Br {x:Str} (e:x.length<=1000000) (h:Q (.int x.length) H):cB K [.str x] H Q:=⟨_,_,rfl,⟨Nat.le_trans e (by decide),rfl⟩,h⟩
theorem bU (e:SqL K H a xs) (ev:xm xs i=some v) (h:Q v H):cA K (.ref a) (.int i) H Q:=⟨a,xs,i,v,rfl,rfl,e,ev,h⟩
theorem eV (e:SqT K H a xs) (ev:xm xs i=some v) (h:Q v H):aR K (.ref a) (.int i) H Q:=⟨a,xs,i,v,rfl,rfl,e,ev,h⟩
theorem QL {x:Str} {c:Nat} (e:x.length<=1000000) (ev:xm x.cps.toList i=some c) (h:Q (.str ⟨#[c]⟩) H):JF (.str x) (.int i) H Q:=⟨x,i,c,rfl,rfl,Yg e (by decide),ev,h⟩
theorem Lr (h:Q (.int (if b then 1 else 0)) H):Ir [.bl b] H Q:= .inr ⟨b,rfl,h⟩
theorem GQ (h: ∀p,H p=none->Q (.ref p) (upd H p (.dK []))):oM Z H Q:=h
theorem GX (h: ∀p,H p=none->tk Z (upd H p (.dT [])) λ x H1=>tv Z H1 λ v H2=>H2 p=some (.dT [])/\ ∃k b,x= .ref b/\H2 b=some (.tup (k.map kV))/\Q (.ref p) (upd H2 p (.dT [(k,v)]))):u6 tk tv Z H Q:=h
theorem GZ (h: ∀p,H p=none->tk Z (upd H p (.dK [])) λ x H1=>tv Z H1 λ y H2=>H2 p=some (.dK [])/\ ∃kvs:List (Key×V),[(x,y)]=kvs.map (λ kv=>(kV kv.1,kv.2))/\kvs.length<=15/\Q (.ref p) (upd H2 p (.dK (fQ [] kvs)))):zr [(tk,tv)] Z H Q:=h
theorem Ha (h: ∀p,H p=none->Q (.ref p) (upd H p (.dT []))):tQ Z H Q:=h
theorem jV {tb:TS} (Pv:St->Hp->Prop) (μ:St->Hp->Nat) (h0:Pv Z H)
  (hs: ∀Z H,Pv Z H->c Z H λ b H1=>if b=true then tb { D with nx:=λ Z' H'=>Pv Z' H'/\μ Z' H'<μ Z H,ct:=λ Z' H'=>Pv Z' H'/\μ Z' H'<μ Z H,bk:=D.nx } Z H1 else D.nx Z H1)
  (mono: ∀Z H Q Q',(∀b H1,Q b H1->Q' b H1)->c Z H Q->c Z H Q'):eF c tb D Z H:=qu Pv μ h0 hs mono
end
section
variable {Z:St} {H:Hp} {Q:VK} {R:Bool->Hp->Prop} {b c:Bool}
theorem Ls (h1: ∀R:VK,R (.bl b) H->ta Z H R) (h2: ∀R:VK,R (.bl c) H->tb Z H R) (h:Q (.bl (b&&c)) H):jA ta tb Z H Q:=by
 refine h1 _ ⟨b,rfl,?_⟩
 cases b with
 | true=>rw [if_pos rfl];rw [Bool.true_and] at h;exact h2 _ h
 | false=>rw [if_neg Zr];rw [Bool.false_and] at h;exact h
theorem Hb {t u:TT} (h1: ∀R:Bool->Hp->Prop,R b H->t Z H R) (h2: ∀R:Bool->Hp->Prop,R c H->u Z H R) (h:R (b&&c) H):jG t u Z H R:=by
 refine h1 _ ?_
 cases b with
 | true=>rw [if_pos rfl];rw [Bool.true_and] at h;exact h2 _ h
 | false=>rw [if_neg Zr];rw [Bool.false_and] at h;exact h
end
def Sb (ps:List Addr) (H H':Hp):Prop:= ∀b o,b∉ps->H b=some o->H' b=some o
theorem Sb.of {ps:List Addr} (s:Same H H'):Sb ps H H':=λ b o _ e=>s b o e
theorem Sb.same {ps:List Addr} {H1 H2:Hp} (e:Sb ps H H1) (s:Same H1 H2):Sb ps H H2:=λ b o n q=>s b o (e b o n q)
theorem Sb.new {ps:List Addr} {H1:Hp} {o:HO} (e:Sb ps H H1) (h:H1 p=none):Sb ps H (upd H1 p o):=e.same (aB h o)
theorem Sb.set {ps:List Addr} {H1:Hp} {o:HO} (e:Sb ps H H1) (h:p∈ps):Sb ps H (upd H1 p o):=λ b u n q=>by
 rw [au (show b≠p from λ z=>n (by rw [z];exact h))];exact e b u n q
theorem Sb.get {ps:List Addr} {H1:Hp} {o:HO} (e:Sb ps H H1) (n:a∉ps) (h:H a=some o):H1 a=some o:=e a o n h
theorem Sb.more {ps:List Addr} {H1:Hp} (e:Sb ps H H1) (h: ∀p∈ps,p∈qs):Sb qs H H1:=λ b o n q=>e b o (λ z=>n (h b z)) q
theorem Sb.seq {ps:List Addr} {K:W.Frag} {H1:Hp} (e:Sb ps H H1) (hp: ∀p∈ps,H p=none) (h:SqL K H a xs):SqL K H1 a xs:=by
 have na: ∀o,H a=some o->a∉ps:=λ o q z=>by rw [hp a z] at q;cases q
 rcases h with (h | ⟨o,h⟩) | h
 .exact .inl (.inl (e a _ (na _ h) h))
 .exact .inl (.inr ⟨o,e a _ (na _ h) h⟩)
 .exact .inr h
theorem Sb.at {ps:List Addr} {H H1:Hp} {a:Addr} {o:HO} (e:Sb ps H H1) (hp: ∀p∈ps,H p=none) (h:H a=some o):H1 a=some o:=e a o (λ z=>by rw [hp a z] at h;cases h) h
section
variable {Z:St} {H:Hp} {Q:VK} {D:Ends} {K:W.Frag} {g:TG} {tb:TS} {κ:List (Option Nat)} {tc:TT} {te:TE}
def W4 (R:It->Hp->Prop) (vs:List V) (H:Hp):Prop:= ∃ (i j c:Int) (n:Nat),vs=[.int i, .int j, .int c]/\c≠0/\Builtin.Range.small i j c=true/\Builtin.divisionGoesByPylong (j-i) c=false/\Builtin.Range.rangeSize i j c=(n:Int)/\R (Pu i c n) H
end
section
variable {Z:St} {H:Hp} {Q:VK} {D:Ends} {K:W.Frag}
theorem QM {ns:List Int} (e:SqL K H a (ns.map V.int)) (h:Q (.int ns.sum) H):K3 K [.ref a] H Q:=⟨a,ns,rfl,e,h⟩
theorem QQ (h:Q (.int (if j<i then j else i)) H):jl [.int i, .int j] H Q:=⟨i,j,rfl,h⟩
theorem fD {l:Addr} {y:V} (e:H l=some (.lst xs)) (n:xs.length<=1000000) (h:Q .non (upd H l (.lst (xs++[y])))):cu (.ref l) [y] H Q:=⟨l,xs,y,rfl,rfl,e,Yb n (by decide),h⟩
theorem Bt {l:Addr} {R:Hp->Prop} (j:Nat) (e:H l=some (.lst xs)) (ej:k=(j:Int)) (hj:j<xs.length) (h:R (upd H l (.lst (xs.set j v)))):vL (.ref l) (.int k) v H R:=by
 refine ⟨l,xs,k,j,rfl,rfl,e,?_,h⟩;subst ej;unfold Ij;rw [if_pos (by rfl'),if_pos (by rfl')];simp
end
mutual
theorem eqv_refl: ∀d:PyData,d.canLay0=true->PyData.eqv d d=true
 | .none,_=>by simp [PyData.eqv]
 | .bool b,_=>by simp [PyData.eqv]
 | .int i,_=>by simp [PyData.eqv]
 | .str x,_=>by simp [PyData.eqv]
 | .list xs,h=>by
  simp only [PyData.eqv];exact eqvAll_refl xs (by simpa only [PyData.canLay0] using h)
 | .tuple xs,h=>by
  simp only [PyData.eqv];exact eqvAll_refl xs (by simpa only [PyData.canLay0] using h)
 | .dict kvs,h=>by simp [PyData.canLay0] at h
theorem eqvAll_refl: ∀ds:List PyData,PyData.canLayAll0 ds=true->PyData.eqvAll ds ds=true
 | [],_=>by simp [PyData.eqvAll]
 | d::r,h=>by
  simp only [PyData.canLayAll0,Xo] at h;simp only [PyData.eqvAll,eqv_refl d h.1,eqvAll_refl r h.2,Bool.and_self]
end
def Sh (n:Nat) (d:PyData):Prop:=d.canLay0=true/\d.depth<=n
theorem ux {n:Nat}: ∀ {ds:List PyData},(∀d∈ds,Sh n d)->PyData.canLayAll0 ds=true/\PyData.depthAll ds<=n
 | [],_=>⟨by simp [PyData.canLayAll0],by simp [PyData.depthAll]⟩
 | d::r,h=>by
  obtain ⟨h1,h2⟩:=h d Zs;obtain ⟨h3,h4⟩:=ux (ds:=r) λ e he=>h e (Zv _ he)
  exact ⟨by simp [PyData.canLayAll0,h1,h3],by simp only [PyData.depthAll];rfl'⟩
theorem pN {ds:List PyData} (h: ∀d∈ds,Sh n d):Sh (n+1) (.list ds):=by
 obtain ⟨h1,h2⟩:=ux h;exact ⟨by simp only [PyData.canLay0];exact h1,by simp only [PyData.depth];rfl'⟩
theorem fc {ds:List PyData} (h: ∀d∈ds,Sh n d):Sh (n+1) (.tuple ds):=by
 obtain ⟨h1,h2⟩:=ux h;exact ⟨by simp only [PyData.canLay0];exact h1,by simp only [PyData.depth];rfl'⟩
theorem dI (n:Nat) (i:Int):Sh n (.int i):=⟨by simp [PyData.canLay0],by simp [PyData.depth]⟩
theorem Sh.shaped (h:Sh n d) (hn:n<=64):SeqAt.shaped d=true:=by
 unfold SeqAt.shaped;rw [h.1,Yj (Yg h.2 hn)];rfl
section
variable {H:Hp} {Q:VK} {K:W.Frag} {x y:V} {d:PyData} {n:Nat}
theorem rEqD.nil {a p:Addr} {ds:List PyData} (h1:Dp K H (.ref a) (.list ds)) (hs:Sh n (.list ds)) (hn:n<=64) (hp:SqL K H p []) (q:Q (.bl (decide (ds=[]))) H):rEqD K (.ref a) (.ref p) H Q:=by
 have s2:Sh 1 (.list []):=pN (λ d hd=>by cases hd);refine ⟨_, .list [],h1, .lst hp .nil,hs.shaped hn,s2.shaped (by decide),?_⟩
 cases ds with
 | nil=>rw [eqv_refl _ s2.1];exact q
 | cons z r=>exact q
structure RefF (K:W.Frag) (C B:Addr) (ds es:List Addr):Prop where
 ex:ExcK K C
 em:PySem.W.exmOne K (.ref C) (.ref C)=some true
 kb:PySem.W.kitOne K (.ref C) (.ref B)=some true
 kv:PySem.W.kitOne K (.ref C) (.type "ValueError")=some true
 k1:PySem.W.kitAny K (.ref C) (ds.map Value.ref)=some false
 k2:PySem.W.kitAny K (.ref C) (es.map Value.ref)=some false
theorem rR (e:SqL K H a xs) (h: ∀p,H p=none->Q (.ref p) (upd H p (.lst (dU xs lo hi)))):qy K (.ref a) lo hi H Q:=⟨a,xs,rfl,e,h⟩
end
theorem Sb.off {ps:List Addr} (e:Sb ps H H') (hp: ∀p∈ps,H p=none):Same H H':=λ b o q=>e.at hp q
def W5 (K:W.Frag) (H:Hp) (q:Addr) (ss:List (Int×Int)):Prop:= ∃zs:List (Addr×Int×Int),zs.map (·.2)=ss/\SqL K H q (zs.map λ z=>V.ref z.1)/\ ∀z∈zs,SqT K H z.1 [.int z.2.1, .int z.2.2]
theorem jq {t:TS} {D:Ends} {Z:St} (J:St->Hp->Prop) (h2: ∀Z' H',J Z' H'->u D Z' H') (h1: ∀N:St->Hp->Prop,(∀Z' H',J Z' H'->N Z' H')->t { D with nx:=N } Z H):aG t u D Z H:=h1 _ h2
def tx (cs:List Nat):Str:=⟨cs.toArray⟩
theorem Lw (a b:List Nat):tx a++tx b=tx (a++b):=by
 show (⟨a.toArray++b.toArray⟩:Str)=⟨(a++b).toArray⟩;simp
theorem gf (cs:List Nat):(tx cs).length=cs.length:=by show cs.toArray.size=_;simp
theorem uy (cs:List Nat):(tx cs).cps.toList=cs:=rfl
theorem Lx {a b:List Nat}:tx a=tx b↔a=b:=by
 constructor
 .intro h;have:=Yt (λ s:Str=>s.cps.toList) h;simpa [tx] using this
 .intro h;rw [h]
theorem QR {j:Nat} (h:j<=cs.length):Txt.slice (tx cs) none (some (j:Int))=tx (cs.take j):=by
 have:=beq_iff_eq.mp (PyProof.Rows.slice_closes_to (x:=tx cs) (j:=(j:Int)) ⟨by rfl',by rw [uy];rfl'⟩);rw [this];simp [tx]
theorem Hd {j:Nat} (h:j<=cs.length):Txt.slice (tx cs) (some (j:Int)) none=tx (cs.drop j):=by
 have:=beq_iff_eq.mp (PyProof.Rows.slice_closes_from (x:=tx cs) (i:=(j:Int)) ⟨by rfl',by rw [uy];rfl'⟩);rw [this,uy];show tx _=tx _;rw [Yh,Xb (by rw [Yx];rfl')]
section
variable {Z:St} {H:Hp} {Q:VK} {D:Ends} {K:W.Frag} {g:TG} {κ:List (Option Nat)} {tc:TT} {te:TE}
theorem IV {s:Str} (e:s.length<=1000000) (h:Q (.str (Txt.slice s lo hi)) H):FJ (.str s) lo hi H Q:=⟨s,rfl,Yg e (by decide),h⟩
def iE (K:W.Frag) (R:It->Hp->Prop) (vs:List V) (H:Hp):Prop:= ∃a xs,vs=[.ref a]/\SqL K H a xs/\R (TX K a) H
theorem Hf {ta:TA} {R:It->Hp->Prop} (h:ta Z H (iE K R)):vU K ta Z H R:=h
end
theorem Ly (n:Nat) (h: ∀c∈cs,c<1114112):Sh n (.str (tx cs)):=by
 refine ⟨?_,by simp [PyData.depth]⟩;simp only [PyData.canLay0,PyData.strOk];show cs.toArray.all _=true;simp;exact h
theorem Hg {α:Type} {xs:List α} (h0:0<=i) (h1:i<xs.length): ∃v,v∈xs/\xm xs i=some v:=⟨_,Yy (by rfl'),KY h0 (by rfl')⟩
section
variable {Z:St} {H:Hp} {Q:VK} {D:Ends} {K:W.Frag} {g:TG} {tb:TS}
def iD (R:It->Hp->Prop):V->Hp->Prop:=λ x H1=> ∃a kvs,x= .ref a/\H1 a=some (.dT kvs)/\ ∀od,R (V9 od a) (upd H1 a (.frz od (.dT kvs)))
theorem LC (h:tv Z H λ v H1=>td Z H1 λ x H2=>ty Z H2 λ y H3=> ∃a H4,x= .ref a/\SPut H3 a y v H4/\D.nx Z H4):rH td ty tv D Z H:=h
theorem LK (h:tv Z H λ v H1=>td Z H1 λ x H2=>ty Z H2 λ y H3=> ∃a H4,x= .ref a/\DPut H3 a y v H4/\D.nx Z H4):mX td ty tv D Z H:=h
theorem LQ (h:td Z H λ x H1=>ty Z H1 λ y H2=> ∃a v,x= .ref a/\DGet H2 a y (some v)/\Q v H2):gn td ty Z H Q:=h
theorem Bu {l b:Addr} {zs:List V} (e1:H l=some (.lst xs)) (e2:H b=some (.lst zs)) (hn:xs.length+zs.length<=1000000) (h:Q .non (upd H l (.lst (xs++zs)))):oK (.ref l) [.ref b] H Q:=⟨l,b,xs,zs,rfl,rfl,e1,e2,Yg hn (by decide),h⟩
def W6 (H:Hp) (zs:List (Addr×Int×Int)):Prop:= ∀z∈zs,H z.1=some (.tup [.int z.2.1, .int z.2.2])
end
section
variable {Z:St} {H:Hp} {Q:VK} {D:Ends} {K:W.Frag}
theorem Ur (h:te Z H λ x H'=> ∃k,x= .bl k/\R k H'):tB te Z H R:=h
theorem QS (h:Q (.bl (decide (x= .non))) H):zK x .non H Q:=⟨rfl,h⟩
theorem gh (e:SqL K H p ys) (h: ∀l,H l=none->Q (.ref l) (upd H l (.tup ys))):cU K [.ref p] H Q:=⟨p,ys,rfl, .inl ⟨e,h⟩⟩
theorem yg (e:SqT K H p ys) (h: ∀l,H l=none->Q (.ref l) (upd H l (.lst ys))):oW K [.ref p] H Q:=⟨p,ys,rfl, .inr e,h⟩
theorem QT (h:ty Z H λ y H1=>td Z H1 λ x H2=> ∃a o,x= .ref a/\SGet H2 a y o/\Q (.bl o.isSome) H2):Kv ty td Z H Q:=h
theorem Bv (h:ty Z H λ y H1=>td Z H1 λ x H2=> ∃a o,x= .ref a/\SGet H2 a y o/\Q (.bl (!o.isSome)) H2):jT ty td Z H Q:=h
theorem LR (h:td Z H λ x H1=>ty Z H1 λ y H2=> ∃a v,x= .ref a/\SGet H2 a y (some v)/\Q v H2):jb td ty Z H Q:=h
theorem M3 (h: ∀p,H p=none->Q (.ref p) (upd H p (bA p []))):rG Z H Q:=h
theorem QV (h:ty Z H λ y H1=>td Z H1 λ x H2=> ∃a o,x= .ref a/\DGet H2 a y o/\Q (.bl o.isSome) H2):Ff ty td Z H Q:=h
theorem Bw (h:ty Z H λ y H1=>td Z H1 λ x H2=> ∃a o,x= .ref a/\DGet H2 a y o/\Q (.bl (!o.isSome)) H2):jN ty td Z H Q:=h
theorem Hh (e:SqL K H p xs\/SqT K H p xs) (hx:dN x=true) (ha:xs.all dN=true) (h:Q (.bl (inV x xs)) H):yt K false x (.ref p) H Q:=⟨p,xs,rfl,e,hx,ha,h⟩
theorem wB (e:SqL K H p xs\/SqT K H p xs) (hx:dN x=true) (ha:xs.all dN=true) (h:Q (.bl (!inV x xs)) H):yt K true x (.ref p) H Q:=⟨p,xs,rfl,e,hx,ha,h⟩
theorem Hi {ns:List Int} (hx:SqL K H a (ns.map V.int)) (h64:ns.length<64) (h: ∀r (ns':List Int),ns'.Perm ns->ns'.Pairwise (· <= ·)->H r=none->Q (.ref r) (upd H r (.lst (ns'.map V.int)))):oY K [.ref a] H Q:=⟨a,ns,rfl,hx,h64,h⟩
end
theorem Hj (s:Str) (ns:List Str):inV (.str s) (ns.map V.str)=decide (s∈ns):=by
 unfold inV;rw [List.any_map];induction ns with
 | nil=>simp
 | cons n r ih=>
  rw [List.any_cons,ih];by_cases h:n=s
  .subst h;simp [yr]
  .simp [yr,h,Ne.symm h]
theorem yh (ns:List Str):(ns.map V.str).all dN=true:=by
 rw [List.all_map];simp [Function.comp_def,dN]
def ov:Option Int->V
 | none=> .non
 | some i=> .int i
def DrT (K:W.Frag) (H:Hp) (a:Addr) (ps:List (Str×Int)):Prop:= ∃zs:List (Addr×Str×Int),zs.map (·.2)=ps/\H a=some (.tup (zs.map λ z=>V.ref z.1))/\ ∀z∈zs,H z.1=some (.tup [.str z.2.1, .int z.2.2])
theorem DrT.same {K:W.Frag} {ps:List (Str×Int)} (h:DrT K H a ps) (s:Same H H'):DrT K H' a ps:=by
 obtain ⟨zs,e,h1,h2⟩:=h;exact ⟨zs,e,s.get h1,λ z hz=>s.get (h2 z hz)⟩
def HsT (K:W.Frag) (H:Hp) (a:Addr) (ds:List (List (Str×Int))) (es:List Int):Prop:= ∃ (d e:Addr) (rs:List (Addr×List (Str×Int))),H a=some (.tup [.ref d, .ref e])/\rs.map (·.2)=ds/\H d=some (.tup (rs.map λ r=>V.ref r.1))/\(∀r∈rs,DrT K H r.1 r.2)/\H e=some (.tup (es.map V.int))
theorem HsT.same {K:W.Frag} (h:HsT K H a ds es) (s:Same H H'):HsT K H' a ds es:=by
 obtain ⟨d,e,rs,h1,h2,h3,h4,h5⟩:=h;exact ⟨d,e,rs,s.get h1,h2,s.get h3,λ r hr=>(h4 r hr).same s,s.get h5⟩
def DrG (K:W.Frag) (H:Hp) (a:Addr) (ps:List (Str×Int)):Prop:= ∃zs:List (Addr×Str×Int),zs.map (·.2)=ps/\SqT K H a (zs.map λ z=>V.ref z.1)/\ ∀z∈zs,H z.1=some (.tup [.str z.2.1, .int z.2.2])
theorem DrT.g {K:W.Frag} {ps:List (Str×Int)} (h:DrT K H a ps):DrG K H a ps:=by
 obtain ⟨zs,e,h1,h2⟩:=h;exact ⟨zs,e,SqT.of h1,h2⟩
theorem DrG.same {K:W.Frag} {ps:List (Str×Int)} (h:DrG K H a ps) (s:Same H H'):DrG K H' a ps:=by
 obtain ⟨zs,e,h1,h2⟩:=h;exact ⟨zs,e,s.tup h1,λ z hz=>s.get (h2 z hz)⟩
def HsG (K:W.Frag) (H:Hp) (a:Addr) (ds:List (List (Str×Int))) (es:List Int):Prop:= ∃ (d e:Addr) (rs:List (Addr×List (Str×Int))),H a=some (.tup [.ref d, .ref e])/\rs.map (·.2)=ds/\SqT K H d (rs.map λ r=>V.ref r.1)/\(∀r∈rs,DrG K H r.1 r.2)/\H e=some (.tup (es.map V.int))
theorem HsT.g {K:W.Frag} (h:HsT K H a ds es):HsG K H a ds es:=by
 obtain ⟨d,e,rs,h1,h2,h3,h4,h5⟩:=h;exact ⟨d,e,rs,h1,h2,SqT.of h3,λ r hr=>(h4 r hr).g,h5⟩
theorem HsG.same {K:W.Frag} (h:HsG K H a ds es) (s:Same H H'):HsG K H' a ds es:=by
 obtain ⟨d,e,rs,h1,h2,h3,h4,h5⟩:=h;exact ⟨d,e,rs,s.get h1,h2,s.tup h3,λ r hr=>(h4 r hr).same s,s.get h5⟩
theorem Dp.intsT {K:W.Frag} (h:SqT K H a (es.map V.int)):Dp K H (.ref a) (.tuple (es.map PyData.int)):= .tup h (DpAll.ints es)
def hsD (ds:List (List (Str×Int))) (es:List Int):PyData:= .tuple [.tuple (ds.map λ ps=> .tuple (ps.map λ s=> .tuple [.str s.1, .int s.2])), .tuple (es.map PyData.int)]
end L2
namespace Hs
open PySem L2
def dr (ps:List (Str×Int)) (s:Str):Option Int:=(ps.find? λ p=>decide (p.1=s)).map (·.2)
def stp (ds:List (List (Str×Int))) (o:Option Int) (s:Str):Option Int:=o.bind λ r=>dr (ds.getD r.toNat []) s
def go (ds:List (List (Str×Int))) (cs:List Nat):Option Int:=cs.foldl (λ o c=>stp ds o (tx [c])) (some 0)
structure Wf (ds:List (List (Str×Int))):Prop where
 pos:0<ds.length
 rm: ∀ps∈ds,∀p∈ps,0<=p.2/\p.2<ds.length
def Hk:Str:=Str.ofString " !\"#$&'()*+,-./0123456789:;<=>?@ABCDEFGHIJKLMNOPQRSTUVWXYZ[\\]^_`"++Str.ofString "abcdefghijklmnopqrstuvwxyz{|}~"
def T7 (n:Int):Nat:=Hk.cps.toList.getD (n%94).toNat 0
def Sg (s:Str):Prop:= ∃n:Int,s=tx [T7 n]
def Vo (many i:Nat) (r:List (Addr×Str×Int)):Prop:=(r.map (·.2.1)).Nodup/\r.length<=i/\ ∀z∈r,Sg z.2.1/\0<=z.2.2/\z.2.2<many
end Hs
namespace L2
open PySem
variable {H:Hp} {j:Nat} {a:Addr} {zs:List (Addr×Str×List V)}
abbrev Dz:=Addr×Str×Int
variable {rows:List (Addr×List Dz)}
def Rws (H:Hp) (rows:List (Addr×List Dz)):Prop:=(rows.map (·.1)).Nodup/\ ∀row∈rows,H row.1=some (.lst (row.2.map λ z:Dz=>V.ref z.1))/\ ∀z∈row.2,H z.1=some (.tup [.str z.2.1, .int z.2.2])
theorem Rws.same {H':Hp} (h:Rws H rows) (s:Same H H'):Rws H' rows:=⟨h.1,λ row hr=>⟨s.get (h.2 row hr).1,λ z hz=>s.get ((h.2 row hr).2 z hz)⟩⟩
theorem Rws.setO {l:Addr} {xs ys:List V} (h:Rws H rows) (e:H l=some (.lst xs)) (n:l∉rows.map (·.1)):Rws (upd H l (.lst ys)) rows:=⟨h.1,λ row hr=>⟨by
 rw [au (λ q:row.1=l=>n (q▸Zb.mpr ⟨row,hr,rfl⟩))];exact (h.2 row hr).1,λ z hz=>by
 rw [au (bx ((h.2 row hr).2 z hz) e (by intro q;cases q))];exact (h.2 row hr).2 z hz⟩⟩
theorem wC (hj:j<rows.length) (ys:List Dz):(rows.set j (rows[j].1,ys)).map (·.1)=rows.map (·.1):=by
 apply List.ext_getElem?;intro k;rw [Zj,Zj,List.getElem?_set];by_cases e:j=k
 .subst e;rw [if_pos rfl,if_pos hj,Zd hj];rfl
 .rw [if_neg e]
theorem Rws.app {t:Addr} {s:Str} {r:Int} (h:Rws H rows) (hj:j<rows.length) (ht:H t=some (.tup [.str s, .int r])):
  Rws (upd H rows[j].1 (.lst ((rows[j].2++[(t,s,r)]).map λ z:Dz=>V.ref z.1))) (rows.set j (rows[j].1,rows[j].2++[(t,s,r)])):=by
 refine ⟨by rw [wC hj];exact h.1,λ row hr=> ?_⟩;have hjm:rows[j]∈rows:=Yy hj;have hl:=(h.2 _ hjm).1;rcases List.mem_or_eq_of_mem_set hr with m | rfl
 .obtain ⟨k,hk,e⟩:=List.mem_iff_getElem.mp hr;rw [List.getElem_set] at e;by_cases q:j=k
  .rw [if_pos q] at e;subst e;refine ⟨aa,λ z hz=> ?_⟩;rcases Zi.mp hz with w | w
   .rw [au (bx ((h.2 _ hjm).2 z w) hl (by intro q;cases q))];exact (h.2 _ hjm).2 z w
   .rw [Za.mp w];rw [au (bx ht hl (by intro q;cases q))];exact ht
  .rw [if_neg q] at e;subst e;rw [List.length_set] at hk;have na:rows[k].1≠rows[j].1:=by
    intro z;have:=(List.getElem_inj (h₀:=by simpa using hk) (h₁:=by simpa using hj) h.1).mp (by rw [List.getElem_map,List.getElem_map];exact z);exact q this.symm
   have hkm:rows[k]∈rows:=Yy hk;refine ⟨by rw [au na];exact (h.2 _ hkm).1,λ z hz=> ?_⟩;rw [au (bx ((h.2 _ hkm).2 z hz) hl (by intro q;cases q))];exact (h.2 _ hkm).2 z hz
 .refine ⟨aa,λ z hz=> ?_⟩;rcases Zi.mp hz with w | w
  .rw [au (bx ((h.2 _ hjm).2 z w) hl (by intro q;cases q))];exact (h.2 _ hjm).2 z w
  .rw [Za.mp w];rw [au (bx ht hl (by intro q;cases q))];exact ht
section
variable {Z:St} {H:Hp} {Q:VK} {g:TG} {κ:List (Option Nat)} {te:TE} {K:W.Frag}
theorem M4 {n:Int} (m:Nat) (e:n.toNat=m) (hm:m<=1000000) (hn: -1000000000<=n)
  (hs: ∀ (i:Nat) H',i<m-> ∀ (A:VK),(∀p,H' p=none->A (.ref p) (upd H' p (.lst [])))->g (.int (i:Int)) (cap κ Z) H' λ Z2 H2=>oR (cap κ Z) Z2/\te Z2 H2 A)
  (hd: ∀p H' (as:List Addr),Same H H'->H p=none->as.length=m->as.Nodup->p∉as->(∀a∈as,H a=none/\H' a=some (.lst []))->H' p=some (.lst (as.map V.ref))->Q (.ref p) H'):iR (GJ κ g eZ te Z Q) [.int n] H:=by
 refine Ln m e hm hn (λ i ys H'=> ∃as:List Addr,ys=as.map V.ref/\as.length=i/\as.Nodup/\Same H H'/\ ∀a∈as,H a=none/\H' a=some (.lst [])) ⟨[],rfl,rfl,List.nodup_nil,Same.refl H,by simp⟩ ?_ ?_ ?_
 .rintro i ys H' ⟨as,rfl,rfl,_⟩;simp
 .rintro i ys H' hi ⟨as,rfl,rfl,nd,sH,ha⟩;have q:=hs as.length H' hi (λ y H4=> ∃as2:List Addr,as.map V.ref++[y]=as2.map V.ref/\as2.length=as.length+1/\as2.Nodup/\Same H H4/\ ∀a∈as2,H a=none/\H4 a=some (.lst [])) λ p hp=>by
   refine ⟨as++[p],by simp,by simp,?_,sH.new hp,λ a m=> ?_⟩
   .rw [Xc];refine ⟨nd,by simp,λ a m b mb e=> ?_⟩;rw [Za.mp mb] at e;subst e;rw [(ha a m).2] at hp;cases hp
   .rcases Zi.mp m with m | m
    .exact ⟨(ha a m).1,aA hp (ha a m).2⟩
    .rw [Za.mp m];exact ⟨sH.free hp,aa⟩
  simpa only [eZ,if_true] using q
 .rintro ys H' ⟨as,rfl,el,nd,sH,ha⟩ p hp;refine hd p _ as (sH.new hp) (sH.free hp) el nd (λ m=> ?_) (λ a m=>⟨(ha a m).1,aA hp (ha a m).2⟩) aa;rw [(ha p m).2] at hp;cases hp
theorem pO {α β:Type} {g:α->β} {l out:List β} (h:l.Perm out): ∀ {zs:List α},l=zs.map g-> ∃ws:List α,ws.Perm zs/\out=ws.map g:=by
 induction h with
 | nil=>intro zs e;exact ⟨zs, .refl _,e⟩
 | cons x _ ih=>
  intro zs e
  cases zs with
  | nil=>cases e
  | cons z zs=>
   rw [Zl] at e;injection e with e1 e2
   obtain ⟨ws,p,q⟩:=ih e2;exact ⟨z::ws,p.cons z,by rw [Zl,q,e1]⟩
 | swap x y l=>
  intro zs e
  match zs,e with
  | z1::z2::r,e=>
   rw [Zl,Zl] at e;injection e with e1 e2
   injection e2 with e2 e3
   exact ⟨z2::z1::r, .swap _ _ _,by rw [Zl,Zl,e1,e2,e3]⟩
 | trans _ _ ih1 ih2=>
  intro zs e;obtain ⟨ws,p,q⟩:=ih1 e;obtain ⟨us,p',q'⟩:=ih2 q;exact ⟨us,p'.trans p,q'⟩
theorem jD {α β:Type} {g:α->β} {ws:List β} {zs:List α} (h:ws.Perm (zs.map g)): ∃vs:List α,vs.Perm zs/\ws=vs.map g:=pO h.symm rfl
theorem rT (hx:SqL K H a (zs.map λ z=>V.ref z.1)) (hz: ∀z∈zs,SqT K H z.1 (.str z.2.1::z.2.2)) (hd:(zs.map (·.2.1)).Nodup) (h64:zs.length<100000)
  (h: ∀r (ws:List (Addr×Str×List V)),ws.Perm zs->(ws.map (·.2.1)).Pairwise (λ a b=>a.cps.toList<b.cps.toList)->H r=none->Q (.ref r) (upd H r (.lst (ws.map λ z=>V.ref z.1)))):fY K [.ref a] H Q:=⟨a,zs,rfl,hx,hz,hd,h64,h⟩
theorem rY {zs:List Dz} (hx:SqL K H a (zs.map λ z=>V.ref z.1)) (hz: ∀z∈zs,SqT K H z.1 [.str z.2.1, .int z.2.2]) (hd:(zs.map (·.2.1)).Nodup) (h64:zs.length<100000)
  (h: ∀r (ws:List Dz),ws.Perm zs->(ws.map (·.2.1)).Pairwise (λ a b=>a.cps.toList<b.cps.toList)->H r=none->Q (.ref r) (upd H r (.lst (ws.map λ z=>V.ref z.1)))):fY K [.ref a] H Q:=by
 refine rT (zs:=zs.map λ z:Dz=>(z.1,z.2.1,[V.int z.2.2])) (by rw [Zq];exact hx) (λ z m=> ?_) (by rw [Zq];exact hd) (by rw [Qr];exact h64) λ r ws hp hs hr=> ?_
 .obtain ⟨y,my,rfl⟩:=Zb.mp m;exact hz y my
 .obtain ⟨vs,pv,rfl⟩:=jD hp;rw [Zq] at hs;have:=h r vs pv hs hr;rw [Zq];exact this
end
end L2
namespace Hs
theorem M5 (n:Int):T7 n<1114112:=by
 unfold T7;have h: ∀c∈Hk.cps.toList,c<1114112:=by ac_nf
 rw [Zn]
 cases e:Hk.cps.toList[(n%94).toNat]? with
 | none=>decide
 | some c=>exact h c (Ze e)
end Hs
namespace L2
open PySem
variable {H:Hp} {a:Addr} {ht:Nat}
abbrev Lz:=Addr×Str×Addr×List Nat
abbrev nv (xs:List Nat):List V:=xs.map λ i:Nat=>V.int (i:Int)
def Vp (K:W.Frag) (H:Hp) (a:Addr) (ht:Nat) (ls:List (Str×List Nat)):Prop:= ∃ (l:Addr) (zs:List Lz),H a=some (.tup [.int (ht:Int), .ref l])/\zs.map (λ z:Lz=>(z.2.1,z.2.2.2))=ls/\SqT K H l (zs.map λ z:Lz=>V.ref z.1)/\ ∀z∈zs,H z.1=some (.tup [.str z.2.1, .ref z.2.2.1])/\H z.2.2.1=some (.tup (nv z.2.2.2))
def FnF (K:W.Frag) (H:Hp) (a:Addr) (ht:Nat) (ls:List (Str×List Nat)):Prop:= ∃ (l:Addr) (ob:PySem.Obj) (zs:List Lz),H a=some (.tup [.int (ht:Int), .ref l])/\zs.map (λ z:Lz=>(z.2.1,z.2.2.2))=ls/\ob.dict=none/\H l=some (.frz ob (.tup (zs.map λ z:Lz=>V.ref z.1)))/\ ∀z∈zs,H z.1=some (.tup [.str z.2.1, .ref z.2.2.1])/\H z.2.2.1=some (.tup (nv z.2.2.2))
theorem FnF.same {K:W.Frag} {H':Hp} {ls:List (Str×List Nat)} (h:FnF K H a ht ls) (s:Same H H'):FnF K H' a ht ls:=by
 obtain ⟨l,ob,zs,h1,h2,h5,h3,h4⟩:=h;exact ⟨l,ob,zs,s.get h1,h2,h5,s.get h3,λ z hz=>⟨s.get (h4 z hz).1,s.get (h4 z hz).2⟩⟩
theorem FnF.t {K:W.Frag} {ls:List (Str×List Nat)} (h:FnF K H a ht ls):Vp K H a ht ls:=by
 obtain ⟨l,ob,zs,h1,h2,h5,h3,h4⟩:=h;exact ⟨l,zs,h1,h2, .inl (.inr ⟨ob,h3⟩),h4⟩
end L2
namespace Fo
open PySem L2
def lk (ls:List (Str×List Nat)) (s:Str):Option (List Nat):=(ls.find? λ p=>decide (p.1=s)).map (·.2)
theorem jf (p:Str×List Nat) (r:List (Str×List Nat)) (s:Str):lk (p::r) s=if p.1=s then some p.2 else lk r s:=by
 unfold lk;by_cases h:p.1=s
 .simp [h]
 .simp [h]
theorem jr {s:Str} {c:List Nat}: ∀ {ls:List (Str×List Nat)},lk ls s=some c->(s,c)∈ls
 | [],h=>by cases h
 | p::ps,h=>by
  rw [jf] at h;by_cases e:p.1=s
  .rw [if_pos e] at h
   cases h;rw [<- e];exact Zs
  .rw [if_neg e] at h;exact Zv _ (jr h)
theorem uz {s:Str}: ∀ {ls:List (Str×List Nat)},s∈ls.map (·.1)-> ∃c,lk ls s=some c
 | p::ps,h=>by
  rw [jf];by_cases e:p.1=s
  .exact ⟨_,if_pos e⟩
  .rw [if_neg e];rcases Zm.mp h with h | h
   .exact absurd h.symm e
   .exact uz h
def cl (ls:List (Str×List Nat)) (c:Nat):List Nat:=(lk ls (tx [c])).getD []
structure Wf (ht:Nat) (ls:List (Str×List Nat)):Prop where
 pos:0<ls.length
 le:ls.length<=40
 up:(ls.map (·.1)).Pairwise K7
 sg: ∀p∈ls,Hs.Sg p.1
 c1: ∀p∈ls,1<=p.2.length/\p.2.length<=8
 cb: ∀p∈ls,∀x∈p.2,x<2^ht
end Fo
namespace L2
open PySem
variable {i:Int} {a:Addr} {k n:Nat} {ys:List V} {z:Str×Int} {co:List Nat} {ob:PySem.Obj} {zs:List (Addr×Str×V)} {kvs:List (List Key×V)}
abbrev Kz:=Str×Addr×List Nat
def VH (kvs:List Kz):List (Key×V):=kvs.map λ p:Kz=>(Sum.inr p.1,V.ref p.2.1)
section
variable {Z:St} {H:Hp} {Q:VK} {D:Ends} {K:W.Frag} {g:TG} {κ:List (Option Nat)} {tc:TT} {te:TE}
theorem M6 {p:Addr} (e:SqL K H p ys) (h: ∀l (ob:PySem.Obj),ob.dict=none->H l=none->Q (.ref l) (upd H l (.frz ob (.tup ys)))):vV K [.ref p] H Q:=⟨p,ys,rfl,e,h⟩
theorem lK (h0:ob.dict=none) (h1:H a=some (.frz ob (.tup (zs.map λ z=>V.ref z.1)))) (h2: ∀z∈zs,SqT K H z.1 [.str z.2.1,z.2.2]) (h3:(zs.map (·.2.1)).Nodup) (h4:zs.length<=1000) (h: ∀r,H r=none->Q (.ref r) (upd H r (.dK (zs.map λ z=>(Sum.inr z.2.1,z.2.2))))):gW K [.ref a] H Q:=⟨a,ob,zs,rfl,h0,h1,h2,h3,h4,h⟩
theorem By {j:Int} {m:Nat} (hi:PySem.Builtin.Int.intBits i<=m) (hj:PySem.Builtin.Int.intBits j<=n) (h:m+n<=134217728) (q:Q (.int (i*j)) H):p7 (.int i) (.int j) H Q:=⟨i,j,rfl,rfl,PyProof.Rows.mulOk_of_bits hi hj h,q⟩
theorem wD (hk:k<9000) (q:Q (.int (i / 2^k)) H):jR (.int i) (.int (1*2^(k:Int).toNat)) H Q:=by
 rw [Int.one_mul,Yh];refine ⟨_,_,rfl,rfl,⟨Int.pow_pos (by decide),?_⟩,q⟩;rw [Int.natAbs_pow,show (2:Int).natAbs=2 from rfl,Nat.log2_two_pow];exact hk
theorem uA {i:Nat} (h:i<=1000000):PySem.Builtin.Int.intBits ((i:Nat):Int)<=2^20:=PySem.intBits_le_iff.mpr (by
 rw [Int.natAbs_natCast];exact Yc (Yb h (by decide:1000000<2^20)) (Nat.pow_le_pow_right (by decide) (by decide)))
theorem rZ (hk:0<k) (h:PySem.Builtin.Int.intBits i<=n):PySem.Builtin.Int.intBits (i / (k:Int))<=n:=by
 refine PyProof.Rows.bits_of_natAbs_le ?_ h;have h1:=Int.mul_ediv_add_emod i k;have h2:=Int.emod_nonneg i (show (k:Int)≠0 by rfl');have h3:=Int.emod_lt_of_pos i (show 0<(k:Int) by rfl');generalize i / (k:Int)=q at h1 ⊢;generalize i%(k:Int)=r at*;rcases (show q<0\/0<=q by rfl') with hq | hq
 .have:(k:Int)*q<=q:=by
   have:=Int.mul_le_mul_of_nonpos_right (show (1:Int)<=k by rfl') (Int.le_of_lt hq);rfl'
  have h4:(k:Int)*q<=(k:Int)*(-1):=Int.mul_le_mul_of_nonneg_left (by rfl') (by rfl');rcases (show (k:Int)*q+r<0\/0<=(k:Int)*q+r by rfl') with h5 | h5
  .by_cases h6:q= -1
   .rfl'
   .have h7:((k:Int)-1)*(q+1)<=0:=Int.mul_nonpos_of_nonneg_of_nonpos (by rfl') (by rfl');have h8:((k:Int)-1)*(q+1)=(k:Int)*q+k-q-1:=by
     rw [Int.sub_mul,Int.mul_add,Int.mul_one,Int.one_mul];rfl'
    rfl'
  .rfl'
 .have:q<=(k:Int)*q:=by
   have:=Int.mul_le_mul_of_nonneg_right (show (1:Int)<=k by rfl') hq;rfl'
  rfl'
end
section
variable {Z:St} {H:Hp} {D:Ends} {u:TS}
theorem M7 {te:TE} {g:TG} (h:aJ te g { D with nx:=u D } Z H):aG (aJ te g) u D Z H:=h
end
theorem lM {zs:List Lz} {s:Str} (h:Fo.lk (zs.map λ z:Lz=>(z.2.1,z.2.2.2)) s=some co): ∃z∈zs,z.2.2.2=co/\bF (zs.map λ z:Lz=>((Sum.inr z.2.1:Key),V.ref z.2.2.1)) (Sum.inr s)=some (.ref z.2.2.1):=by
 induction zs with
 | nil=>cases h
 | cons p r ih=>
  rw [Zl,Fo.jf] at h;by_cases e:p.2.1=s
  .rw [if_pos e] at h
   cases h;exact ⟨p,Zs,rfl,c7 (p:=(Sum.inr p.2.1,V.ref p.2.2.1)) (by rw [e])⟩
  .rw [if_neg e] at h;obtain ⟨q,m,e1,e2⟩:=ih h;exact ⟨q,Zv _ m,e1,(bQ (p:=((Sum.inr p.2.1:Key),V.ref p.2.2.1)) (λ z=>e (Sum.inr.inj z))).trans e2⟩
theorem uB (a:Str): ¬K7 a a:=List.lt_irrefl _
theorem lN {ns:List Str} (h:ns.Pairwise K7):ns.Nodup:=List.Pairwise.imp (S:=λ a b=>a≠b) (λ {a b} (z:K7 a b) (e:a=b)=>uB a (by rw [<- e] at z;exact z)) h
section
variable {Z:St} {H:Hp} {Q:VK} {D:Ends} {K:W.Frag} {g:TG} {κ:List (Option Nat)} {tc:TT} {te:TE}
theorem M8 {α:Type} (c:α->V) {zs:List α} (hx:SqT K H a (zs.map c)) (hn:zs.length<=1000000) (Pv:Nat->List V->Hp->Prop) (h0:Pv 0 [] H) (hl: ∀i ys H',Pv i ys H'->SqT K H' a (zs.map c)) (hz: ∀i ys H',Pv i ys H'->ys.length<=i)
  (hs: ∀ (i:Nat) z ys H',zs[i]? =some z->Pv i ys H'->g (c z) (cap κ Z) H' λ Z2 H2=>oR (cap κ Z) Z2/\tc Z2 H2 λ b H3=>if b=true then te Z2 H3 λ y H4=>Pv (i+1) (ys++[y]) H4 else Pv (i+1) ys H3)
  (hd: ∀ys H',Pv zs.length ys H'-> ∀p,H' p=none->Q (.ref p) (upd H' p (.lst ys))):iT K (GJ κ g tc te Z Q) (.ref a) H:=by
 refine ⟨a,rfl,⟨_,hx⟩,λ i m ys H'=>m=zs.length-i/\i<=zs.length/\Pv i ys H',⟨zs.length,by simp,Yz _,h0⟩,?_⟩;rintro i m ys H' ⟨rfl,hi,p⟩;have q:=hl i ys H' p;by_cases hlt:i<zs.length
 .have ex:zs[i]? =some zs[i]:=Zd hlt;refine .inr ⟨⟨_,c zs[i],q,by rw [Zj,ex];rfl⟩,?_,λ zs' H''=>Pv (i+1) zs' H'',λ zs' H'' p'=>⟨zs.length-(i+1),by rfl',rfl,hlt,p'⟩,λ x H'' y=> ?_⟩
  .exact Yb (hz i ys H' p) (Yc hlt (Yg hn (by decide)))
  .obtain ⟨e,y⟩:=y;subst e;have e1:=y _ q;rw [Zj,ex] at e1
   cases e1;exact hs i _ ys _ ex p
 .have e:i=zs.length:=by rfl'
  subst e;exact .inl ⟨⟨_,q,by simp⟩,λ p' hp=>hd ys H' p p' hp⟩
end
section
variable {Z:St} {H:Hp} {Q:VK} {D:Ends} {K:W.Frag}
theorem QW {bs:List Bool} (e:SqL K H a (bs.map V.bl)) (h:Q (.bl (bs.all id)) H):FQ K [.ref a] H Q:=⟨a,bs,rfl,e,h⟩
theorem M9 (e:H a=some (.dT kvs)) (h:Q (.int kvs.length) H):Ba [.ref a] H Q:=⟨a,kvs,rfl,e,h⟩
end
theorem gP {α:Type} {f:α->Key} {g:α->V} {zs:List α} {k:Key} (h:k∉zs.map f):bF (zs.map λ z=>(f z,g z)) k=none:=by
 induction zs with
 | nil=>rfl
 | cons z r ih=>
  rw [Zl] at h ⊢;rw [bQ (λ e=>h (by rw [<- e];exact Zs))];exact ih (λ m=>h (Zv _ m))
theorem IW {s:Str} (n:Nat) (h:Hs.Sg s):Sh n (.str s):=by
 obtain ⟨k,rfl⟩:=h;exact Ly n λ c hc=>by rw [Za.mp hc];exact Hs.M5 k
theorem Hl (h:Hs.Sg z.1):Sh 1 (.tuple [.str z.1, .int z.2]):=fc λ d hd=>by
 simp only [Zm,Yq,Xz] at hd;rcases hd with rfl | rfl
 .exact IW 0 h
 .exact dI 0 _
def W7 (K:W.Frag) (H:Hp) (a:Addr) (ht:Nat) (ls:List (Str×List Nat)):Prop:= ∃ (l:Addr) (zs:List Lz),H a=some (.tup [.int (ht:Int), .ref l])/\zs.map (λ z:Lz=>(z.2.1,z.2.2.2))=ls/\H l=some (.tup (zs.map λ z:Lz=>V.ref z.1))/\ ∀z∈zs,H z.1=some (.tup [.str z.2.1, .ref z.2.2.1])/\H z.2.2.1=some (.tup (nv z.2.2.2))
def W8 (ht:Nat) (ls:List (Str×List Nat)):PyData:= .tuple [.int (ht:Int), .tuple (ls.map λ p=> .tuple [.str p.1, .tuple ((p.2.map λ i:Nat=>(i:Int)).map PyData.int)])]
def W9 (H:Hp) (p:Addr) (zs:List Lz):Prop:=H p=some (.lst (zs.map λ z:Lz=>V.ref z.1))/\ ∀z∈zs,H z.1=some (.tup [.str z.2.1, .ref z.2.2.1])/\H z.2.2.1=some (.lst (nv z.2.2.2))
def sU (ls:List (Str×List Nat)):PyData:= .list (ls.map λ p=> .tuple [.str p.1, .list ((p.2.map λ i:Nat=>(i:Int)).map PyData.int)])
end L2
namespace Fo
open PySem L2
structure GoodL (ht:Nat) (zs:List Lz):Prop where
 pos:1<=zs.length
 le:zs.length<=40
 nd:(zs.map λ z:Lz=>z.2.1).Nodup
 sg: ∀z∈zs,Hs.Sg z.2.1
 c1: ∀z∈zs,1<=z.2.2.2.length/\z.2.2.2.length<=8
 cb: ∀z∈zs,∀x∈z.2.2.2,x<2^ht
def Of (zs:List Lz) (ls:List (Str×List Nat)):Prop:=ls.Perm (zs.map λ z:Lz=>(z.2.1,z.2.2.2))/\(ls.map (·.1)).Pairwise K7
end Fo
namespace L2
open PySem
variable {H:Hp} {Q:VK} {Z:St} {k:Sk} {tb:TS} {v y:V} {a b:Addr} {xs:List V} {R:It->Hp->Prop} {hi lo:Option Int} {kvs:List (Addr×Sk×V)}
abbrev Gz:=Addr×V×Addr×List V
def Wa (H:Hp) (p:Addr) (gs:List Gz):Prop:=H p=some (.lst (gs.map λ g:Gz=>V.ref g.1))/\ ∀g∈gs,H g.1=some (.tup [g.2.1, .ref g.2.2.1])/\H g.2.2.1=some (.lst g.2.2.2)/\Thing H g.2.1/\(∀v∈g.2.2.2,Thing H v)/\g.2.2.2.length<=1000
def Wb (z:Lz):Gz:=(z.1,V.str z.2.1,z.2.2.1,nv z.2.2.2)
theorem BJ {c:Int} {n m:Nat} (h0:0<n) (e:c%(n:Int)=(m:Int)) (h:Q (.int (m:Int)) H):bN (.int c) (.int (n:Int)) H Q:=⟨c,n,rfl,rfl,by rfl',by show Q (.int (c%(n:Int))) H;rw [e];exact h⟩
section
variable {Z:St} {H:Hp} {Q:VK} {D:Ends} {K:W.Frag} {g:TG} {tb:TS} {κ:List (Option Nat)} {tc:TT} {te:TE}
def Wc (K:W.Frag) (R:It->Hp->Prop) (vs:List V) (H:Hp):Prop:= ∃a b xs ys,vs=[.ref a, .ref b]/\SqT K H a xs/\SqL K H b ys/\R (PK K a b) H
def Wd (R:It->Hp->Prop) (vs:List V) (H:Hp):Prop:= ∃i j:Int,vs=[.int i, .int j, .int (-1)]/\(-(2^62)<=i/\i<2^62/\ -(2^62)<=j/\j<2^62)/\R (PN i (i-j).toNat) H
def We (K:W.Frag) (R:It->Hp->Prop) (vs:List V) (H:Hp):Prop:= ∃a b xs ys,vs=[.ref a, .ref b]/\SqL K H a xs/\SqT K H b ys/\R (Qa K a b) H
def Wg (K:W.Frag) (R:It->Hp->Prop) (vs:List V) (H:Hp):Prop:= ∃a xs,vs=[.ref a]/\SqL K H a xs/\R (PX K a xs.length) H
def Wh (K:W.Frag) (R:It->Hp->Prop) (vs:List V) (H:Hp):Prop:= ∃a xs,vs=[.ref a]/\SqT K H a xs/\R (Q0 K a xs.length) H
end
theorem ar1 {α:Type} {P:List α->Prop} (h: ∀a0:α,P [a0]): ∀us:List α,us.length=1->P us
 | [a0],_=>h a0
theorem ar2 {α:Type} {P:List α->Prop} (h: ∀a0 a1:α,P [a0,a1]): ∀us:List α,us.length=2->P us
 | [a0,a1],_=>h a0 a1
theorem VJ {α:Type} {P:List α->Prop} (h: ∀a0 a1 a2:α,P [a0,a1,a2]): ∀us:List α,us.length=3->P us
 | [a0,a1,a2],_=>h a0 a1 a2
theorem VL {α:Type} {P:List α->Prop} (h: ∀a0 a1 a2 a3 a4:α,P [a0,a1,a2,a3,a4]): ∀us:List α,us.length=5->P us
 | [a0,a1,a2,a3,a4],_=>h a0 a1 a2 a3 a4
structure RefN (K:W.Frag) (C B D1 D2:Addr):Prop where
 ex:ExcK K C
 em:PySem.W.exmOne K (.ref C) (.ref C)=some true
 kb:PySem.W.kitOne K (.ref C) (.ref B)=some true
 kv:PySem.W.kitOne K (.ref C) (.type "ValueError")=some true
 k1:PySem.W.kitOne K (.ref C) (.ref D1)=some false
 k2:PySem.W.kitOne K (.ref C) (.ref D2)=some false
namespace Tn
def dv (cs:List Nat):Nat:=PySem.NumText.digitsVal cs
def Oq (c:Nat):List Nat->List (List Nat)
 | []=>[[]]
 | x::r=>if x=c then []::Oq c r else match Oq c r with
  | []=>[[x]]
  | p::ps=>(x::p)::ps
def BK (c:Nat):List (List Nat)->List Nat
 | []=>[]
 | [p]=>p
 | p::q::r=>p++c::BK c (q::r)
end Tn
structure RefC (K:W.Frag) (C B D1 D2:Addr) (b1 b2:Bool):Prop where
 ex:ExcK K C
 em:PySem.W.exmOne K (.ref C) (.ref B)=some true
 kv:PySem.W.kitOne K (.ref C) (.type "ValueError")=some true
 k1:PySem.W.kitOne K (.ref C) (.ref D1)=some b1
 k2:PySem.W.kitOne K (.ref C) (.ref D2)=some b2
def Vq (R:It->Hp->Prop):V->Hp->Prop:=λ x H1=> ∃a kvs,x= .ref a/\((H1 a=some (.dK kvs)/\ ∀od,R (xQ od a) (upd H1 a (.frz od (.dK kvs))))\/ ∃od,H1 a=some (.frz od (.dK kvs))/\R (xQ od a) H1)
section
variable {Z:St} {H:Hp} {Q:VK} {D:Ends} {K:W.Frag} {g:TG} {κ:List (Option Nat)} {tc:TT} {te:TE}
theorem BL {tl:TE} (h:tl Z H (Vq R)):tY tl Z H R:=h
end
def kz (kvs:List Kz):List (Str×List Nat):=kvs.map λ p:Kz=>(p.1,p.2.2)
def LtL (H:Hp) (d:Addr) (ls:List (Str×List Nat)):Prop:= ∃kvs:List Kz,Rd H d (.dK (VH kvs))/\(∀p∈kvs,H p.2.1=some (.tup (nv p.2.2)))/\(∀s,Fo.lk (kz kvs) s=Fo.lk ls s)
structure RefD (K:W.Frag) (C B D1 D2 D3:Addr) (b1 b2 b3:Bool) (ds es:List Addr):Prop where
 ex:ExcK K C
 em:PySem.W.exmOne K (.ref C) (.ref B)=some true
 k1:PySem.W.kitOne K (.ref C) (.ref D1)=some b1
 k2:PySem.W.kitOne K (.ref C) (.ref D2)=some b2
 k3:PySem.W.kitOne K (.ref C) (.ref D3)=some b3
 ka:PySem.W.kitAny K (.ref C) (ds.map Value.ref)=some false
 kb:PySem.W.kitAny K (.ref C) (es.map Value.ref)=some false
 kv:PySem.W.kitOne K (.ref C) (.type "ValueError")=some true
namespace Tn
structure GR (W:List Nat->Nat) (wide:Int) (ws rows:List (List Nat)):Prop where
 nil:rows=[]↔ws=[]
 eq:BK 32 rows=BK 32 ws
 ok: ∀r∈rows,r≠[]/\(W r:Int)<=wide
 mx: ∀k (h:k+1<rows.length),wide<(W (rows[k]++32::(Oq 32 rows[k+1]).headD []):Int)
end Tn
def KL (K:W.Frag) (C:Addr):List (Addr×Bool)->Prop
 | []=>True
 | p::r=>PySem.W.kitOne K (.ref C) (.ref p.1)=some p.2/\KL K C r
structure RefG (K:W.Frag) (C B:Addr) (ks:List (Addr×Bool)):Prop where
 ex:ExcK K C
 em:PySem.W.exmOne K (.ref C) (.ref B)=some true
 kv:PySem.W.kitOne K (.ref C) (.type "ValueError")=some true
 kl:KL K C ks
def KA (K:W.Frag) (C:Addr):List (List Addr)->Prop
 | []=>True
 | p::r=>PySem.W.kitAny K (.ref C) (p.map Value.ref)=some false/\KA K C r
structure RefH (K:W.Frag) (C B:Addr) (ks:List (Addr×Bool)) (ls:List (List Addr)):Prop where
 ex:ExcK K C
 em:PySem.W.exmOne K (.ref C) (.ref B)=some true
 kv:PySem.W.kitOne K (.ref C) (.type "ValueError")=some true
 kl:KL K C ks
 ka:KA K C ls
structure RefE (K:W.Frag) (C B D1 D2:Addr) (b1 b2:Bool) (ds:List Addr):Prop where
 ex:ExcK K C
 em:PySem.W.exmOne K (.ref C) (.ref B)=some true
 k1:PySem.W.kitOne K (.ref C) (.ref D1)=some b1
 k2:PySem.W.kitOne K (.ref C) (.ref D2)=some b2
 kv:PySem.W.kitOne K (.ref C) (.type "ValueError")=some true
 ka:PySem.W.kitAny K (.ref C) (ds.map Value.ref)=some false
def LL (H:Hp) (p:Addr) (rows:List (Addr×List Nat)):Prop:=H p=some (.lst (rows.map λ r:Addr×List Nat=>V.ref r.1))/\ ∀r∈rows,H r.1=some (.lst (nv r.2))
theorem Ma {l:Addr} (e:H l=some (.lst (y::xs))) (h:Q y (upd H l (.lst xs))):tM (.ref l) [.int 0] H Q:=⟨l,y::xs,0,0,y,rfl,rfl,e,by decide,by decide,by
 unfold seqIndex?;simp,rfl,h⟩
theorem s_pop {l:Addr} (e:H l=some (.lst (xs++[y]))) (h:Q y (upd H l (.lst xs))):JN (.ref l) [] H Q:=⟨l,xs++[y],y,rfl,rfl,e,by simp,by rw [List.dropLast_concat];exact h⟩
section
variable {Z:St} {H:Hp} {Q:VK} {D:Ends} {K:W.Frag} {g:TG} {tb:TS}
def Wi (r:V->V->Hp->VK->Prop) (Q:VK) (vs ks:List V) (H:Hp):Prop:= ∃x y,vs=[x]/\ks=[y]/\r x y H Q
def Wj (K:W.Frag) (R:It->Hp->Prop) (vs ks:List V) (H:Hp):Prop:= ∃a xs o,vs=[.ref a]/\ks=[.int ((o:Nat):Int)]/\o<=1000000000/\SqL K H a xs/\R (Vh K a o) H
def Wl (K:W.Frag) (R:It->Hp->Prop) (vs:List V) (H:Hp):Prop:= ∃a xs,vs=[.ref a]/\SqT K H a xs/\R (Q9 K a) H
def Wm (R:It->Hp->Prop) (vs ks:List V) (H:Hp):Prop:= ∃x o,vs=[.str x]/\ks=[.int ((o:Nat):Int)]/\o<=1000000000/\R (Q8 x o) H
end
def Wn (H:Hp) (p:Addr) (rows:List (List Nat)):Prop:= ∃as:List Addr,as.length=rows.length/\H p=some (.lst (as.map V.ref))/\ ∀ (i:Nat) a r,as[i]? =some a->rows[i]? =some r->H a=some (.lst (nv r))
theorem Mf {D:Ends} {g:TG} {kvs:List (Key×V)} (ea:Rd H a (.dK kvs)) (Pv:PySem.Obj->Nat->St->Hp->Prop) (h0: ∀od H1,Sb [a] H H1->H1 a=some (.frz od (.dK kvs))->Pv od 0 Z H1) (hl: ∀od i Z H',Pv od i Z H'->H' a=some (.frz od (.dK kvs)))
  (hs: ∀od (i:Nat) z Z H',kvs[i]? =some z->Pv od i Z H'->g (kV z.1) Z H' λ Z2 H2=>tb { D with nx:=Pv od (i+1),ct:=Pv od (i+1),bk:=D.nx } Z2 H2) (hd: ∀od Z H',Pv od kvs.length Z H'->D.nx Z H'):Vq (pM g tb D Z) (.ref a) H:=by
 have key: ∀od H1,Sb [a] H H1->H1 a=some (.frz od (.dK kvs))->pM g tb D Z (xQ od a) H1:=by
  intro od H1 sb e1;refine ⟨λ i m Z H=>m=kvs.length-i/\i<=kvs.length/\Pv od i Z H,⟨kvs.length,by simp,Yz _,h0 od H1 sb e1⟩,?_⟩;rintro i m Z H' ⟨rfl,hi,p⟩;have e:=hl od i Z H' p;by_cases hlt:i<kvs.length
  .refine .inr ⟨⟨kvs,e,hlt⟩,Pv od (i+1),λ Z' H' p'=>⟨kvs.length-(i+1),by rfl',rfl,hlt,p'⟩,λ x H'' y=> ?_⟩;obtain ⟨rfl,y2⟩:=y;obtain ⟨k,x',h1,rfl⟩:=y2 kvs e;exact hs od i (k,x') Z _ h1 p
  .have ei:i=kvs.length:=by rfl'
   subst ei;exact .inl ⟨⟨kvs,e,Zk _⟩,hd od Z H' p⟩
 rcases ea with e | ⟨od,e⟩
 .refine ⟨a,kvs,rfl, .inl ⟨e,λ od=>key od _ ?_ aa⟩⟩;intro b o nb q;rw [au (by simpa using nb)];exact q
 .exact ⟨a,kvs,rfl, .inr ⟨od,e,key od H (λ b o _ q=>q) e⟩⟩
section
variable {Z:St} {H:Hp} {Q:VK} {D:Ends} {K:W.Frag} {g:TG} {κ:List (Option Nat)} {tc:TT} {te:TE}
def Vr (K:W.Frag) (R:It->Hp->Prop) (vs:List V) (H:Hp):Prop:= ∃a b xs ys,vs=[.ref a, .ref b]/\SqT K H a xs/\SqT K H b ys/\R (Ka K a b) H
theorem Hm {ta:TA} (h:ta Z H (Vr K R)):vW K ta Z H R:=h
theorem QX {α β:Type} (c:α->V) (d:β->V) {xs:List α} {ys:List β} (hx:SqT K H a (xs.map c)) (hy:SqT K H b (ys.map d)) (hl:xs.length=ys.length) (hn:xs.length<=1000000) (f:α->β->V)
  (hs: ∀ (i:Nat) x y p H',xs[i]? =some x->ys[i]? =some y->Same H H'->H' p=some (.tup [c x,d y])-> ∀A:VK,(∀H4,Same H' H4->A (f x y) H4)->g (.ref p) (cap κ Z) H' λ Z2 H2=>oR (cap κ Z) Z2/\te Z2 H2 A)
  (hd: ∀p H',Same H H'->H' p=some (.lst (List.zipWith f xs ys))->Q (.ref p) H'):Vr K (GJ κ g eZ te Z Q) [.ref a, .ref b] H:=by
 refine ⟨a,b,_,_,rfl,hx,hy,λ i m zs H'=>m=xs.length-i/\i<=xs.length/\Same H H'/\zs=List.zipWith f (xs.take i) (ys.take i),⟨xs.length,by simp,Yz _,Same.refl H,rfl⟩,?_⟩;rintro i m zs H' ⟨rfl,hi,sH,rfl⟩;by_cases hlt:i<xs.length
 .have ex:xs[i]? =some xs[i]:=Zd hlt;have ey:ys[i]? =some (ys[i]'(by rfl')):=Zd (by rfl');refine .inr ⟨⟨_,_,c xs[i],d (ys[i]'(by rfl')),sH.tup hx,sH.tup hy,by rw [Zj,ex];rfl,by rw [Zj,ey];rfl⟩,?_,λ zs' H''=>Same H H''/\zs'=List.zipWith f (xs.take (i+1)) (ys.take (i+1)),λ zs' H'' p'=>⟨xs.length-(i+1),by rfl',rfl,hlt,p'.1,p'.2⟩,λ v H'' y=> ?_⟩
  .have:(List.zipWith f (xs.take i) (ys.take i)).length<=i:=by
    rw [List.length_zipWith,Yd];rfl'
   exact Yb this (Yc hlt (Yg hn (by decide)))
  .obtain ⟨p,x,z,hp,rfl,rfl,q1,q2⟩:=y;have e1:=q1 _ (sH.tup hx);have e2:=q2 _ (sH.tup hy);rw [Zj,ex] at e1;rw [Zj,ey] at e2
   cases e1
   cases e2;have q:=hs i _ _ p (upd H' p (.tup [c xs[i],d (ys[i]'(by rfl'))])) ex ey (sH.new hp) aa (λ y H4=>Same H H4/\List.zipWith f (xs.take i) (ys.take i)++[y]=List.zipWith f (xs.take (i+1)) (ys.take (i+1))) (λ H4 s4=>⟨(sH.new hp).trans s4,?_⟩)
   .simpa only [eZ,if_true] using q
   .rw [Ys,Ys,ex,ey,List.zipWith_append (by rw [Yd,Yd];rfl')];rfl
 .have e:i=xs.length:=by rfl'
  subst e;refine .inl ⟨⟨_,_,sH.tup hx,sH.tup hy, .inl (by simp)⟩,λ p hp=>hd p _ (sH.new hp) ?_⟩;rw [aa,Xh,hl,Xh]
end
theorem J0 {K:W.Frag} (e:SqT K H a xs) (h: ∀p H',Same H H'->SqT K H' p (dU xs lo hi)->Q (.ref p) H'):qR K (.ref a) lo hi H Q:=⟨a,xs,rfl,e,λ p H' c hp=>h p H' (by
 rcases c with ⟨rfl,rfl,_⟩ | ⟨hn,rfl⟩
 .exact Same.refl _
 .exact aB hn _) hp⟩
theorem BP {K:W.Frag} (e:H a=some (.tup xs)) (h: ∀p H',Same H H'->H' p=some (.tup (dU xs lo hi))->Q (.ref p) H'):qR K (.ref a) lo hi H Q:=⟨a,xs,rfl,SqT.of e,λ p H' c hp=>by
 rcases c with ⟨rfl,rfl,z⟩ | ⟨hn,rfl⟩
 .exact h _ _ (Same.refl _) (by rw [z];exact e)
 .exact h _ _ (aB hn _) aa⟩
theorem SGet.of (e:H a=some (bA a kvs)) (hk: ∀p∈kvs,pA H p.1 p.2.1) (hb:pA H b k):SGet H a (.ref b) (cL kvs k):=⟨kvs,k,b, .inl e,hk,rfl,hb,rfl⟩
theorem SPut.of (e:H a=some (bA a kvs)) (hk: ∀p∈kvs,pA H p.1 p.2.1) (hb:pA H b k) (hn:kvs.length<=1000000):SPut H a (.ref b) v (upd H a (bA a (pB kvs b k v))):=⟨kvs,k,b,e,hk,rfl,hb,Yb hn (by decide),rfl⟩
theorem nT:cL kvs k=none↔k∉kvs.map (·.2.1):=by
 unfold cL;rw [Option.map_eq_none_iff,List.find?_eq_none];constructor
 .intro h m;obtain ⟨p,mp,e⟩:=Zb.mp m;exact h p mp (Yj e)
 .intro h p mp e;exact h (Zb.mpr ⟨p,mp,Xx e⟩)
theorem yj (h:cL kvs k=some v): ∃b,(b,k,v)∈kvs:=by
 unfold cL at h;obtain ⟨p,hp,rfl⟩:=Yp.mp h;have h1:=List.mem_of_find?_eq_some hp;have h2:p.2.1=k:=by
  have:=List.find?_some hp;exact Xx this
 exact ⟨p.1,by rw [<- h2];exact h1⟩
theorem lO (h:cL kvs k=none):pB kvs b k v=kvs++[(b,k,v)]:=by
 unfold pB;rw [h];rfl
section
variable {Z:St} {H:Hp} {Q:VK} {D:Ends} {K:W.Frag} {g:TG} {tb:TS}
theorem Mi {α:Type} (c:α->V) {xs:List α} (hx:SqL K H a (xs.map c)) (Pv:Nat->St->Hp->Prop) (h0:Pv 0 Z H)
  (hk: ∀i Z H',Pv i Z H'->SqL K H' a (xs.map c))
  (hs: ∀ (i:Nat) x p Z H',xs[i]? =some x->Pv i Z H'->H' p=none->g (.ref p) Z (upd H' p (.tup [.int (i:Int),c x])) λ Z2 H2=>tb { D with nx:=Pv (i+1),ct:=Pv (i+1),bk:=D.nx } Z2 H2)
  (hd: ∀Z H',Pv xs.length Z H'->D.nx Z H'):iE K (pM g tb D Z) [.ref a] H:=by
 refine ⟨a,_,rfl,hx,λ i m Z H=>m=xs.length-i/\i<=xs.length/\Pv i Z H,⟨xs.length,by simp,Yz _,h0⟩,?_⟩;rintro i m Z H ⟨rfl,hi,p⟩;have q1:=hk i Z H p;by_cases hlt:i<xs.length
 .have e1:(xs.map c)[i]? =some (c xs[i]):=by rw [Zj,Zd hlt];rfl
  refine .inr ⟨⟨_,_,q1,e1⟩,Pv (i+1),λ Z' H' p'=>⟨xs.length-(i+1),by rfl',rfl,hlt,p'⟩,λ v H' y=> ?_⟩;obtain ⟨r,x',hr,rfl,rfl,f1⟩:=y;have g1:=f1 _ q1;rw [e1] at g1
  cases g1;exact hs i _ r Z H (Zd hlt) p hr
 .have e:i=xs.length:=by rfl'
  subst e;exact .inl ⟨⟨_,q1,by rw [Qr];exact Zk _⟩,hd Z H p⟩
end
theorem cX {p q:Addr} {ys:List V} {o:HO} (h:H p=some (.tup xs)) (e:H q=some (.lst ys)):upd H q o p=some (.tup xs):=by
 rw [au λ z=>by rw [z,e] at h;cases h];exact h
theorem lQ {D:Ends} {c:TT} (Pv:Nat->St->Hp->Prop) (m0:Nat) (h0:Pv m0 Z H)
  (hs: ∀m Z H (N:St->Hp->Prop),Pv m Z H->(∀m' Z' H',m'<m->Pv m' Z' H'->N Z' H')->c Z H λ b H1=>if b=true then tb { D with nx:=N,ct:=N,bk:=D.nx } Z H1 else D.nx Z H1)
  (mono: ∀Z H Q Q',(∀b H1,Q b H1->Q' b H1)->c Z H Q->c Z H Q'):eF c tb D Z H:=by
 classical
 have least: ∀ (P:Nat->Prop),(∃m,P m)-> ∃m,P m/\ ∀k,P k->m<=k:=λ P ⟨m,hm⟩=>by
  induction m using Nat.strongRecOn with
  | ind m ih=>
   by_cases h: ∃k,k<m/\P k
   .obtain ⟨k,hk,pk⟩:=h;exact ih k hk pk
   .exact ⟨m,hm,λ k pk=>Nat.le_of_not_lt λ hk=>h ⟨k,hk,pk⟩⟩
 refine jV (λ Z H=> ∃m,Pv m Z H) (λ Z H=>if h: ∃m,Pv m Z H then (least (λ m=>Pv m Z H) h).choose else 0) ⟨m0,h0⟩ ?_ mono;intro Z H h;obtain ⟨p1,p2⟩:=(least (λ m=>Pv m Z H) h).choose_spec;refine hs _ Z H _ p1 λ m' Z' H' hm hp=>⟨⟨m',hp⟩,?_⟩
 rw [dif_pos h,dif_pos ⟨m',hp⟩];exact Yb ((least (λ m=>Pv m Z' H') ⟨m',hp⟩).choose_spec.2 m' hp) hm
theorem yl (h:cL kvs k=none):cL (kvs++[(b,k,v)]) k=some v:=by
 unfold cL at h ⊢;rw [List.find?_append,Option.map_eq_none_iff.mp h];simp
theorem BR (h:k∈kvs.map (·.2.1)): ∃v,cL kvs k=some v:=by
 cases e:cL kvs k with
 | none=>exact absurd h (nT.mp e)
 | some v=>exact ⟨v,rfl⟩
end L2
namespace Mm
section
variable {α:Type}
inductive Rch (bs:List α) (nx:α->List α):α->Prop
 | base {x:α} (h:x∈bs):Rch bs nx x
 | step {x y:α} (h:Rch bs nx x) (m:y∈nx x):Rch bs nx y
theorem Rch.all {bs:List α} {nx:α->List α} {P:α->Prop} (h0: ∀x∈bs,P x) (hs: ∀x y,P x->y∈nx x->P y): ∀ {x},Rch bs nx x->P x:=λ h=>by
 induction h with
 | base h=>exact h0 _ h
 | step h m ih=>exact hs _ _ ih m
structure Clo (bs:List α) (nx:α->List α) (F W:List α):Prop where
 nd:F.Nodup
 rF: ∀x∈F,Rch bs nx x
 rW: ∀x∈W,Rch bs nx x
 b: ∀x∈bs,x∈F\/x∈W
 c: ∀x∈F,∀y∈nx x,y∈F\/y∈W
theorem Clo.start (bs:List α) (nx:α->List α):Clo bs nx [] bs:=⟨List.nodup_nil,λ x m=>(by cases m),λ x m=> .base m,λ x m=> .inr m,λ x m=>(by cases m)⟩
theorem Clo.skip {bs:List α} {nx:α->List α} {F W:List α} {x:α} (h:Clo bs nx F (W++[x])) (m:x∈F):Clo bs nx F W:=by
 have k: ∀y,y∈F\/y∈W++[x]->y∈F\/y∈W:=λ y hy=>by
  rcases hy with hy | hy
  .exact .inl hy
  .rcases Zi.mp hy with hy | hy
   .exact .inr hy
   .rw [Za.mp hy];exact .inl m
 exact ⟨h.nd,h.rF,λ y my=>h.rW y (Zz _ my),λ y my=>k y (h.b y my),λ y my z mz=>k z (h.c y my z mz)⟩
theorem Clo.take {bs:List α} {nx:α->List α} {F W:List α} {x:α} (h:Clo bs nx F (W++[x])) (m:x∉F):Clo bs nx (F++[x]) (W++nx x):=by
 have hx:=h.rW x (Zw _ (Za.mpr rfl));have k: ∀y,y∈F\/y∈W++[x]->y∈F++[x]\/y∈W++nx x:=λ y hy=>by
  rcases hy with hy | hy
  .exact .inl (Zz _ hy)
  .rcases Zi.mp hy with hy | hy
   .exact .inr (Zz _ hy)
   .exact .inl (Zw _ hy)
 refine ⟨?_,λ y my=> ?_,λ y my=> ?_,λ y my=>k y (h.b y my),λ y my z mz=> ?_⟩
 .refine Xc.mpr ⟨h.nd,by simp,λ a ma b mb e=>m ?_⟩;rw [Za.mp mb] at e;rw [<- e];exact ma
 .rcases Zi.mp my with my | my
  .exact h.rF y my
  .rw [Za.mp my];exact hx
 .rcases Zi.mp my with my | my
  .exact h.rW y (Zz _ my)
  .exact .step hx my
 .rcases Zi.mp my with my | my
  .exact k z (h.c y my z mz)
  .rw [Za.mp my] at mz;exact .inr (Zw _ mz)
theorem Clo.fin {bs:List α} {nx:α->List α} {F:List α} (h:Clo bs nx F []) (x:α):x∈F↔Rch bs nx x:=by
 refine ⟨h.rF x,λ r=> ?_⟩;induction r with
 | base m=>exact (h.b _ m).resolve_right (by simp)
 | step r m ih=>exact (h.c _ ih _ m).resolve_right (by simp)
end
end Mm
namespace L2
open PySem
variable {H:Hp} {Q:VK} {a:Addr} {td ty:TE} {R:It->Hp->Prop} {us:List (V×PyData)}
def Ot (t:TE):Prop:= ∀Z H (Q Q':VK),(∀v H1,Q v H1->Q' v H1)->t Z H Q->t Z H Q'
def T8 (t:TT):Prop:= ∀Z H (Q Q':Bool->Hp->Prop),(∀v H1,Q v H1->Q' v H1)->t Z H Q->t Z H Q'
def T9 (r:R2):Prop:= ∀x y H (Q Q':VK),(∀v H1,Q v H1->Q' v H1)->r x y H Q->r x y H Q'
theorem jt (i:Nat):Ot (aj i):=λ Z H Q Q' h ⟨v,e,z⟩=>⟨v,e,h _ _ z⟩
theorem Mj (v:V):Ot (tC v):=λ Z H Q Q' h z=>h _ _ z
theorem jE {r:R2} {a b:TE} (hr:T9 r) (ha:Ot a) (hb:Ot b):Ot (aH r a b):=λ Z H Q Q' h z=>ha _ _ _ _ (λ x H1 z=>hb _ _ _ _ (λ y H2 z=>hr _ _ _ _ _ h z) z) z
theorem uC (g:Int->Int->V):T9 (qe g):=λ x y H Q Q' h ⟨i,j,e1,e2,z⟩=>⟨i,j,e1,e2,h _ _ z⟩
theorem wF (C:Int->Int->Prop) (g:Int->Int->V):T9 (rI C g):=λ x y H Q Q' h ⟨i,j,e1,e2,c,z⟩=>⟨i,j,e1,e2,c,h _ _ z⟩
theorem pP {t:TE} (ht:Ot t):T8 (aY t):=λ Z H Q Q' h z=>ht _ _ _ _ (λ x H1 ⟨k,e,z⟩=>⟨k,e,h _ _ z⟩) z
theorem Mp {t u:TT} (ht:T8 t) (hu:T8 u):T8 (jG t u):=λ Z H Q Q' h z=>ht _ _ _ _ (λ c H1 z=>by
 cases c with
 | true=>exact hu _ _ _ _ h z
 | false=>exact h _ _ z) z
theorem rNeD.nil {H:Hp} {Q:VK} {K:W.Frag} {n:Nat} {a p:Addr} {ds:List PyData} (h1:Dp K H (.ref a) (.list ds)) (hs:Sh n (.list ds)) (hn:n<=64) (hp:SqL K H p []) (q:Q (.bl (!decide (ds=[]))) H):rNeD K (.ref a) (.ref p) H Q:=by
 have s2:Sh 1 (.list []):=pN (λ d hd=>by cases hd);refine ⟨_, .list [],h1, .lst hp .nil,hs.shaped hn,s2.shaped (by decide),?_⟩
 cases ds with
 | nil=>rw [eqv_refl _ s2.1];exact q
 | cons z r=>exact q
theorem Hn (K:W.Frag):T9 (rNeD K):=λ x y H Q Q' h ⟨d,e,h1,h2,h3,h4,z⟩=>⟨d,e,h1,h2,h3,h4,h _ _ z⟩
def Tc (R:It->Hp->Prop):V->Hp->Prop:=λ x H1=> ∃a kvs,x= .ref a/\((H1 a=some (bA a kvs)/\ ∀od,R (uf od a kvs) (upd H1 a (.frz od (bA a kvs))))\/ ∃od,H1 a=some (.frz od (bA a kvs))/\R (uf od a kvs) H1)
def Us (R:It->Hp->Prop):V->Hp->Prop:=λ x H1=> ∃a kvs,x= .ref a/\((H1 a=some (bA a kvs)/\ ∀od,R (uh od a kvs) (upd H1 a (.frz od (bA a kvs))))\/ ∃od,H1 a=some (.frz od (bA a kvs))/\R (uh od a kvs) H1)
section
variable {Z:St} {H:Hp} {Q:VK} {D:Ends} {g:TG} {tb:TS} {κ:List (Option Nat)} {tc:TT} {te:TE} {a:Addr} {kvs:List (Addr×Sk×V)}
theorem sr {tl:TE} (h:tl Z H (Tc R)):pG tl Z H R:=h
theorem nU {tl:TE} (h:tl Z H (Us R)):pH tl Z H R:=h
theorem BV {o:HO}:Sb [a] H (upd H a o):=λ b o nb q=>by rw [au (by simpa using nb)];exact q
theorem J1 (ea:Rd H a (bA a kvs)) (h: ∀od H1,Sb [a] H H1->H1 a=some (.frz od (bA a kvs))->R (uf od a kvs) H1):Tc R (.ref a) H:=by
 rcases ea with e | ⟨od,e⟩
 .exact ⟨a,kvs,rfl, .inl ⟨e,λ od=>h od _ BV aa⟩⟩
 .exact ⟨a,kvs,rfl, .inr ⟨od,e,h od H (λ b o _ q=>q) e⟩⟩
theorem QZ (ea:Rd H a (bA a kvs)) (h: ∀od H1,Sb [a] H H1->H1 a=some (.frz od (bA a kvs))->R (uh od a kvs) H1):Us R (.ref a) H:=by
 rcases ea with e | ⟨od,e⟩
 .exact ⟨a,kvs,rfl, .inl ⟨e,λ od=>h od _ BV aa⟩⟩
 .exact ⟨a,kvs,rfl, .inr ⟨od,e,h od H (λ b o _ q=>q) e⟩⟩
theorem Mq (ea:Rd H a (bA a kvs)) (Pv:PySem.Obj->Nat->St->Hp->Prop) (h0: ∀od H1,Sb [a] H H1->H1 a=some (.frz od (bA a kvs))->Pv od 0 Z H1) (hl: ∀od i Z H',Pv od i Z H'->H' a=some (.frz od (bA a kvs)))
  (hs: ∀od (i:Nat) z Z H',kvs[i]? =some z->Pv od i Z H'->g (.ref z.1) Z H' λ Z2 H2=>tb { D with nx:=Pv od (i+1),ct:=Pv od (i+1),bk:=D.nx } Z2 H2) (hd: ∀od Z H',Pv od kvs.length Z H'->D.nx Z H'):Tc (pM g tb D Z) (.ref a) H:=by
 refine J1 ea λ od H1 sb e1=>⟨λ i m Z H=>m=kvs.length-i/\i<=kvs.length/\Pv od i Z H,⟨kvs.length,by simp,Yz _,h0 od H1 sb e1⟩,?_⟩
 rintro i m Z H' ⟨rfl,hi,p⟩;by_cases hlt:i<kvs.length
 .refine .inr ⟨⟨hl od i Z H' p,hlt⟩,Pv od (i+1),λ Z' H' p'=>⟨kvs.length-(i+1),by rfl',rfl,hlt,p'⟩,λ x H'' y=> ?_⟩;obtain ⟨rfl,z,h1,rfl⟩:=y;exact hs od i z Z _ h1 p
 .have ei:i=kvs.length:=by rfl'
  subst ei;exact .inl ⟨⟨hl od _ Z H' p,Zk _⟩,hd od Z H' p⟩
theorem Mr (ea:Rd H a (bA a kvs)) (Pv:PySem.Obj->Nat->St->Hp->Prop) (h0: ∀od H1,Sb [a] H H1->H1 a=some (.frz od (bA a kvs))->Pv od 0 Z H1) (hl: ∀od i Z H',Pv od i Z H'->H' a=some (.frz od (bA a kvs)))
  (hs: ∀od (i:Nat) z p Z H',kvs[i]? =some z->Pv od i Z H'->H' p=none->g (.ref p) Z (upd H' p (.tup [.ref z.1,z.2.2])) λ Z2 H2=>tb { D with nx:=Pv od (i+1),ct:=Pv od (i+1),bk:=D.nx } Z2 H2) (hd: ∀od Z H',Pv od kvs.length Z H'->D.nx Z H'):Us (pM g tb D Z) (.ref a) H:=by
 refine QZ ea λ od H1 sb e1=>⟨λ i m Z H=>m=kvs.length-i/\i<=kvs.length/\Pv od i Z H,⟨kvs.length,by simp,Yz _,h0 od H1 sb e1⟩,?_⟩
 rintro i m Z H' ⟨rfl,hi,p⟩;by_cases hlt:i<kvs.length
 .refine .inr ⟨⟨hl od i Z H' p,hlt⟩,Pv od (i+1),λ Z' H' p'=>⟨kvs.length-(i+1),by rfl',rfl,hlt,p'⟩,λ x H'' y=> ?_⟩;obtain ⟨q,z,hn,h1,rfl,rfl⟩:=y;exact hs od i z q Z _ h1 p hn
 .have ei:i=kvs.length:=by rfl'
  subst ei;exact .inl ⟨⟨hl od _ Z H' p,Zk _⟩,hd od Z H' p⟩
theorem R0 (ea:Rd H a (bA a kvs)) (hn:kvs.length<=1000000) (f:Addr×Sk×V->Option V)
  (h: ∀od H1,Sb [a] H H1->H1 a=some (.frz od (bA a kvs))->
   (∀ (i:Nat) z,kvs[i]? =some z-> ∀ (A:VK) (B:Hp->Prop),(∀y,f z=some y->A y H1)->(f z=none->B H1)->g (.ref z.1) (cap κ Z) H1 λ Z2 H2=>oR (cap κ Z) Z2/\tc Z2 H2 λ b H3=>if b=true then te Z2 H3 A else B H3)/\
   ∀p,H1 p=none->Q (.ref p) (upd H1 p (.lst (kvs.filterMap f)))):Tc (GJ κ g tc te Z Q) (.ref a) H:=by
 refine J1 ea λ od H1 sb e1=> ?_
 obtain ⟨hs,hd⟩:=h od H1 sb e1;refine ⟨λ i m ys H'=>m=kvs.length-i/\i<=kvs.length/\H'=H1/\ys=(kvs.take i).filterMap f,⟨kvs.length,by simp,Yz _,rfl,rfl⟩,?_⟩;rintro i m ys H' ⟨rfl,hi,rfl,rfl⟩;by_cases hlt:i<kvs.length
 .have ez:kvs[i]? =some kvs[i]:=Zd hlt;have et:kvs.take (i+1)=kvs.take i++[kvs[i]]:=by rw [Ys,ez];rfl
  have hle:((kvs.take i).filterMap f).length<=1000000:=Yg (List.length_filterMap_le _ _) (by rw [Yd];rfl');refine .inr ⟨⟨e1,hlt⟩,Yb hle (by decide),λ zs' H''=>H''=H'/\zs'=(kvs.take (i+1)).filterMap f,λ zs' H'' p'=>⟨kvs.length-(i+1),by rfl',rfl,hlt,p'.1,p'.2⟩,λ v H'' y=> ?_⟩;obtain ⟨rfl,z,h1,rfl⟩:=y;rw [ez] at h1;have hk:kvs[i]=z:=Ym h1;exact hs i z (by rw [ez,hk]) (λ y H4=>H4=H''/\(kvs.take i).filterMap f++[y]=(kvs.take (i+1)).filterMap f) (λ H4=>H4=H''/\(kvs.take i).filterMap f=(kvs.take (i+1)).filterMap f)
   (λ y e=>⟨rfl,by rw [et,Mm.gM,hk,e];rfl⟩) (λ e=>⟨rfl,by rw [et,Mm.gM,hk,e];simp⟩)
 .have ei:i=kvs.length:=by rfl'
  subst ei;refine .inl ⟨⟨e1,Zk _⟩,λ p hp=> ?_⟩;rw [Xh];exact hd p hp
theorem BW (h:td Z H λ x H1=> ∃a,x= .ref a/\JS H1 a/\ty Z H1 λ y H2=> ∃kvs k b v,H2 a=some (.dT kvs)/\y= .ref b/\H2 b=some (.tup (k.map kV))/\bF kvs k=some v/\Q v (upd H2 a (.dT (cN kvs k)))):Be td ty Z H Q:=h
theorem BX {tx:TE} (h:td Z H λ x H1=> ∃a,x= .ref a/\JS H1 a/\ty Z H1 λ y H2=>tx Z H2 λ z H3=> ∃kvs k b,H3 a=some (.dT kvs)/\y= .ref b/\H3 b=some (.tup (k.map kV))/\kvs.length<sizeLine/\
 (∀v,bF kvs k=some v->Q v H3)/\(bF kvs k=none->Q z (upd H3 a (.dT (kvs++[(k,z)]))))):Bg td ty tx Z H Q:=h
theorem Ms {kvs:List (List Int×V)} (e:H a=some (.dT (kvs.map λ p=>(p.1.map Sum.inl,p.2)))) (hne:kvs≠[]) (h: ∀b k,H b=some (.tup (k.map V.int))->k∈kvs.map (·.1)->(∀k'∈kvs.map (·.1),HT.lexLt k' k=false)->Q (.ref b) H):Bj [.ref a] H Q:=⟨a,kvs,rfl,e,hne,h⟩
theorem SGet.ofR {b:Addr} {k:Sk} (e:Rd H a (bA a kvs)) (hk: ∀p∈kvs,pA H p.1 p.2.1) (hb:pA H b k):SGet H a (.ref b) (cL kvs k):=⟨kvs,k,b,e,hk,rfl,hb,rfl⟩
end
theorem Ho {K:W.Frag} (f:PyData->Int) (e:SqL K H a (us.map (·.1))) (hn:us≠[]) (hd: ∀u∈us,Dp K H u.1 u.2/\u.2.canLay0=true/\u.2.depth<=8) (hc: ∀u∈us,∀v∈us,Nk.CmpD u.2 v.2/\(Nk.pI u.2 v.2=true->f u.2<=f v.2)/\(Nk.pI u.2 v.2=false->f v.2<=f u.2)) (h: ∀u∈us,(∀v∈us,f u.2<=f v.2)->Q u.1 H):pK K [.ref a] H Q:=⟨a,us,f,rfl,e,hn,hd,hc,h⟩
theorem BZ {K:W.Frag} {ss:List Str} (e:SqT K H a (ss.map V.str)) (hn:ss≠[]) (h: ∀s∈ss,Q (.str s) H):lJ K [.ref a] H Q:=⟨a,ss,rfl,e,hn,h⟩
theorem Hq {Z:St} (h:td Z H λ x H1=> ∃a kvs,x= .ref a/\Rd H1 a (bA a kvs)/\ty Z H1 λ y H2=> ∃o,SGet H2 a y o/\Q (o.getD .non) H2):ur td ty Z H Q:=h
end L2
end
set_option Elab.async false
set_option linter.all false
set_option maxRecDepth 100000
open L2
local macro_rules | `(tactic| walk_at "si") => `(tactic| first | assumption | (with_reducible exact Mm.big_pos) | (with_reducible exact Int.pow_pos (by decide)) | rfl' | (dsimp only; rfl') | exact ⟨by rfl', by rfl'⟩ | exact Or.inr ⟨by rfl', by rfl'⟩ | exact Or.inl ⟨by rfl', by rfl'⟩ | exact ⟨by rfl', by rfl', by rfl'⟩ | exact ⟨by rfl', by rfl', by decide⟩ | (dsimp only; decide) | exact Mm.Gy _ | exact Mm.big_pos | exact Int.pow_pos (by decide))
local macro_rules | `(tactic| walk_at "gp") => `(tactic| repeat (first | walk_at "st" | (with_reducible (refine s_lenA (xs := ?xs) ?e ?_; case e => assumption))))
local macro_rules | `(tactic| symm) => `(tactic| repeat walk_at "st")
local macro_rules | `(tactic| walk_at "gq") => `(tactic| (intro R h; (with_unfolding_all walk_at "gp"); exact h))
local macro_rules | `(tactic| walk_at "sx") => `(tactic| with_reducible first|refine Qk ?_|refine Ql ?_|refine KZ ?_|refine Qm ?_|refine Ue ?_| (refine Qn (v:= ?v) ?e ?_;case e=>with_unfolding_all exact rfl)|refine VG ?_|refine GD ?_|refine s_call ?_|refine Lb ?_|refine Qo ?_|refine Qw ?_| (refine Ul ?_ ?_;(with_unfolding_all walk_at "si"))|refine Qx ?_|refine Qy ?_|refine Ld ?_|refine Ur ?_|refine QS ?_|refine QV ?_|refine QT ?_|refine Bv ?_|refine LR ?_|refine M3 ?_|refine Bw ?_|refine Uh ?_|refine Qs ?_|refine Qp ?_|refine Qq ?_| (refine Hb (b:= ?b) (c:= ?c) ?h1 ?h2 ?_;(case h1=>walk_at "gq");(case h2=>walk_at "gq"))|refine Qt ?_|refine Ui ?_| (refine Ls (b:= ?b) (c:= ?c) ?h1 ?h2 ?_;(case h1=>walk_at "gq");(case h2=>walk_at "gq"))|refine Le ?_|refine Lf ?_|refine Uj ?_|refine Qu ?_|refine zg ?_|refine zf ?_|refine Qh ?_|refine Qi ?_|refine Qj ?_|refine KQ ?_|refine Ug ?_|refine La ?_|refine GF ?_|refine Lg ?_|refine Lh ?_| (refine Qv (x:= ?v) ?e ?_;case e=>with_unfolding_all exact rfl)|refine Uk ?_|refine QK ?_|refine QQ ?_|refine GQ ?_|refine Ha ?_|refine GX ?_|refine GZ ?_|refine Hq ?_|refine BW ?_|refine BX ?_|refine sr ?_|refine nU ?_|refine QB ?_|refine QC ?_| (refine QF ?_ ?_;(with_unfolding_all first | decide|(simp;rfl') | simp))|refine Um ?_|refine Bo ?_|refine Li ?_|refine Lj ?_|refine Uo ?_|refine QG ?_|refine QH ?_|refine Uq ?_|refine GK ?_|refine Lk ?_|refine GP ?_|refine Hm ?_|refine Hf ?_|refine BL ?_|refine LK ?_|refine LC ?_|refine LQ ?_| (refine QD ?_ ?_;(with_unfolding_all first | exact Ud | exact ext2 | exact ext3)))
local macro_rules | `(tactic| walk_at "st") => `(tactic| first | with_reducible refine Iz ?_ | walk_at "sx")
local macro_rules | `(tactic| walk_at "sj") => `(tactic| first | with_reducible refine M7 ?_ | walk_at "sx")
local macro_rules | `(tactic| walk_at "gj") => `(tactic| repeat walk_at "sj")
local macro_rules | `(tactic| walk_at "hp") => `(tactic| first
 | assumption
 | exact aa
 | (refine SqL.of ?_;walk_at "hp")
 | (refine SqT.of ?_;walk_at "hp")
 | (refine seq_new (by assumption) ?_;walk_at "hp")
 | (refine tup_new (by assumption) ?_;walk_at "hp")
 | (refine aA (by assumption) ?_;walk_at "hp")
 | (refine Same.seq (by assumption) ?_;walk_at "hp")
 | (refine Same.tup (by assumption) ?_;walk_at "hp")
 | (refine Same.get (by assumption) ?_;walk_at "hp"))
local macro_rules | `(tactic| walk_at "sm") => `(tactic| first | assumption | exact Same.refl _ | (refine Same.new ?_ (by assumption);walk_at "sm") | (refine Same.trans ?_ (by assumption);walk_at "sm"))
local macro_rules | `(tactic| walk_at "ns") => `(tactic| try dsimp only [L2.start, List.map, List.length, Nat.reduceAdd, Nat.reduceSub, List.reduceReplicate, List.cons_append, List.nil_append, List.set])
namespace Pg
open PySem L2
variable {Q:VK} {o':HO} {H H':Hp} {k:Nat×Nat} {t0 t1:Str} {ys:List V} {cs:List Nat} {b ba p q:Addr} {c i j m n:Nat} {es ms rs:List Int} {w:Str×List Nat×Int} {st:Int×Int×List Nat} {ds:List (List (Str×Int))} {wss:List (List (Str×List Nat×Int))}
def Td:Addr:=38
def Te:Addr:=51
variable {K:W.Frag} {vs:List V} {H:Hp} {Q:VK} {E:XK}
theorem dX {a:Addr} {v:V} {xs:List V} (e:H a=some (.tup (v::xs))) (h:Q v H):aR K (.ref a) (.int 0) H Q:=eV (SqT.of e) (aN (j:=0) (v:=v) rfl) h
theorem dG {a:Addr} {v0 v:V} {xs:List V} (e:H a=some (.tup (v0::v::xs))) (h:Q v H):aR K (.ref a) (.int 1) H Q:=eV (SqT.of e) (aN (j:=1) (v:=v) rfl) h
theorem iw {a:Addr} {v0 v1 v:V} {xs:List V} (e:H a=some (.tup (v0::v1::v::xs))) (h:Q v H):aR K (.ref a) (.int 2) H Q:=eV (SqT.of e) (aN (j:=2) (v:=v) rfl) h
inductive sp_f26 (K:W.Frag) (vs:List V) (H:Hp) (Q:VK) (E:XK):Prop
 | mk (n:Nat) (h0:vs=[.int n]) (h1:Q (.int (Bm.pop n)) H):sp_f26 K vs H Q E
def uD (K:W.Frag) (E:XK) (Eh:XK):TS:=
  (aG (aJ (tC (V.int 0)) (az 1))
  (aG (eF (aY (aH jK (aj 0) (tC (V.int 0)))) (aG (aJ (aH Px (aj 0) (aH j4 (aj 0) (tC (V.int 1)))) (az 0))
  (Jm 1 (tC (V.int 1)) Fy)))
  (bJ (aj 1))))
theorem Mt (h:sp_f26 K vs H Q E): ∃Eh,uD K E Eh { nx:=λ _ H'=>Q .non H',rt:=Q } (start ["column","dots"] vs) H:=by
 obtain ⟨n,rfl,q⟩:=h;refine ⟨E0,?_⟩;unfold uD;refine Iz ?_;symm;refine qu (λ Z H'=> ∃m d:Nat,Z=[some (.int (m:Int)),some (.int (d:Int))]/\H'=H/\d+Bm.pop m=Bm.pop n) (λ Z _=>match Z with | some (.int m)::_=>m.toNat | _=>0) ⟨n,0,rfl,rfl,by rfl'⟩ ?_ ?_
 .rintro _ _ ⟨m,d,rfl,rfl,e⟩;symm;refine dW (λ c=> ?_) (λ c=> ?_)
  .have hm:0<m:=by rfl'
   have ex:Builtin.bitAnd (m:Int) ((m:Int)-1)=((m&&& (m-1):Nat):Int):=by
    rw [show (m:Int)-1=((m-1:Nat):Int) by rfl',Bx.iK]
   symm;rw [ex];have lt:=Bm.JV m hm;have pl:=Bm.Fj m hm;refine ⟨⟨m&&& (m-1),d+1,rfl,rfl,by rfl'⟩,?_⟩;show ((m&&& (m-1):Nat):Int).toNat<(m:Int).toNat;rfl'
  .have hm:m=0:=by rfl'
   subst hm;rw [Bm.iV] at e;symm;rw [show d=Bm.pop n by rfl'];exact q
 .rintro Z H Q Q' hq ⟨v,hv,i,j,e1,e2,k,e3,z⟩;exact ⟨v,hv,i,j,e1,e2,k,e3,hq _ _ z⟩
inductive sp_f28 (K:W.Frag) (vs:List V) (H:Hp) (Q:VK) (E:XK):Prop
 | mk (a b:Nat) (h0:vs=[.int a, .int b]) (h1:Q (.int (Bm.pop (a^^^b):Nat)) H):sp_f28 K vs H Q E
def uE (K:W.Frag) (E:XK) (Eh:XK):TS:=
  (bJ (aU (sp_f26 K) [] E0 (ao (aH Ip (aj 0) (aj 1)) aC)))
theorem Mu (h:sp_f28 K vs H Q E): ∃Eh,uE K E Eh { nx:=λ _ H'=>Q .non H',rt:=Q } (start ["one","other"] vs) H:=by
 obtain ⟨a,b,rfl,q⟩:=h;refine ⟨E0,?_⟩;unfold uE;symm;rw [Bx.kY];exact ⟨_,rfl,q⟩
inductive sp_f6 (K:W.Frag) (vs:List V) (H:Hp) (Q:VK) (E:XK):Prop
 | mk (p q:Addr) (xs ys:List V) (h0:vs=[.ref p, .ref q]) (h1:SqT K H p xs) (h2:SqT K H q ys) (h3:xs.length=ys.length) (h4:Q .non H):sp_f6 K vs H Q E
def Ca (K:W.Frag) (E:XK) (Eh:XK):TS:=
  (cI (aY (aH Jx (cH (cB K) (ao (aj 0) aC)) (cH (cB K) (ao (aj 1) aC)))) yF bT)
theorem R1 (h:sp_f6 K vs H Q E): ∃Eh,Ca K E Eh { nx:=λ _ H'=>Q .non H',rt:=Q } (start ["one","other"] vs) H:=by
 obtain ⟨p1,p2,xs,ys,rfl,h1,h2,hl,q⟩:=h;refine ⟨E0,?_⟩;unfold Ca;symm;refine cW h1 ?_;symm;refine cW h2 ?_;symm;refine pL (by rw [hl]) ?_;symm;exact q
inductive sp_f33 (K:W.Frag) (vs:List V) (H:Hp) (Q:VK) (E:XK):Prop
 | mk (p q:Addr) (xs ys:List Nat) (h0:vs=[.ref p, .ref q]) (h1:SqT K H p (nv xs)) (h2:SqT K H q (nv ys)) (h3:xs.length=ys.length) (h4:xs.length<=1000) (h5: ∀H',Same H H'->Q (.int (Mm.dH xs ys:Nat)) H'):sp_f33 K vs H Q E
def uF (K:W.Frag) (E:XK) (Eh:XK):TS:=
  (aG (dF (aU (sp_f6 K) [] E0 (ao (aj 0) (ao (aj 1) aC))))
  (bJ (cH (K3 K) (ao (oV [none,none] (vW K (ao (aj 0) (ao (aj 1) aC))) (ji K 2 (bY (az 0) (bY (az 1) jH))) eZ (aU (sp_f28 K) [] E0 (ao (aj 0) (ao (aj 1) aC)))) aC))))
theorem Mv (h:sp_f33 K vs H Q E): ∃Eh,uF K E Eh { nx:=λ _ H'=>Q .non H',rt:=Q } (start ["one","other"] vs) H:=by
 obtain ⟨p1,p2,xs,ys,rfl,h1,h2,hl,hn,q⟩:=h;refine ⟨E0,?_⟩;unfold uF;symm;refine ⟨_,_,_,_,rfl,h1,h2,by rw [Qr,Qr,hl],?_⟩;symm;refine QX (λ i:Nat=>V.int (i:Int)) (λ i:Nat=>V.int (i:Int)) h1 h2 hl (by rfl') (λ x y=>V.int ((Bm.pop (x^^^y):Nat):Int)) ?_ ?_
 .intro i x y p H' hx hy sH hp A kA;refine f9 (SqT.of hp) rfl ?_;symm;exact ⟨x,y,rfl,kA _ (Same.refl _)⟩
 .intro p H' sH hp;symm;refine QM (ns:=List.zipWith (λ x y=>((Bm.pop (x^^^y):Nat):Int)) xs ys) (SqL.of ?_) ?_
  .rw [hp,List.map_zipWith]
  .rw [Mm.rP];exact q _ sH
abbrev Wz:=Addr×Str×List Nat×Int
def WyT (H:Hp) (z:Wz):Prop:= ∃ca,H z.1=some (.tup [.str z.2.1, .ref ca, .int z.2.2.2])/\H ca=some (.tup (nv z.2.2.1))
theorem WyT.same {z:Wz} (h:WyT H z) (s:Same H H'):WyT H' z:=by
 obtain ⟨ca,h1,h2⟩:=h;exact ⟨ca,s.get h1,s.get h2⟩
def LdT (H:Hp) (p:Addr) (ws:List (Str×List Nat×Int)):Prop:= ∃zs:List Wz,zs.map (·.2)=ws/\H p=some (.lst (zs.map λ z:Wz=>V.ref z.1))/\ ∀z∈zs,WyT H z
theorem LdT.same {ws:List (Str×List Nat×Int)} (h:LdT H p ws) (s:Same H H'):LdT H' p ws:=by
 obtain ⟨zs,h1,h2,h3⟩:=h;exact ⟨zs,h1,s.get h2,λ z mz=>(h3 z mz).same s⟩
def aV (ls:List (Str×List Nat)) (ps:List (Str×Int)):List (Str×List Nat×Int):=ps.filterMap λ p=>(Fo.lk ls p.1).map λ co=>(p.1,co,p.2)
theorem nW (ls:List (Str×List Nat)) (ps:List (Str×Int)) (p:Str×Int):aV ls (ps++[p])=aV ls ps++(match Fo.lk ls p.1 with | none=>[] | some co=>[(p.1,co,p.2)]):=by
 unfold aV;rw [List.filterMap_append];congr 1;rw [List.filterMap_cons,List.filterMap_nil]
 cases Fo.lk ls p.1<;>rfl
inductive sp_f17 (K:W.Frag) (vs:List V) (H:Hp) (Q:VK) (E:XK):Prop
 | mk (tb da:Addr) (zs:List Lz) (ps:List (Str×Int)) (h0:vs=[.ref tb, .ref da]) (h1:H tb=some (.dK (zs.map λ z:Lz=>((Sum.inr z.2.1:Key),V.ref z.2.2.1)))) (h2:(∀z∈zs,H z.2.2.1=some (.tup (nv z.2.2.2)))) (h3:DrG K H da ps) (h4:ps.length<=1000) (h5: ∀p H',Same H H'->H p=none->LdT H' p (aV (zs.map λ z:Lz=>(z.2.1,z.2.2.2)) ps)->Q (.ref p) H'):sp_f17 K vs H Q E
def uG (K:W.Frag) (E:XK) (Eh:XK):TS:=
  (bJ (oV [none,none,some 0] (qt K (aj 1)) (ji K 2 (bY (az 0) (bY (az 1) jH))) (tB (Ff (aj 0) (aj 2))) (cO (ao (aj 0) (ao (gn (aj 2) (aj 0)) (ao (aj 1) aC))))))
theorem Mw (h:sp_f17 K vs H Q E): ∃Eh,uG K E Eh { nx:=λ _ H'=>Q .non H',rt:=Q } (start ["letters","doors"] vs) H:=by
 obtain ⟨tb,da,zs,ps,rfl,etb,hz,⟨dz,edz,h2,h3⟩,hpl,q⟩:=h;refine ⟨E0,?_⟩;unfold uG;have hdl:dz.length=ps.length:=by rw [<- edz,Qr]
 symm;refine M8 (λ z:Addr×Str×Int=>V.ref z.1) (zs:=dz) h2 (by rfl') (λ i ys H'=> ∃wz:List Wz,ys=wz.map (λ z:Wz=>V.ref z.1)/\wz.map (·.2)=aV (zs.map λ z:Lz=>(z.2.1,z.2.2.2)) (ps.take i)/\wz.length<=i/\Same H H'/\ ∀z∈wz,WyT H' z) ⟨[],rfl,rfl,by simp,Same.refl _,by simp⟩ ?_ ?_ ?_ ?_
 .rintro i ys H' ⟨wz,rfl,_,_,s',_⟩;exact s'.tup h2
 .rintro i ys H' ⟨wz,rfl,_,hl,_⟩;rw [Qr];exact hl
 .rintro i ⟨b,s,room⟩ ys H' hi ⟨wz,rfl,ew,hl,s',hw⟩;have hpi:ps[i]? =some (s,room):=by rw [<- edz,Zj,hi];rfl
  have etk:ps.take (i+1)=ps.take i++[(s,room)]:=by rw [Ys,hpi];rfl
  have tz:=s'.get (h3 _ (Ze hi));dsimp only at tz;refine f9 (SqT.of tz) rfl ?_;symm;refine ⟨tb,_,rfl,DGet.k (k:=Sum.inr s) (s'.get etb),?_⟩
  cases hlk:Fo.lk (zs.map λ z:Lz=>(z.2.1,z.2.2.2)) s with
  | none=>
   have hv:bF (zs.map λ z:Lz=>((Sum.inr z.2.1:Key),V.ref z.2.2.1)) (Sum.inr s)=none:=gP (f:=λ z:Lz=>(Sum.inr z.2.1:Key)) (g:=λ z:Lz=>V.ref z.2.2.1) λ m=>by
    obtain ⟨z,mz,e⟩:=Zb.mp m;obtain ⟨c,ec⟩:=Fo.uz (ls:=zs.map λ z:Lz=>(z.2.1,z.2.2.2)) (s:=s) (by rw [Zq];exact Zb.mpr ⟨z,mz,Sum.inr.inj e⟩);rw [hlk] at ec
    cases ec
   rw [hv];symm;show if false=true then _ else _
   symm;exact ⟨wz,rfl,by rw [etk,nW,ew];show _=_++(match Fo.lk (zs.map λ z:Lz=>(z.2.1,z.2.2.2)) s with | none=>[] | some co=>[(s,co,room)]);rw [hlk,Xa],by rfl',s',hw⟩
  | some co=>
   obtain ⟨z,mz,e1,e2⟩:=lM hlk;rw [e2];symm;show if true=true then _ else _
   symm;refine ⟨tb, .ref z.2.2.1,rfl,by rw [<- e2];exact DGet.k (k:=Sum.inr s) (s'.get etb),?_⟩;symm;intro t ht;refine ⟨wz++[(t,s,co,room)],by simp,?_,by simp;rfl',s'.new ht,λ y my=> ?_⟩
   .rw [etk,nW,Zh,ew];show _=_++(match Fo.lk (zs.map λ z:Lz=>(z.2.1,z.2.2.2)) s with | none=>[] | some co=>[(s,co,room)]);rw [hlk];rfl
   .rcases Zi.mp my with my | my
    .exact (hw y my).same (aB ht _)
    .rw [Za.mp my];exact ⟨z.2.2.1,aa,by rw [<- e1];exact aA ht (s'.get (hz z mz))⟩
 .rintro ys H' ⟨wz,rfl,ew,hl,s',hw⟩ p hp;rw [Xb (by rfl')] at ew;exact q p _ (s'.new hp) (s'.free hp) ⟨wz,ew,aa,λ z mz=>(hw z mz).same (aB hp _)⟩
def WsT (H:Hp) (p:Addr) (wss:List (List (Str×List Nat×Int))):Prop:= ∃rs:List (Addr×List (Str×List Nat×Int)),rs.map (·.2)=wss/\H p=some (.lst (rs.map λ r=>V.ref r.1))/\ ∀r∈rs,LdT H r.1 r.2
theorem WsT.same (h:WsT H p wss) (s:Same H H'):WsT H' p wss:=by
 obtain ⟨rs,h1,h2,h3⟩:=h;exact ⟨rs,h1,s.get h2,λ r mr=>(h3 r mr).same s⟩
inductive sp_f21 (K:W.Frag) (vs:List V) (H:Hp) (Q:VK) (E:XK):Prop
 | mk (f ha:Addr) (h:Nat) (ls:List (Str×List Nat)) (ds:List (List (Str×Int))) (es:List Int) (h0:vs=[.ref f, .ref ha]) (h1:FnF K H f h ls) (h2:Fo.Wf h ls) (h3:HsG K H ha ds es) (h4:ds.length<=1000) (h5:(∀ps∈ds,ps.length<=1000)) (h6: ∀p H',Same H H'->H p=none->WsT H' p (ds.map (aV ls))->Q (.ref p) H'):sp_f21 K vs H Q E
def uH (K:W.Frag) (E:XK) (Eh:XK):TS:=
  (aG (aJ (cH (gW K) (ao (aH (aR K) (aj 0) (tC (V.int 1))) aC)) (az 2))
  (bJ (oV [none,some 2] (qt K (aH (aR K) (aj 1) (tC (V.int 0)))) (az 0) eZ (aU (sp_f17 K) [] E0 (ao (aj 1) (ao (aj 0) aC))))))
theorem Mx (h:sp_f21 K vs H Q E): ∃Eh,uH K E Eh { nx:=λ _ H'=>Q .non H',rt:=Q } (start ["font","house","letters"] vs) H:=by
 obtain ⟨f,ha,h,ls,ds,es,rfl,hF,wf,⟨d,e,rs,a1,a2,a3,a4,a5⟩,hdl,hpl,q⟩:=h;refine ⟨E0,?_⟩;unfold uH;obtain ⟨l,ob,zs,h1,ez,hob,h3,h4⟩:=id hF;have hl:zs.length=ls.length:=by rw [<- ez,Qr]
 have hrl:rs.length=ds.length:=by rw [<- a2,Qr]
 have hnd:(zs.map (·.2.1)).Nodup:=by
  have:=lN wf.up;rw [<- ez,Zq] at this;exact this
 symm;refine dG h1 ?_;symm;refine lK (zs:=zs.map λ z:Lz=>(z.1,z.2.1,V.ref z.2.2.1)) hob (by rw [Zq];exact h3) (λ z m=> ?_) (by rw [Zq];exact hnd) (by rw [Qr];have:=wf.le;rfl') λ tb htb=> ?_
 .obtain ⟨y,my,rfl⟩:=Zb.mp m;exact SqT.of (h4 y my).1
 rw [Zq];have S1:Same H (upd H tb (HO.dK (zs.map ((λ z:Addr×Str×V=>((Sum.inr z.2.1:Key),z.2.2))∘λ z:Lz=>(z.1,z.2.1,V.ref z.2.2.1))))):=aB htb _;have etb:upd H tb (HO.dK (zs.map ((λ z:Addr×Str×V=>((Sum.inr z.2.1:Key),z.2.2))∘λ z:Lz=>(z.1,z.2.1,V.ref z.2.2.1)))) tb=some (.dK (zs.map λ z:Lz=>((Sum.inr z.2.1:Key),V.ref z.2.2.1))):=aa;generalize upd H tb (HO.dK (zs.map ((λ z:Addr×Str×V=>((Sum.inr z.2.1:Key),z.2.2))∘λ z:Lz=>(z.1,z.2.1,V.ref z.2.2.1))))=H1 at S1 etb;symm;refine dX (S1.get a1) ?_;refine M8 (λ r:Addr×List (Str×Int)=>V.ref r.1) (zs:=rs) (S1.tup a3) (by rfl') (λ i ys H'=> ∃wr:List (Addr×List (Str×List Nat×Int)),ys=wr.map (λ r=>V.ref r.1)/\wr.map (·.2)=(ds.take i).map (aV ls)/\Same H1 H'/\ ∀r∈wr,LdT H' r.1 r.2) ⟨[],rfl,rfl,Same.refl _,by simp⟩ ?_ ?_ ?_ ?_
 .rintro i ys H' ⟨wr,rfl,_,s',_⟩;exact s'.tup (S1.tup a3)
 .rintro i ys H' ⟨wr,rfl,ew,_⟩;have:=Yt List.length ew;rw [Qr,Qr,Yd] at this;rw [Qr];rfl'
 .rintro i ⟨ra,ps⟩ ys H' hi ⟨wr,rfl,ew,s',hw⟩;have hdi:ds[i]? =some ps:=by rw [<- a2,Zj,hi];rfl
  have S':=S1.trans s';symm;refine ⟨tb,ra,zs,ps,rfl,s'.get etb,λ z mz=>S'.get (h4 z mz).2,(a4 _ (Ze hi)).same S',hpl ps (Ze hdi),λ p H2 s2 hp hL=> ?_⟩;symm;rw [ez] at hL;refine ⟨wr++[(p,aV ls ps)],by simp,by rw [Zh,ew,Ys,hdi,Zh];rfl,s'.trans s2,λ r mr=> ?_⟩;rcases Zi.mp mr with mr | mr
  .exact (hw r mr).same s2
  .rw [Za.mp mr];exact hL
 .rintro ys H' ⟨wr,rfl,ew,s',hw⟩ p hp;rw [Xb (by rfl')] at ew;exact q p _ ((S1.trans s').new hp) ((S1.trans s').free hp) ⟨wr,ew,aa,λ r mr=>(hw r mr).same (aB hp _)⟩
def cst (ys co:List Nat):Nat:=Mm.dH (co.take (min co.length ys.length)) (ys.take (min co.length ys.length))
def wG (ys:List Nat) (ls:List (Str×List Nat)):List (Str×Nat):=ls.map λ p=>(p.1,cst ys p.2)
def wH (cs:List (Str×Nat)):List (Key×V):=cs.map λ p=>(Sum.inr p.1,V.int (p.2:Nat))
theorem uI {ys:List Nat} {s:Str} {co:List Nat}: ∀ {ls:List (Str×List Nat)},Fo.lk ls s=some co->bF (wH (wG ys ls)) (Sum.inr s)=some (V.int (cst ys co:Nat))
 | [],h=>by cases h
 | p::r,h=>by
  rw [Fo.jf] at h;show bF ((Sum.inr p.1,V.int (cst ys p.2:Nat))::wH (wG ys r)) (Sum.inr s)=_;by_cases e:p.1=s
  .rw [if_pos e] at h
   cases h;rw [c7 (by show Sum.inr _=Sum.inr _;rw [e])]
  .rw [if_neg e] at h;rw [bQ (by intro z;exact e (Sum.inr.inj z))];exact uI h
inductive sp_f9 (K:W.Frag) (vs:List V) (H:Hp) (Q:VK) (E:XK):Prop
 | mk (f o:Addr) (h:Nat) (ls:List (Str×List Nat)) (ys:List Nat) (h0:vs=[.ref f, .ref o]) (h1:Vp K H f h ls) (h2:Fo.Wf h ls) (h3:SqT K H o (nv ys)) (h4:ys.length<=1000) (h5: ∀r H',Same H H'->H r=none->H' r=some (.dK (wH (wG ys ls)))->Q (.ref r) H'):sp_f9 K vs H Q E
abbrev Hr (K:W.Frag):TS:=
  (aG (aJ (cH jl (ao (cH (cB K) (ao (aj 4) aC)) (ao (cH (cB K) (ao (aj 1) aC)) aC))) (az 5))
  (mX (aj 2) (aj 3) (aU (sp_f33 K) [] E0 (ao (vJ (qR K) (aj 4) cJ (dM (aj 5))) (ao (vJ (qR K) (aj 1) cJ (dM (aj 5))) aC)))))
def Cd (K:W.Frag) (E:XK) (Eh:XK):TS:=
  (aG (aJ oM (az 2))
  (aG (eY (qt K (aH (aR K) (aj 0) (tC (V.int 1)))) (ji K 2 (bY (az 3) (bY (az 4) jH))) (Hr K))
  (bJ (aj 2))))
theorem R3 (h:sp_f9 K vs H Q E): ∃Eh,Cd K E Eh { nx:=λ _ H'=>Q .non H',rt:=Q } (start ["font","over","costs","sign","columns","wide"] vs) H:=by
 obtain ⟨f,o,h,ls,ys,rfl,hF,wf,hO,hyl,q⟩:=h;refine ⟨E0,?_⟩;unfold Cd;have hnd:(ls.map (·.1)).Nodup:=wf.up.imp λ hlt e=>by subst e;exact List.lt_irrefl _ hlt
 obtain ⟨l,zs,t1,ezs,t3,t4⟩:=id hF;have hzl:zs.length=ls.length:=by rw [<- ezs,Qr]
 have hle:=wf.le;symm;intro r hr;symm;refine dG (aA hr t1) ?_;have hfr: ∀p'∈[r],H p'=none:=λ p' hp'=>by rw [Za.mp hp'];exact hr
 walk_at "ns";refine IK (λ z:Lz=>V.ref z.1) ((aB hr _).tup t3) (λ i Z H'=>Sb [r] H H'/\H' r=some (.dK (wH (wG ys (ls.take i))))/\ ∃o1 o2 o3,Z=[some (.ref f),some (.ref o),some (.ref r),o1,o2,o3]) ⟨Sb.of (aB hr _),aa,_,_,_,rfl⟩ ?_ ?_ ?_
 .rintro i Z H' ⟨sb,_⟩;exact (sb.off hfr).tup t3
 .rintro i ⟨za,s,ca,co⟩ Z H' hi ⟨sb,er,o1,o2,o3,rfl⟩;have S:=sb.off hfr;have mz:=Ze hi;obtain ⟨u1,u2⟩:=t4 _ mz;dsimp only at u1 u2;have hli:ls[i]? =some (s,co):=by rw [<- ezs,Zj,hi];rfl
  have c1:=wf.c1 _ (Ze hli);dsimp only at c1;have hil:i<ls.length:=(Zo.mp hli).1;have etk:ls.take (i+1)=ls.take i++[(s,co)]:=by rw [Ys,hli];rfl
  have hkey:s∉(ls.take i).map (·.1):=by
   have h1:((ls.take (i+1)).map (·.1)).Nodup:=List.Nodup.sublist ((List.take_sublist _ _).map _) hnd;rw [etk,Zh,Xc] at h1;exact λ m=>h1.2.2 s m s (by simp) rfl
  refine f9 (SqT.of (S.get u1)) rfl ?_;symm;refine cW (SqT.of (S.get u2)) ?_;rw [Qr];symm;refine cW (S.tup hO) ?_;rw [Qr];symm;rw [show (if (ys.length:Int)<(co.length:Int) then (ys.length:Int) else (co.length:Int))=((min co.length ys.length:Nat):Int) by split<;>rfl'];walk_at "ns";refine J0 (SqT.of (S.get u2)) λ p1 H1 s1 e1=> ?_
  rw [uw (by rfl'),Yh,nv,<- List.map_take] at e1;symm;refine J0 ((S.trans s1).tup hO) λ p2 H2 s2 e2=> ?_
  rw [uw (by rfl'),Yh,nv,<- List.map_take] at e2;symm;refine ⟨p1,p2,_,_,rfl,s2.tup e1,e2,by rw [Yd,Yd];rfl',by rw [Yd];rfl',λ H3 s3=> ?_⟩;have T3:=(s1.trans s2).trans s3;have er3:=T3.get er;have hv:bF (wH (wG ys (ls.take i))) (Sum.inr s)=none:=gP (f:=λ p:Str×Nat=>(Sum.inr p.1:Key)) (g:=λ p:Str×Nat=>V.int (p.2:Nat)) λ m=>by
   obtain ⟨p,mp,e⟩:=Zb.mp m;obtain ⟨y,my,rfl⟩:=Zb.mp mp;exact hkey (Zb.mpr ⟨y,my,Sum.inr.inj e⟩)
  symm;refine ⟨r,_,rfl,DPut.k (k:=Sum.inr s) er3 (Yb (by unfold wH wG;rw [Qr,Qr,Yd];rfl':_<=40) (by decide)),?_⟩;rw [gF _ hv];symm;refine ⟨(sb.same T3).set (by simp),?_,_,_,_,rfl⟩;rw [aa,etk];unfold wG wH;rw [Zh,Zh];rfl
 .rintro Z H' ⟨sb,er,o1,o2,o3,rfl⟩;rw [hzl,Xh] at er;symm;exact q r H' (sb.off hfr) hr er
section
variable {α:Type} [DecidableEq α]
def gw (L qs:List α):List α:=qs.foldl (λ L q=>if q∈L then L else L++[q]) L
theorem lR (L:List α):gw L []=L:=rfl
theorem ym (L qs:List α) (q:α):gw L (qs++[q])=if q∈gw L qs then gw L qs else gw L qs++[q]:=by
 unfold gw;rw [List.foldl_append];rfl
theorem lU: ∀ (qs L:List α),∃E,gw L qs=L++E
 | [],L=>⟨[],by rw [lR,Xa]⟩
 | q::qs,L=>by
  show ∃E,gw (if q∈L then L else L++[q]) qs=L++E;split
  .exact lU qs L
  .obtain ⟨E,e⟩:=lU qs (L++[q]);exact ⟨q::E,by rw [e,Yk];rfl⟩
theorem fG: ∀ {qs L:List α} {x:α},x∈gw L qs↔x∈L\/x∈qs
 | [],L,x=>by rw [lR];simp
 | q :: qs, L, x => by
  show x∈gw (if q∈L then L else L++[q]) qs↔_;rw [fG];split
  .rename_i h;constructor
   .rintro (m | m)
    .exact .inl m
    .exact .inr (Zv _ m)
   .rintro (m | m)
    .exact .inl m
    .rcases Zm.mp m with rfl | m
     .exact .inl h
     .exact .inr m
  .rw [Zi,Za,Zm,or_assoc]
theorem jW: ∀ {qs L:List α},L.Nodup->(gw L qs).Nodup
 | [],L,h=>h
 | q::qs,L,h=>by
  show (gw (if q∈L then L else L++[q]) qs).Nodup;split
  .exact jW h
  .rename_i hq;refine jW (Xc.mpr ⟨h,by simp,λ a m b mb e=>hq ?_⟩);rw [Za.mp mb] at e;rw [<- e];exact m
def cD (nx:α->List α) (st:α):Nat->List α
 | 0=>[st]
 | k+1=>match (cD nx st k)[k]? with
  | none=>cD nx st k
  | some p=>gw (cD nx st k) (nx p)
theorem fH {nx:α->List α} {st:α} {k:Nat} {p:α} (h:(cD nx st k)[k]? =some p):cD nx st (k+1)=gw (cD nx st k) (nx p):=by
 rw [cD,h]
theorem Ce {nx:α->List α} {st:α} {k:Nat} (h:(cD nx st k).length<=k):cD nx st (k+1)=cD nx st k:=by
 rw [cD,List.getElem?_eq_none h]
theorem nY (nx:α->List α) (st:α) (k:Nat): ∃E,cD nx st (k+1)=cD nx st k++E:=by
 cases h:(cD nx st k)[k]? with
 | none=>exact ⟨[],by rw [cD,h,Xa]⟩
 | some p=>rw [fH h];exact lU _ _
theorem lV (nx:α->List α) (st:α) (k:Nat): ∀j,∃E,cD nx st (k+j)=cD nx st k++E
 | 0=>⟨[],by rw [Nat.add_zero,Xa]⟩
 | j+1=>by
  obtain ⟨E,e⟩:=lV nx st k j;obtain ⟨F,f⟩:=nY nx st (k+j);exact ⟨E++F,by rw [<- Nat.add_assoc,f,e,Yk]⟩
theorem dY (nx:α->List α) (st:α): ∀k,(cD nx st k).Nodup
 | 0=>by rw [cD];simp
 | k+1=>by
  cases h:(cD nx st k)[k]? with
  | none=>rw [cD,h];exact dY nx st k
  | some p=>rw [fH h];exact jW (dY nx st k)
theorem ik {nx:α->List α} {st:α} {k:Nat} (h:(cD nx st k).length<=k): ∀j,cD nx st (k+j)=cD nx st k
 | 0=>rfl
 | j+1=>by
  have e:=ik h j;rw [<- Nat.add_assoc,Ce (by rw [e];rfl'),e]
theorem su {nx:α->List α} {st:α}: ∀ {k j:Nat} {p q:α},j<k->(cD nx st k)[j]? =some p->q∈nx p->q∈cD nx st k:=λ {k j p q} hj hp hq=>by
 obtain ⟨i,rfl⟩: ∃i,k=(j+1)+i:=⟨k-(j+1),by rfl'⟩;obtain ⟨E,e⟩:=lV nx st (j+1) i;obtain ⟨F,f⟩:=nY nx st j;rw [e];refine Zz _ ?_;by_cases c:j<(cD nx st j).length
 .have:(cD nx st j)[j]? =some p:=by
   rw [e,f,Yk,List.getElem?_append_left c] at hp;exact hp
  rw [fH this];exact fG.mpr (.inr hq)
 .have:=ik (nx:=nx) (st:=st) (k:=j) (by rfl') (1+i);rw [<- Nat.add_assoc] at this;rw [this,List.getElem?_eq_none (by rfl')] at hp
  cases hp
theorem cY {nx:α->List α} {st:α} {P:α->Prop} (h0:P st) (hs: ∀p q,P p->q∈nx p->P q): ∀k,∀p∈cD nx st k,P p
 | 0,p,m=>by rw [cD,Za] at m;rw [m];exact h0
 | k+1,p,m=>by
  cases h:(cD nx st k)[k]? with
  | none=>rw [cD,h] at m;exact cY h0 hs k p m
  | some p'=>
   rw [fH h] at m;rcases fG.mp m with m | m
   .exact cY h0 hs k p m
   .exact hs p' p (cY h0 hs k p' (Ze h)) m
end
theorem eX (a b:Str):(a++b).length=a.length+b.length:=by
 show (Str.append a b).length=_;simp [Str.append,Str.length]
theorem cZ {α:Type} [DecidableEq α]: ∀ {l m:List α},l.Nodup->(∀x∈l,x∈m)->l.length<=m.length
 | [],m,_,_=>Yz _
 | x::l,m,hn,hs=>by
  have hx:=hs x Zs;obtain ⟨n1,n2⟩:=Wr.mp hn;have:=cZ (l:=l) (m:=m.erase x) n2 λ y my=>(List.mem_erase_of_ne (λ (e:y=x)=>n1 (by rw [<- e];exact my))).mpr (hs y (Zv _ my))
  rw [List.length_erase_of_mem hx] at this;have:=List.length_pos_of_mem hx;rw [Yu];rfl'
def bR (wss:List (List (Str×List Nat×Int))) (k:Nat):List Int:=cD (λ r=>(wss.getD r.toNat []).map (·.2.2)) 0 k
theorem pQ: ∀ {ps:List (Int×Str)} {r:Int},r∈ps.map (·.1)-> ∃t,(r,t)∈ps/\bF (ps.map λ p=>((Sum.inl p.1:Key),V.str p.2)) (Sum.inl r)=some (V.str t)
 | p::ps,r,m=>by
  rw [Zl];by_cases e:p.1=r
  .exact ⟨p.2,by rw [<- e];exact Zs,by rw [c7 (by rw [e])]⟩
  .obtain ⟨t,h1,h2⟩:=pQ (ps:=ps) (r:=r) (by rcases Zm.mp m with z | z;exact absurd z.symm e;exact z);exact ⟨t,Zv _ h1,by rw [bQ (by intro z;exact e (Sum.inl.inj z))];exact h2⟩
theorem Ht {ps:List (Int×Str)} {r:Int} (h:r∉ps.map (·.1)):bF (ps.map λ p=>((Sum.inl p.1:Key),V.str p.2)) (Sum.inl r)=none:=gP (f:=λ p:Int×Str=>(Sum.inl p.1:Key)) (g:=λ p=>V.str p.2) λ m=>by
 obtain ⟨p,mp,e⟩:=Zb.mp m;exact h (Zb.mpr ⟨p,mp,Sum.inl.inj e⟩)
inductive sp_f0 (K:W.Frag) (vs:List V) (H:Hp) (Q:VK) (E:XK):Prop
 | mk (wa:Addr) (wss:List (List (Str×List Nat×Int))) (h0:vs=[.ref wa]) (h1:WsT H wa wss) (h2:0<wss.length) (h3:wss.length<=100) (h4:(∀ws∈wss,ws.length<=1000/\ ∀w∈ws,w.1.length<=1/\0<=w.2.2/\w.2.2<wss.length)) (h5: ∀r H' (N:Nat) (ps:List (Int×Str)),Same H H'->H r=none->ps.map (·.1)=bR wss N->H' r=some (.dK (ps.map λ p=>((Sum.inl p.1:Key),V.str p.2)))->(bR wss N).length<=N->(∀p∈ps,p.2.length<=ps.length)->Q (.ref r) H'):sp_f0 K vs H Q E
abbrev Hu (K:W.Frag):TS:=
  (aG (aJ (qz K "list" tM (aj 2) (ao (tC (V.int 0)) aC)) (az 3))
  (eY (cQ K (aH (cA K) (aj 0) (aj 3))) (ji K 3 (bY (az 4) (bY (az 5) (bY (az 6) jH)))) (cI (tB (jN (aj 6) (aj 1))) (aG (mX (aj 1) (aj 6) (aH d9 (gn (aj 1) (aj 3)) (aj 4)))
  (dF (qz K "list" cu (aj 2) (ao (aj 6) aC)))) bT)))
def Cg (K:W.Frag) (E:XK) (Eh:XK):TS:=
  (aG (aJ (zr [((tC (V.int 0)),(tC (V.str (Str.ofString ""))))]) (az 1))
  (aG (aJ (cR (ao (tC (V.int 0)) aC)) (az 2))
  (aG (eF (aY (aH jK (cH (cB K) (ao (aj 2) aC)) (tC (V.int 0)))) (Hu K))
  (bJ (aj 1)))))
theorem R4 (h:sp_f0 K vs H Q E): ∃Eh,Cg K E Eh { nx:=λ _ H'=>Q .non H',rt:=Q } (start ["ways","texts","waiting","here","sign","columns","room"] vs) H:=by
 obtain ⟨wa,wss,rfl,hW,hw0,hw1,hws,q⟩:=h;refine ⟨E0,?_⟩;unfold Cg;have hrm: ∀k,∀r∈bR wss k,0<=r/\r<wss.length:=λ k=>cY (P:=λ r:Int=>0<=r/\r<wss.length) ⟨by decide,by rfl'⟩ (λ p q' hp hq=>by
  obtain ⟨w,mw,rfl⟩:=Zb.mp hq;have:wss.getD p.toNat []∈wss:=by rw [Zn,Zd (by rfl')];exact Yy _
  exact ((hws _ this).2 w mw).2) k
 have hrl: ∀k,(bR wss k).length<=wss.length:=λ k=>by
  have:=cZ (l:=bR wss k) (m:=(List.range wss.length).map λ i:Nat=>(i:Int)) (dY _ _ k) λ r mr=>by
   obtain ⟨h0,h1⟩:=hrm k r mr;exact Zb.mpr ⟨r.toNat,Yw.mpr (by rfl'),by rfl'⟩
  rw [Qr,Xi] at this;exact this
 obtain ⟨rs,hW1,hW2,hW3⟩:=id hW;have hrs:rs.length=wss.length:=by rw [<- hW1,Qr]
 symm;intro te hte;symm;refine ⟨aa,[(Sum.inl 0,V.str (Str.ofString ""))],rfl,by simp,?_⟩;have sb0:Sb [te] H (upd (upd H te (HO.dK [])) te (HO.dK (fQ [] [(Sum.inl 0,V.str (Str.ofString ""))]))):=(Sb.of (aB hte _)).set (by simp);have ete0:upd (upd H te (HO.dK [])) te (HO.dK (fQ [] [(Sum.inl 0,V.str (Str.ofString ""))])) te=some (.dK ([((0:Int),(Str.ofString ""))].map λ p=>((Sum.inl p.1:Key),V.str p.2))):=by rw [aa];rfl
 generalize upd (upd H te (HO.dK [])) te (HO.dK (fQ [] [(Sum.inl 0,V.str (Str.ofString ""))]))=H0 at sb0 ete0;symm;intro wl hwl;have n1:te≠wl:=λ e=>by rw [<- e,ete0] at hwl;cases hwl
 have hwl0:H wl=none:=(sb0.off λ p hp=>by rw [Za.mp hp];exact hte).free hwl;have hfr: ∀p∈[te,wl],H p=none:=λ p hp=>by
  simp only [Zm,Yq,Xz] at hp;rcases hp with rfl | rfl
  .exact hte
  .exact hwl0
 symm;walk_at "ns";refine jV (λ Z H'=>Sb [te,wl] H H'/\ ∃ (k:Nat) (ps:List (Int×Str)) (o1 o2 o3 o4:Option V),k<=(bR wss k).length/\ps.map (·.1)=bR wss k/\(∀p∈ps,p.2.length<=ps.length)/\H' te=some (.dK (ps.map λ p=>((Sum.inl p.1:Key),V.str p.2)))/\H' wl=some (.lst (((bR wss k).drop k).map V.int))/\Z=[some (.ref wa),some (.ref te),some (.ref wl),o1,o2,o3,o4]) (λ _ H'=>match H' wl with | some (.lst l)=>(match H' te with | some (.dK m)=>1000-(m.length-l.length) | _=>0) | _=>0) ⟨(Sb.more sb0 (by simp)).new hwl,0,[(0,Str.ofString "")],_,_,_,_,Yz _,rfl,λ p mp=>by rw [Za.mp mp];decide,aA hwl ete0,aa,rfl⟩ ?_ ?_
 .rintro Z H' ⟨sb,k,ps,o1,o2,o3,o4,hk,eps,hpl,ete,ewl,rfl⟩;have S':=sb.off hfr;have hpsl:ps.length=(bR wss k).length:=by rw [<- eps,Qr]
  have hrk:=hrl k;symm;refine cG (SqL.of ewl) ?_;rw [Qr,Yx];symm;refine dW (λ c1=> ?_) λ c1=> ?_
  .have hkl:k<(bR wss k).length:=by rfl'
   obtain ⟨r,hr⟩: ∃r,(bR wss k)[k]? =some r:=⟨_,Zd hkl⟩;have hdr:(bR wss k).drop k=r::(bR wss k).drop (k+1):=by rw [Xp hkl,(Zo.mp hr).2]
   have mr:=Ze hr;obtain ⟨r0,r1⟩:=hrm k r mr;obtain ⟨j,rfl⟩: ∃j:Nat,r=(j:Int):=⟨r.toNat,by rfl'⟩;obtain ⟨rz,hrz⟩: ∃rz,rs[j]? =some rz:=⟨_,Zd (by rfl')⟩;have hwj:wss[j]? =some rz.2:=by rw [<- hW1,Zj,hrz];rfl
   have hgd:wss.getD j []=rz.2:=by rw [Zn,hwj];rfl
   have hnx:bR wss (k+1)=gw (bR wss k) (rz.2.map (·.2.2)):=by
    have:=fH hr;show cD _ _ (k+1)=_;rw [this];show gw _ ((wss.getD ((j:Int)).toNat []).map _)=_;rw [Yh,hgd];rfl
   obtain ⟨hz1000,hzw⟩:=hws rz.2 (Ze hwj);obtain ⟨zs,ez,ezl,hz⟩:=hW3 rz (Ze hrz);have hzl:zs.length=rz.2.length:=by rw [<- ez,Qr]
   symm;refine dO (SqL.of ewl) ?_;symm;rw [hdr,Zl] at ewl;refine Ma ewl ?_;symm;have n2:wl≠te:=n1.symm;have ete1:upd H' wl (HO.lst (((bR wss k).drop (k+1)).map V.int)) te=some (.dK (ps.map λ p=>((Sum.inl p.1:Key),V.str p.2))):=by rw [au n1];exact ete
   have sb1:=sb.set (p:=wl) (o:=HO.lst (((bR wss k).drop (k+1)).map V.int)) (by simp);have S1:=sb1.off hfr;have ewl1:upd H' wl (HO.lst (((bR wss k).drop (k+1)).map V.int)) wl=some (.lst (((bR wss k).drop (k+1)).map V.int)):=aa;generalize upd H' wl (HO.lst (((bR wss k).drop (k+1)).map V.int))=H1 at sb1 S1 ete1 ewl1;refine bU (SqL.of (S1.get hW2)) (aN (j:=j) (v:= .ref rz.1) (by rw [Zj,hrz];rfl)) ?_;walk_at "ns";refine jC (λ z:Wz=>V.ref z.1) (zs:=zs) (SqL.of (S1.get ezl)) (λ i Z H2=>Sb [te,wl] H H2/\ ∃ (ps':List (Int×Str)) (E:List Int) (o2 o3 o4:Option V),ps'.map (·.1)=gw (bR wss k) ((rz.2.map (·.2.2)).take i)/\ps'.map (·.1)=bR wss k++E/\(∀p∈ps',p.2.length<=ps'.length)/\H2 te=some (.dK (ps'.map λ p=>((Sum.inl p.1:Key),V.str p.2)))/\H2 wl=some (.lst (((bR wss k).drop (k+1)++E).map V.int))/\Z=[some (.ref wa),some (.ref te),some (.ref wl),some (.int (j:Nat)),o2,o3,o4]) ⟨sb1,ps,[],_,_,_,by rw [List.take_zero,lR];exact eps,by rw [Xa];exact eps,hpl,ete1,by rw [Xa];exact ewl1,rfl⟩ ?_ ?_ ?_
   .rintro i Z H2 ⟨sb2,_⟩;exact SqL.of ((sb2.off hfr).get ezl)
   .rintro i ⟨za,s,co,room⟩ Z H2 hi ⟨sb2,ps',E,o2,o3,o4,ea,eE,hpl',ete2,ewl2,rfl⟩;have S2:=sb2.off hfr;obtain ⟨ca,v1,v2⟩:=hz _ (Ze hi);dsimp only at v1 v2;have hwi:rz.2[i]? =some (s,co,room):=by rw [<- ez,Zj,hi];rfl
    have hsl:=(hzw _ (Ze hwi)).1;dsimp only at hsl;have etk:(rz.2.map (·.2.2)).take (i+1)=(rz.2.map (·.2.2)).take i++[room]:=by rw [Ys,Zj,hwi];rfl
    have hpl2:ps'.length<=100:=by
     have h1:=cZ (l:=ps'.map (·.1)) (m:=bR wss (k+1)) (by rw [ea];exact jW (dY _ _ k)) λ x mx=>by
      rw [ea] at mx;rw [hnx];rcases fG.mp mx with m | m
      .exact fG.mpr (.inl m)
      .exact fG.mpr (.inr (List.mem_of_mem_take m))
     have h2:=hrl (k+1);rw [Qr] at h1;rfl'
    rw [etk,ym];refine f9 (SqT.of (S2.get v1)) rfl ?_;symm;refine ⟨te,_,rfl,DGet.k (k:=Sum.inl room) ete2,?_⟩;by_cases m:room∈gw (bR wss k) ((rz.2.map (·.2.2)).take i)
    .obtain ⟨tt,_,ev⟩:=pQ (ps:=ps') (r:=room) (by rw [ea];exact m);rw [ev,if_pos m];symm;show if (!true)=true then _ else _
     symm;exact ⟨sb2,ps',E,_,_,_,ea,eE,hpl',ete2,ewl2,rfl⟩
    .have ev:=Ht (ps:=ps') (r:=room) (by rw [ea];exact m);rw [ev,if_neg m];obtain ⟨tj,mtj,evj⟩:=pQ (ps:=ps') (r:=(j:Int)) (by rw [eE];exact Zz _ mr);have htl:=hpl' _ mtj;dsimp only at htl;symm;show if (!false)=true then _ else _
     symm;refine ⟨te,V.str tj,rfl,by rw [<- evj];exact DGet.k (k:=Sum.inl (j:Int)) ete2,?_⟩;symm;refine jo (by rfl') ?_;symm;refine ⟨te,_,rfl,DPut.k (k:=Sum.inl room) ete2 (Yb (by rw [Qr];rfl':_<=2000) (by decide)),?_⟩;rw [gF _ ev];symm;have ewl3: ∀w,upd H2 te w wl=some (.lst (((bR wss k).drop (k+1)++E).map V.int)):=λ w=>by rw [au n2];exact ewl2
     refine dO (SqL.of (ewl3 _)) ?_;symm;refine fD (ewl3 _) (by rw [Qr,Zg,Yx];have:=Yt List.length eE;rw [Qr,Zg] at this;rfl') ?_;symm;refine ⟨(sb2.set (by simp)).set (by simp),ps'++[(room,tj++s)],E++[room],_,_,_,by rw [Zh,ea];rfl,by rw [Zh,eE,Yk];rfl,λ p mp=> ?_,by rw [au n1,aa,Zh];rfl,by rw [aa,<- Yk,Zh (l₂:=[room])];rfl,rfl⟩;rw [Zg,Yn];rcases Zi.mp mp with mp | mp
     .have:=hpl' p mp;rfl'
     .rw [Za.mp mp];show (tj++s).length<=_;rw [show (tj++s).length=tj.length+s.length from eX _ _];rfl'
   .rintro Z H2 ⟨sb2,ps',E,o2,o3,o4,ea,eE,hpl',ete2,ewl2,rfl⟩;rw [Xb (by rw [Qr];rfl'),<- hnx] at ea;have eD:(bR wss k).drop (k+1)++E=(bR wss (k+1)).drop (k+1):=by
     rw [<- ea,eE,List.drop_append_of_le_length (by rfl')]
    rw [eD] at ewl2;have hl2:ps'.length=(bR wss (k+1)).length:=by rw [<- ea,Qr]
    have hk1:k+1<=(bR wss (k+1)).length:=by
     rw [<- hl2];have:=Yt List.length eE;rw [Qr,Zg] at this;rfl'
    have hrk1:=hrl (k+1);refine ⟨⟨sb2,k+1,ps',_,_,_,_,hk1,ea,hpl',ete2,ewl2,rfl⟩,?_⟩;show (match H2 wl with | some (.lst l)=>(match H2 te with | some (.dK m)=>1000-(m.length-l.length) | _=>0) | _=>0)<(match H' wl with | some (.lst l)=>(match H' te with | some (.dK m)=>1000-(m.length-l.length) | _=>0) | _=>0);rw [ewl2,ete2,ewl,ete];dsimp only;simp only [Qr,Yu,Yx];rw [show ps'.length-((bR wss (k+1)).length-(k+1))=k+1 by rfl',show ps.length-((bR wss k).length-(k+1)+1)=k by rfl'];exact Nat.sub_lt_sub_left (by rfl') (Nat.lt_succ_self k)
  .symm;exact q te H' k ps S' hte eps ete (by rfl') hpl
 .rintro Z H Q Q' hq ⟨v,hv,x,n,e,hl,i,j,e1,e2,k,e3,z⟩;exact ⟨v,hv,x,n,e,hl,i,j,e1,e2,k,e3,hq _ _ z⟩
def iy (w:Str×List Nat×Int) (ah:Int) (ys:List Nat):Int×Int×List Nat:=if w.2.1.length<=ys.length then (w.2.2,ah,ys.drop w.2.1.length) else (ah,w.2.2,w.2.1.drop ys.length)
def StT (K:W.Frag) (H:Hp) (a:Addr) (st:Int×Int×List Nat):Prop:= ∃c,H a=some (.tup [.int st.1, .int st.2.1, .ref c])/\H c=some (.tup (nv st.2.2))
theorem StT.same {K:W.Frag} {a:Addr} (h:StT K H a st) (s:Same H H'):StT K H' a st:=by
 obtain ⟨c,h1,h2⟩:=h;exact ⟨c,s.get h1,s.get h2⟩
inductive sp_f5 (K:W.Frag) (vs:List V) (H:Hp) (Q:VK) (E:XK):Prop
 | mk (wa o:Addr) (w:Str×List Nat×Int) (ah:Int) (ys:List Nat) (h0:vs=[.ref wa, .int ah, .ref o]) (h1:WyT H (wa,w)) (h2:H o=some (.tup (nv ys))) (h3: ∀r H',Same H H'->H r=none->StT K H' r (iy w ah ys)->Q (.ref r) H'):sp_f5 K vs H Q E
abbrev Hv (K:W.Frag):TS:=
  (aG (cI (aY (aH Py (aj 3) (cH (cB K) (ao (aj 2) aC)))) (bJ (cO (ao (aH (aR K) (aj 0) (tC (V.int 2))) (ao (aj 1) (ao (vJ (qR K) (aj 2) (dM (aj 3)) cJ) aC))))) bT)
  (bJ (cO (ao (aj 1) (ao (aH (aR K) (aj 0) (tC (V.int 2))) (ao (vJ (qR K) (aH (aR K) (aj 0) (tC (V.int 1))) (dM (cH (cB K) (ao (aj 2) aC))) cJ) aC))))))
def Ci (K:W.Frag) (E:XK) (Eh:XK):TS:=
  (aG (aJ (cH (cB K) (ao (aH (aR K) (aj 0) (tC (V.int 1))) aC)) (az 3))
  (Hv K))
theorem R5 (h:sp_f5 K vs H Q E): ∃Eh,Ci K E Eh { nx:=λ _ H'=>Q .non H',rt:=Q } (start ["way","ahead","over","wide"] vs) H:=by
 obtain ⟨wa,o,⟨s,co,room⟩,ah,ys,rfl,⟨ca,w1,w2⟩,hO,q⟩:=h;refine ⟨E0,?_⟩;unfold Ci;dsimp only at w1 w2;symm;refine dG w1 ?_;symm;refine cW (SqT.of w2) ?_;rw [Qr];symm;refine cW (SqT.of hO) ?_;rw [Qr];symm;refine dW (λ c=> ?_) λ c=> ?_
 .symm;refine iw w1 ?_;symm;refine BP hO λ p1 H1 s1 e1=> ?_
  rw [jd (by rfl'),Yh,nv,<- List.map_drop] at e1;symm;intro r hr;refine q r _ (s1.new hr) (s1.free hr) ?_;unfold iy;rw [if_pos (show co.length<=ys.length by rfl')];exact ⟨p1,aa,aA hr e1⟩
 .symm;refine iw w1 ?_;symm;refine dG w1 ?_;symm;refine cW (SqT.of hO) ?_;rw [Qr];symm;refine BP w2 λ p1 H1 s1 e1=> ?_
  rw [jd (by rfl'),Yh,nv,<- List.map_drop] at e1;symm;intro r hr;refine q r _ (s1.new hr) (s1.free hr) ?_;unfold iy;rw [if_neg (show ¬co.length<=ys.length by rfl')];exact ⟨p1,aa,aA hr e1⟩
def R6 (wss:List (List (Str×List Nat×Int))) (r:Int):List ((Str×List Nat×Int)×(Str×List Nat×Int)×Int):=(List.range (wss.getD r.toNat []).length).flatMap λ j=>(List.range j).map λ k=>((wss.getD r.toNat []).getD k default,(wss.getD r.toNat []).getD j default,r)
def lZ (wss:List (List (Str×List Nat×Int))) (rs:List Int):List ((Str×List Nat×Int)×(Str×List Nat×Int)×Int):=rs.flatMap (R6 wss)
abbrev Fz:=Addr×Addr×Addr×Addr×((Str×List Nat×Int)×(Str×List Nat×Int)×Int)
def FkA (K:W.Frag) (H:Hp) (z:Fz):Prop:=H z.1=some (.tup [.int (cst z.2.2.2.2.2.1.2.1 z.2.2.2.2.1.2.1:Nat), .ref z.2.1, .int z.2.2.2.2.2.2, .ref z.2.2.1, .ref z.2.2.2.1])/\StT K H z.2.1 (iy z.2.2.2.2.1 z.2.2.2.2.2.1.2.2 z.2.2.2.2.2.1.2.1)/\WyT H (z.2.2.1,z.2.2.2.2.1)/\WyT H (z.2.2.2.1,z.2.2.2.2.2.1)
theorem FkA.same {K:W.Frag} {z:Fz} (h:FkA K H z) (s:Same H H'):FkA K H' z:=⟨s.get h.1,h.2.1.same s,h.2.2.1.same s,h.2.2.2.same s⟩
theorem FkA.app {K:W.Frag} {z:Fz} {o:HO} (h:FkA K H z) (e:H q=some (.lst ys)):FkA K (upd H q o) z:=by
 obtain ⟨h1,⟨c,h2,h3⟩,⟨d,h4,h5⟩,⟨f,h6,h7⟩⟩:=h;exact ⟨cX h1 e,⟨c,cX h2 e,cX h3 e⟩,⟨d,cX h4 e,cX h5 e⟩,⟨f,cX h6 e,cX h7 e⟩⟩
theorem My {ws:List (Str×List Nat×Int)} (h:wss[j]? =some ws):R6 wss (j:Int)=(List.range ws.length).flatMap λ b=>(List.range b).map λ a=>(ws.getD a default,ws.getD b default,(j:Int)):=by
 unfold R6;rw [Yh,Zn,h];rfl
def Ou (K:W.Frag) (H:Hp) (a:Addr) (fs:List ((Str×List Nat×Int)×(Str×List Nat×Int)×Int)):Prop:= ∃zs:List Fz,zs.map (λ z:Fz=>z.2.2.2.2)=fs/\H a=some (.lst (zs.map λ z:Fz=>V.ref z.1))/\ ∀z∈zs,FkA K H z
inductive sp_f27 (K:W.Frag) (vs:List V) (H:Hp) (Q:VK) (E:XK):Prop
 | mk (f wa:Addr) (h:Nat) (ls:List (Str×List Nat)) (wss:List (List (Str×List Nat×Int))) (h0:vs=[.ref f, .ref wa]) (h1:FnF K H f h ls) (h2:Fo.Wf h ls) (h3:WsT H wa wss) (h4:0<wss.length) (h5:wss.length<=100) (h6:(∀ws∈wss,ws.length<=100/\ ∀w∈ws,Fo.lk ls w.1=some w.2.1/\0<=w.2.2/\w.2.2<wss.length)) (h7: ∀p H' N,Same H H'->H p=none->(bR wss N).length<=N->Ou K H' p (lZ wss (bR wss N))->Q (.ref p) H'):sp_f27 K vs H Q E
abbrev Cj (K:W.Frag):TS:=
  (aG (aJ (aU (sp_f5 K) [] E0 (ao (aj 9) (ao (aH (aR K) (aj 8) (tC (V.int 2))) (ao (aH (aR K) (aj 8) (tC (V.int 1))) aC)))) (az 10))
  (dF (qz K "list" cu (aj 5) (ao (cO (ao (gn (gn (aj 2) (aH (aR K) (aj 8) (tC (V.int 0)))) (aH (aR K) (aj 9) (tC (V.int 0)))) (ao (aj 10) (ao (aj 6) (ao (aj 9) (ao (aj 8) aC)))))) aC))))
abbrev Cm (K:W.Frag):TS:=
  (aG (eY (tY (aU (sp_f0 K) [] E0 (ao (aj 1) aC))) (az 6) (eY (vU K (ao (aH (cA K) (aj 1) (aj 6)) aC)) (ji K 2 (bY (az 7) (bY (az 8) jH))) (eY (cQ K (vJ (qy K) (aH (cA K) (aj 1) (aj 6)) cJ (dM (aj 7)))) (az 9) (Cj K))))
  (bJ (aj 5)))
def uJ (K:W.Frag) (E:XK) (Eh:XK):TS:=
  (aG (aJ oM (az 2))
  (aG (eY (qt K (aH (aR K) (aj 0) (tC (V.int 1)))) (ji K 2 (bY (az 3) (bY (az 4) jH))) (mX (aj 2) (aj 3) (aU (sp_f9 K) [] E0 (ao (aj 0) (ao (aj 4) aC)))))
  (aG (aJ (cR aC) (az 5))
  (Cm K))))
theorem Mz (h:sp_f27 K vs H Q E): ∃Eh,uJ K E Eh { nx:=λ _ H'=>Q .non H',rt:=Q } (start ["font","ways","costs","sign","columns","found","room","place","later","way","stand"] vs) H:=by
 obtain ⟨f,wa,h,ls,wss,rfl,hF,wf,hW,hw0,hw1,hws,q⟩:=h;refine ⟨E0,?_⟩;unfold uJ;have hnd:(ls.map (·.1)).Nodup:=wf.up.imp λ hlt e=>by subst e;exact List.lt_irrefl _ hlt
 obtain ⟨l,zs,t1,ezs,t3,t4⟩:=id hF.t;have hzl:zs.length=ls.length:=by rw [<- ezs,Qr]
 have hle:=wf.le;have hrm: ∀k,∀r∈bR wss k,0<=r/\r<wss.length:=λ k=>cY (P:=λ r:Int=>0<=r/\r<wss.length) ⟨by decide,by rfl'⟩ (λ p q' hp hq=>by
  obtain ⟨w,mw,rfl⟩:=Zb.mp hq;have:wss.getD p.toNat []∈wss:=by rw [Zn,Zd (by rfl')];exact Yy _
  exact ((hws _ this).2 w mw).2) k
 have hrl: ∀k,(bR wss k).length<=wss.length:=λ k=>by
  have:=cZ (l:=bR wss k) (m:=(List.range wss.length).map λ i:Nat=>(i:Int)) (dY _ _ k) λ r mr=>by
   obtain ⟨h0,h1⟩:=hrm k r mr;exact Zb.mpr ⟨r.toNat,Yw.mpr (by rfl'),by rfl'⟩
  rw [Qr,Xi] at this;exact this
 symm;intro ca hca;symm;refine dG (aA hca t1) ?_;have hfr: ∀p'∈[ca],H p'=none:=λ p' hp'=>by rw [Za.mp hp'];exact hca
 walk_at "ns";refine IK (λ z:Lz=>V.ref z.1) ((aB hca _).tup t3) (λ i Z H'=>Sb [ca] H H'/\ ∃ (ks:List (Str×Addr×List Nat)) (o3 o4:Option V),ks.map (λ k=>(k.1,k.2.2))=ls.take i/\H' ca=some (.dK (ks.map λ k=>((Sum.inr k.1:Key),V.ref k.2.1)))/\(∀k∈ks,k.2.1≠ca/\H' k.2.1=some (.dK (wH (wG k.2.2 ls))))/\Z=[some (.ref f),some (.ref wa),some (.ref ca),o3,o4,none,none,none,none,none,none]) ⟨Sb.of (aB hca _),[],_,_,rfl,aa,λ k mk=>(by cases mk),rfl⟩ ?_ ?_ ?_
 .rintro i Z H' ⟨sb,_⟩;exact (sb.off hfr).tup t3
 .rintro i ⟨za,s,cz,co⟩ Z H' hi ⟨sb,ks,o3,o4,eks,eca,hks,rfl⟩;have S:=sb.off hfr;obtain ⟨u1,u2⟩:=t4 _ (Ze hi);dsimp only at u1 u2;have hli:ls[i]? =some (s,co):=by rw [<- ezs,Zj,hi];rfl
  have c1:=wf.c1 _ (Ze hli);dsimp only at c1;have hil:i<ls.length:=(Zo.mp hli).1;have etk:ls.take (i+1)=ls.take i++[(s,co)]:=by rw [Ys,hli];rfl
  have hkey:s∉(ls.take i).map (·.1):=by
   have h1:((ls.take (i+1)).map (·.1)).Nodup:=List.Nodup.sublist ((List.take_sublist _ _).map _) hnd;rw [etk,Zh,Xc] at h1;exact λ m=>h1.2.2 s m s (by simp) rfl
  have hkl:ks.length<=94:=by
   have:=Yt List.length eks;rw [Qr,Yd] at this;rfl'
  refine f9 (SqT.of (S.get u1)) rfl ?_;symm;refine ⟨f,cz,h,ls,co,rfl,(hF.same S).t,wf,SqT.of (S.get u2),by rfl',λ r H2 s2 hr er=> ?_⟩;have hrc:r≠ca:=λ e=>by rw [e,eca] at hr;cases hr
  have hv:bF (ks.map λ k=>((Sum.inr k.1:Key),V.ref k.2.1)) (Sum.inr s)=none:=gP (f:=λ k:Str×Addr×List Nat=>(Sum.inr k.1:Key)) (g:=λ k:Str×Addr×List Nat=>V.ref k.2.1) λ m=>by
   obtain ⟨k,mk,e⟩:=Zb.mp m;exact hkey (by rw [<- eks,Zq];exact Zb.mpr ⟨k,mk,Sum.inr.inj e⟩)
  symm;refine ⟨ca,_,rfl,DPut.k (k:=Sum.inr s) (s2.get eca) (Yb (by rw [Qr];exact hkl:_<=94) (by decide)),?_⟩;rw [gF _ hv];symm;refine ⟨(sb.same s2).set (by simp),ks++[(s,r,co)],_,_,by rw [Zh,eks,etk];rfl,by rw [aa,Zh];rfl,λ k mk=> ?_,rfl⟩;rcases Zi.mp mk with mk | mk
  .exact ⟨(hks k mk).1,by rw [au (hks k mk).1];exact s2.get (hks k mk).2⟩
  .rw [Za.mp mk];exact ⟨hrc,by rw [au hrc];exact er⟩
 .rintro Z Hc ⟨sb,ks,o3,o4,eks,eca,hks',rfl⟩;rw [hzl,Xh] at eks;have hks: ∀k∈ks,Hc k.2.1=some (.dK (wH (wG k.2.2 ls))):=λ k mk=>(hks' k mk).2
  have SH:=sb.off hfr;have hWc:=hW.same SH;have hcost: ∀ {s co},Fo.lk ls s=some co-> ∃k∈ks,k.2.2=co/\bF (ks.map λ k=>((Sum.inr k.1:Key),V.ref k.2.1)) (Sum.inr s)=some (V.ref k.2.1):=by
   rw [<- eks];clear eca hks hks' eks;induction ks with
   | nil=>intro s co h;cases h
   | cons k ks ih=>
    intro s co h;rw [Zl,Fo.jf] at h;rw [Zl];by_cases e:k.1=s
    .rw [if_pos e] at h
     cases h;exact ⟨k,Zs,rfl,by rw [c7 (by rw [e])]⟩
    .rw [if_neg e] at h;obtain ⟨k',m',e1,e2⟩:=ih h;exact ⟨k',Zv _ m',e1,by rw [bQ (by intro z;exact e (Sum.inr.inj z))];exact e2⟩
  symm;intro fo hfo;symm;walk_at "ns";have S0:Same Hc (upd Hc fo (HO.lst [])):=aB hfo _;refine ⟨wa,wss,rfl,hWc.same S0,hw0,hw1,λ ws mws=>⟨by have:=(hws ws mws).1;rfl',λ w mw=>⟨?_,((hws ws mws).2 w mw).2⟩⟩,λ td H1 N ps s1 htd eps etd hN _=> ?_⟩
  .obtain ⟨n,en⟩:=wf.sg _ (Fo.jr ((hws ws mws).2 w mw).1);dsimp only at en;rw [en];exact Zk 1
  have htd0:Hc td=none:=S0.free htd;have hne:fo≠td:=λ e=>by rw [<- e,aa] at htd;cases htd
  have efo1:H1 fo=some (.lst []):=s1.get aa;have S1:Same Hc H1:=S0.trans s1;have hfr2: ∀p'∈[fo,td],Hc p'=none:=λ p' hp'=>by
   simp only [Zm,Yq,Xz] at hp';rcases hp' with rfl | rfl
   .exact hfo
   .exact htd0
  have hpsl:ps.length=(bR wss N).length:=by rw [<- eps,Qr]
  have hrN:=hrl N;refine Mf (.inl etd) (λ od i Z H'=>Sb [fo,td] Hc H'/\H' td=some (.frz od (.dK (ps.map λ p=>((Sum.inl p.1:Key),V.str p.2))))/\Ou K H' fo (lZ wss ((bR wss N).take i))/\(lZ wss ((bR wss N).take i)).length<=i*10000/\ ∃o6 o7 o8 o9 o10:Option V,Z=[some (.ref f),some (.ref wa),some (.ref ca),o3,o4,some (.ref fo),o6,o7,o8,o9,o10]) (λ od H2 sb2 e2=>⟨λ b o n q'=>sb2 b o (λ z=>n (by simp only [Za] at z;rw [z];simp)) (S1 b o q'),e2,⟨[],rfl,sb2.get (by simpa using hne) efo1,λ z m=>(by cases m)⟩,Yz _,_,_,_,_,_,rfl⟩) (λ od i Z H' h=>by obtain ⟨_,h,_⟩:=h;exact h) ?_ ?_
  .rintro od i z Z H' hz ⟨sb',etd',hT,hTl,o6,o7,o8,o9,o10,rfl⟩;obtain ⟨p,hp,rfl⟩: ∃p,ps[i]? =some p/\z=((Sum.inl p.1:Key),V.str p.2):=by
    rw [Zj] at hz;obtain ⟨p,hp,e⟩:=Yp.mp hz;exact ⟨p,hp,e.symm⟩
   have hri:(bR wss N)[i]? =some p.1:=by rw [<- eps,Zj,hp];rfl
   obtain ⟨r0,r1⟩:=hrm N p.1 (Ze hri);obtain ⟨j,hj⟩: ∃j:Nat,p.1=(j:Int):=⟨p.1.toNat,by rfl'⟩;have hil:i<(bR wss N).length:=(Zo.mp hri).1;obtain ⟨rs,w1,w2,w3⟩:=id hWc;have hrs:rs.length=wss.length:=by rw [<- w1,Qr]
   obtain ⟨rz,hrz⟩: ∃rz,rs[j]? =some rz:=⟨_,Zd (by rfl')⟩;have hwj:wss[j]? =some rz.2:=by rw [<- w1,Zj,hrz];rfl
   obtain ⟨wz,ewz,z1,z2⟩:=w3 rz (Ze hrz);obtain ⟨hw100,hww⟩:=hws rz.2 (Ze hwj);have hwl:wz.length=rz.2.length:=by rw [<- ewz,Qr]
   have etk:lZ wss ((bR wss N).take (i+1))=lZ wss ((bR wss N).take i)++(List.range rz.2.length).flatMap λ b=>(List.range b).map λ a=>(rz.2.getD a default,rz.2.getD b default,(j:Int)):=by
    rw [Ys,hri];unfold lZ;rw [List.flatMap_append];congr 1;show [p.1].flatMap _=_;rw [List.flatMap_singleton,hj,My hwj]
   rw [etk];generalize hA:lZ wss ((bR wss N).take i)=A at hT hTl ⊢;show az 6 (V.int p.1) _ _ _;rw [hj];symm;have S':=sb'.off hfr2;refine bU (SqL.of (S'.get w2)) (aN (j:=j) (v:= .ref rz.1) (by rw [Zj,hrz];rfl)) ?_;walk_at "ns";refine Mi (λ z:Wz=>V.ref z.1) (xs:=wz) (SqL.of (S'.get z1)) (λ b Z H2=>Sb [fo,td] Hc H2/\H2 td=some (.frz od (.dK (ps.map λ p=>((Sum.inl p.1:Key),V.str p.2))))/\Ou K H2 fo (A++(List.range b).flatMap λ b=>(List.range b).map λ a=>(rz.2.getD a default,rz.2.getD b default,(j:Int)))/\(A++(List.range b).flatMap λ b=>(List.range b).map λ a=>(rz.2.getD a default,rz.2.getD b default,(j:Int))).length<=i*10000+b*100/\ ∃o7 o8 o9 o10:Option V,Z=[some (.ref f),some (.ref wa),some (.ref ca),o3,o4,some (.ref fo),some (.int (j:Nat)),o7,o8,o9,o10]) ⟨sb',etd',by rw [List.range_zero,List.flatMap_nil,Xa];exact hT,by rw [List.range_zero,List.flatMap_nil,Xa];rfl',_,_,_,_,rfl⟩ ?_ ?_ ?_
   .rintro b Z H2 ⟨sb2,_⟩;exact SqL.of ((sb2.off hfr2).get z1)
   .rintro b ⟨wb,sw,cw,rw'⟩ tp Z H2 hb ⟨sb2,etd2,hT2,hTl2,o7,o8,o9,o10,rfl⟩ htp;have hwb:rz.2[b]? =some (sw,cw,rw'):=by rw [<- ewz,Zj,hb];rfl
    have hbl:b<rz.2.length:=(Zo.mp hwb).1;have egb:rz.2.getD b default=(sw,cw,rw'):=by rw [Zn,hwb];rfl
    have hWb:=z2 _ (Ze hb);obtain ⟨cb,b1,b2⟩:=id hWb;dsimp only at b1 b2;have hlb:=((hww _ (Ze hwb)).1);dsimp only at hlb;obtain ⟨kb,mkb,ekb,evb⟩:=hcost hlb;have ntd:tp≠td:=λ e=>by rw [e,etd2] at htp;cases htp
    have sb3:=sb2.new (o:= .tup [.int (b:Int), .ref wb]) htp;refine f9 (SqT.of aa) rfl ?_;symm;have etd3:upd H2 tp (.tup [.int (b:Int), .ref wb]) td=some (.frz od (.dK (ps.map λ p=>((Sum.inl p.1:Key),V.str p.2)))):=by rw [au ntd.symm];exact etd2
    have hT3:Ou K (upd H2 tp (.tup [.int (b:Int), .ref wb])) fo (A++(List.range b).flatMap λ b=>(List.range b).map λ a=>(rz.2.getD a default,rz.2.getD b default,(j:Int))):=by
     obtain ⟨us,u1,u2,u3⟩:=hT2;exact ⟨us,u1,aA htp u2,λ z mz=>(u3 z mz).same (aB htp _)⟩
    generalize upd H2 tp (.tup [.int (b:Int), .ref wb])=H3 at sb3 etd3 hT3 ⊢;rw [List.range_succ,List.flatMap_append,List.flatMap_singleton,<- Yk,egb];generalize hB:A++(List.range b).flatMap (λ b=>(List.range b).map λ a=>(rz.2.getD a default,rz.2.getD b default,(j:Int)))=B at hT3 hTl2 ⊢;have S3:=sb3.off hfr2;refine bU (SqL.of (S3.get w2)) (aN (j:=j) (v:= .ref rz.1) (by rw [Zj,hrz];rfl)) ?_;symm;refine rR (SqL.of (S3.get z1)) λ sl hsl=> ?_
    rw [uw (by rfl'),Yh,<- List.map_take];walk_at "ns";have S4:Same H3 (upd H3 sl (HO.lst ((wz.take b).map λ z:Wz=>V.ref z.1))):=aB hsl _;have nsl:sl≠td:=λ e=>by rw [e,etd3] at hsl;cases hsl
    have nslf:sl≠fo:=λ e=>by obtain ⟨us,u1,u2,u3⟩:=hT3;rw [e,u2] at hsl;cases hsl
    have nslc:Hc sl=none:=S3.free hsl;have hfr3: ∀p'∈[fo,td],upd H3 sl (HO.lst ((wz.take b).map λ z:Wz=>V.ref z.1)) p'≠none->True:=λ _ _ _=>trivial
    have sb4:=sb3.new (o:=HO.lst ((wz.take b).map λ z:Wz=>V.ref z.1)) hsl;have esl:upd H3 sl (HO.lst ((wz.take b).map λ z:Wz=>V.ref z.1)) sl=some (.lst ((wz.take b).map λ z:Wz=>V.ref z.1)):=aa;have etd4:=S4.get etd3;have hT4:Ou K (upd H3 sl (HO.lst ((wz.take b).map λ z:Wz=>V.ref z.1))) fo B:=by
     obtain ⟨us,u1,u2,u3⟩:=hT3;exact ⟨us,u1,S4.get u2,λ z mz=>(u3 z mz).same S4⟩
    generalize upd H3 sl (HO.lst ((wz.take b).map λ z:Wz=>V.ref z.1))=H4 at S4 sb4 esl etd4 hT4 ⊢;refine jC (λ z:Wz=>V.ref z.1) (zs:=wz.take b) (SqL.of esl) (λ a Z H5=>Sb [fo,td] Hc H5/\H5 sl=some (.lst ((wz.take b).map λ z:Wz=>V.ref z.1))/\H5 td=some (.frz od (.dK (ps.map λ p=>((Sum.inl p.1:Key),V.str p.2))))/\Ou K H5 fo (B++(List.range a).map λ a=>(rz.2.getD a default,(sw,cw,rw'),(j:Int)))/\ ∃o9 o10:Option V,Z=[some (.ref f),some (.ref wa),some (.ref ca),o3,o4,some (.ref fo),some (.int (j:Nat)),some (.int (b:Nat)),some (.ref wb),o9,o10]) ⟨sb4,esl,etd4,by rw [List.range_zero,Xq,Xa];exact hT4,_,_,rfl⟩ ?_ ?_ ?_
    .rintro a Z H5 ⟨_,h,_⟩;exact SqL.of h
    .rintro a ⟨wq,sq,cq,rq⟩ Z H5 ha ⟨sb5,esl5,etd5,⟨us,u1,u2,u3⟩,o9,o10,rfl⟩;have hal:a<b:=by
      have:=(Zo.mp ha).1;rw [Yd] at this;rfl'
     have hqa:wz[a]? =some (wq,sq,cq,rq):=by rw [List.getElem?_take,if_pos hal] at ha;exact ha
     have hwq:rz.2[a]? =some (sq,cq,rq):=by rw [<- ewz,Zj,hqa];rfl
     have ega:rz.2.getD a default=(sq,cq,rq):=by rw [Zn,hwq];rfl
     have hWq:=z2 _ (Ze hqa);obtain ⟨cc,q1,q2⟩:=id hWq;dsimp only at q1 q2;have hlq:=((hww _ (Ze hwq)).1);dsimp only at hlq;have S5:=sb5.off hfr2;have hul:us.length<=1000000:=by
      have:=Yt List.length u1;rw [Qr,Zg,Qr,Xi] at this;rfl'
     symm;refine iw (S5.get b1) ?_;symm;refine dG (S5.get b1) ?_;symm;refine ⟨wq,cb,(sq,cq,rq),rw',cw,rfl,hWq.same S5,S5.get b2,λ st H6 s6 hst hS=> ?_⟩;have S6:=S5.trans s6;symm;refine dO (SqL.of (s6.get u2)) ?_;symm;refine dX (S6.get b1) ?_;symm;refine ⟨ca, .ref kb.2.1,rfl,by rw [<- evb];exact DGet.k (k:=Sum.inr sw) (S6.get eca),?_⟩;symm;refine dX (S6.get q1) ?_;symm;refine ⟨kb.2.1,V.int (cst cw cq:Nat),rfl,by have:=DGet.k (k:=Sum.inr sq) (S6.get (hks kb mkb));rw [ekb,uI hlq] at this;exact this,?_⟩;symm;intro tq htq;have s7:Same H6 (upd H6 tq (HO.tup [.int (cst cw cq:Nat), .ref st, .int (j:Nat), .ref wq, .ref wb])):=aB htq _;have e7:upd H6 tq (HO.tup [.int (cst cw cq:Nat), .ref st, .int (j:Nat), .ref wq, .ref wb]) tq=some (.tup [.int (cst cw cq:Nat), .ref st, .int (j:Nat), .ref wq, .ref wb]):=aa;generalize upd H6 tq (HO.tup [.int (cst cw cq:Nat), .ref st, .int (j:Nat), .ref wq, .ref wb])=H7 at s7 e7 ⊢;have u7:=s7.get (s6.get u2);symm;refine fD u7 (by rw [Qr];rfl') ?_;symm;have hz:FkA K H7 (tq,st,wq,wb,((sq,cq,rq),(sw,cw,rw'),(j:Int))):=⟨e7,hS.same s7,(hWq.same S6).same s7,(hWb.same S6).same s7⟩;refine ⟨((sb5.same s6).same s7).set (by simp),by rw [au nslf];exact s7.get (s6.get esl5),by rw [au hne.symm];exact s7.get (s6.get etd5),⟨us++[(tq,st,wq,wb,((sq,cq,rq),(sw,cw,rw'),(j:Int)))],by rw [Zh,u1,List.range_succ,Zh,<- Yk,List.map_singleton,List.map_singleton,ega],by rw [aa,Zh];rfl,λ z mz=> ?_⟩,_,_,rfl⟩;rcases Zi.mp mz with mz | mz
     .exact (((u3 z mz).same s6).same s7).app u7
     .rw [Za.mp mz];exact hz.app u7
    .rintro Z H5 ⟨sb5,esl5,etd5,hT5,o9,o10,rfl⟩;have eb:(wz.take b).length=b:=by rw [Yd];rfl'
     rw [eb] at hT5;exact ⟨sb5,etd5,hT5,by rw [Zg,Qr,Xi];rfl',_,_,_,_,rfl⟩
   .rintro Z H2 ⟨sb2,etd2,hT2,hTl2,o7,o8,o9,o10,rfl⟩;rw [hwl] at hT2 hTl2;exact ⟨sb2,etd2,hT2,by rfl',_,_,_,_,_,rfl⟩
  .rintro od Z H' ⟨sb',etd',hT,_,o6,o7,o8,o9,o10,rfl⟩;rw [Xb (by rw [Qr];rfl')] at hT;symm;refine q fo H' N (SH.trans (sb'.off hfr2)) (SH.free hfo) hN hT
def Cp (ls:List (Str×List Nat)) (st:Int×Int×List Nat) (w:Str×List Nat×Int):Str×Nat×(Int×Int×List Nat):=(w.1,cst st.2.2 w.2.1,iy w st.2.1 st.2.2)
def SpT (K:W.Frag) (H:Hp) (a:Addr) (x:Str×Nat×(Int×Int×List Nat)):Prop:= ∃c,H a=some (.tup [.str x.1, .int (x.2.1:Nat), .ref c])/\StT K H c x.2.2
theorem SpT.same {K:W.Frag} {a:Addr} {x:Str×Nat×(Int×Int×List Nat)} (h:SpT K H a x) (s:Same H H'):SpT K H' a x:=by
 obtain ⟨c,h1,h2⟩:=h;exact ⟨c,s.get h1,h2.same s⟩
def SsT (K:W.Frag) (H:Hp) (a:Addr) (xs:List (Str×Nat×(Int×Int×List Nat))):Prop:= ∃zs:List (Addr×Str×Nat×(Int×Int×List Nat)),zs.map (·.2)=xs/\H a=some (.lst (zs.map λ z=>V.ref z.1))/\ ∀z∈zs,SpT K H z.1 z.2
inductive sp_f20 (K:W.Frag) (vs:List V) (H:Hp) (Q:VK) (E:XK):Prop
 | mk (wa ca sa:Addr) (ls:List (Str×List Nat)) (wss:List (List (Str×List Nat×Int))) (st:Int×Int×List Nat) (ws:List (Str×List Nat×Int)) (r:Nat) (h0:vs=[.ref wa, .ref ca, .ref sa]) (h1:WsT H wa wss) (h2:H ca=some (.dK (wH (wG st.2.2 ls)))) (h3:StT K H sa st) (h4:st.1=(r:Int)) (h5:wss[r]? =some ws) (h6:(∀w∈ws,Fo.lk ls w.1=some w.2.1)) (h7:ws.length<=1000) (h8: ∀p H',Same H H'->H p=none->SsT K H' p (ws.map (Cp ls st))->Q (.ref p) H'):sp_f20 K vs H Q E
def uK (K:W.Frag) (E:XK) (Eh:XK):TS:=
  (bJ (oV [none,some 1,some 2] (cQ K (aH (cA K) (aj 0) (aH (aR K) (aj 2) (tC (V.int 0))))) (az 0) eZ (cO (ao (aH (aR K) (aj 0) (tC (V.int 0))) (ao (gn (aj 1) (aH (aR K) (aj 0) (tC (V.int 0)))) (ao (aU (sp_f5 K) [] E0 (ao (aj 0) (ao (aH (aR K) (aj 2) (tC (V.int 1))) (ao (aH (aR K) (aj 2) (tC (V.int 2))) aC)))) aC))))))
theorem MF (h:sp_f20 K vs H Q E): ∃Eh,uK K E Eh { nx:=λ _ H'=>Q .non H',rt:=Q } (start ["ways","costs","stand"] vs) H:=by
 obtain ⟨wa,ca,sa,ls,wss,⟨s0,s1,ys⟩,ws,r,rfl,⟨rs,w1,w2,w3⟩,eca,⟨sc,e1,e2⟩,hr,hws,hlk,hwl,q⟩:=h;refine ⟨E0,?_⟩;unfold uK;dsimp only at e1 e2 hr eca;subst hr;obtain ⟨rz,hrz⟩: ∃rz,rs[r]? =some rz:=⟨_,Zd (by have:=(Zo.mp hws).1;rw [<- w1,Qr] at this;exact this)⟩;have erz:rz.2=ws:=by
  have:(rs.map (·.2))[r]? =some rz.2:=by rw [Zj,hrz];rfl
  rw [w1,hws] at this;exact (Ym this).symm
 obtain ⟨zs,ezs,z1,z2⟩:=w3 rz (Ze hrz);rw [erz] at ezs;have hzl:zs.length=ws.length:=by rw [<- ezs,Qr]
 symm;refine dX e1 ?_;symm;refine bU (SqL.of w2) (aN (j:=r) (v:= .ref rz.1) (by rw [Zj,hrz];rfl)) ?_;refine Bp (λ z:Wz=>V.ref z.1) (zs:=zs) (SqL.of z1) (by rfl') (λ i vs H'=>Same H H'/\ ∃us:List (Addr×Str×Nat×(Int×Int×List Nat)),vs=us.map (λ z=>V.ref z.1)/\us.map (·.2)=(ws.take i).map (Cp ls ((r:Int),s1,ys))/\ ∀z∈us,SpT K H' z.1 z.2) ⟨Same.refl _,[],rfl,rfl,λ z m=>(by cases m)⟩ ?_ ?_ ?_ ?_
 .rintro i vs H' ⟨s',_⟩;exact SqL.of (s'.get z1)
 .rintro i vs H' ⟨_,us,rfl,eu,_⟩;have:=Yt List.length eu;rw [Qr,Qr,Yd] at this;rw [Qr];rfl'
 .rintro i ⟨za,s,co,room⟩ vs H' hi ⟨s',us,rfl,eu,hu⟩;have hwi:ws[i]? =some (s,co,room):=by rw [<- ezs,Zj,hi];rfl
  have etk:ws.take (i+1)=ws.take i++[(s,co,room)]:=by rw [Ys,hwi];rfl
  have hW:=z2 _ (Ze hi);obtain ⟨cc,v1,v2⟩:=id hW;dsimp only at v1 v2;have hl:=hlk _ (Ze hwi);dsimp only at hl;symm;refine dX (s'.get v1) ?_;symm;refine dX (s'.get v1) ?_;symm;refine ⟨ca,V.int (cst ys co:Nat),rfl,by have:=DGet.k (k:=Sum.inr s) (s'.get eca);rw [uI hl] at this;exact this,?_⟩;symm;refine dG (s'.get e1) ?_;symm;refine iw (s'.get e1) ?_;symm;refine ⟨za,sc,(s,co,room),s1,ys,rfl,⟨cc,s'.get v1,s'.get v2⟩,s'.get e2,λ sb H2 s2 hsb hst=> ?_⟩;symm;intro tp htp;refine ⟨(s'.trans s2).new htp,us++[(tp,Cp ls ((r:Int),s1,ys) (s,co,room))],by rw [Zh];rfl,by rw [Zh,eu,etk,Zh];rfl,λ z mz=> ?_⟩;rcases Zi.mp mz with mz | mz
  .exact (hu z mz).same (s2.new htp)
  .rw [Za.mp mz];exact ⟨sb,aa,hst.same (aB htp _)⟩
 .rintro vs H' ⟨s',us,rfl,eu,hu⟩ p hp;rw [Xb (by rfl')] at eu;refine q p _ (s'.new hp) (s'.free hp) ⟨us,eu,aa,λ z mz=>(hu z mz).same (aB hp _)⟩
abbrev Sd:=Int×Int×List Nat
variable {x:Sd} {S:List Sd} {ev:Sd->Prop} {F':Sd->Nat×Nat->Prop} {W':Nat×Nat->Sd->Prop} {xs:List (Str×Nat×Sd)} {B' P':Nat->Sd->Sd->Prop}
def fJ (x:Sd):Sk:=(x.1,x.2.1,x.2.2.map λ n:Nat=>(n:Int))
theorem sE: ∀ {c d:List Nat},(c.map λ n:Nat=>(n:Int))=(d.map λ n:Nat=>(n:Int))->c=d
 | [],[],_=>rfl
 | [],_::_,h=>by cases h
 | _::_,[],h=>by cases h
 | x::c,y::d,h=>by
  rw [Zl,Zl] at h;injection h with h1 h2
  rw [sE h2,show x=y by rfl']
theorem pR {y:Sd} (h:fJ x=fJ y):x=y:=by
 obtain ⟨a,b,c⟩:=x;obtain ⟨a',b',c'⟩:=y;have h1:a=a':=Yt (λ z:Sk=>z.1) h;have h2:b=b':=Yt (λ z:Sk=>z.2.1) h;have h3:c=c':=sE (Yt (λ z:Sk=>z.2.2) h);rw [h1,h2,h3]
theorem StT.a {K:W.Frag} {a:Addr} {st:Sd} (h:StT K H a st):pA H a (fJ st):=by
 obtain ⟨c,h1,h2⟩:=h;exact ⟨c,h1,by rw [h2];unfold nv fJ;rw [Zq];rfl⟩
theorem StT.keep {K:W.Frag} {k:Sd} {o:HO} (h:StT K H b k) (e:H p=some o) (ht: ∀l,o≠ .tup l):StT K (upd H p o') b k:=by
 obtain ⟨c,h1,h2⟩:=h;exact ⟨c,by rw [au (bx h1 e λ z=>ht _ z.symm)];exact h1,by rw [au (bx h2 e λ z=>ht _ z.symm)];exact h2⟩
theorem SsT.same {K:W.Frag} {a:Addr} (h:SsT K H a xs) (s:Same H H'):SsT K H' a xs:=by
 obtain ⟨zs,h1,h2,h3⟩:=h;exact ⟨zs,h1,s.get h2,λ z mz=>(h3 z mz).same s⟩
theorem SsT.keep {K:W.Frag} {a:Addr} {o:HO} (h:SsT K H a xs) (e:H p=some o) (ht: ∀l,o≠ .tup l) (n:a≠p):SsT K (upd H p o') a xs:=by
 obtain ⟨zs,h1,h2,h3⟩:=h;refine ⟨zs,h1,by rw [au n];exact h2,λ z mz=> ?_⟩;obtain ⟨c,c1,c2⟩:=h3 z mz;exact ⟨c,by rw [au (bx c1 e λ z=>ht _ z.symm)];exact c1,c2.keep e ht⟩
def qg (ys:List Nat):List Key:=ys.map λ n:Nat=>(Sum.inl (n:Int):Key)
theorem uL (ys:List Nat):(qg ys).map kV=nv ys:=by unfold qg nv;rw [Zq];rfl
theorem pU: ∀ {c d:List Nat},qg c=qg d->c=d
 | [],[],_=>rfl
 | [],_::_,h=>by cases h
 | _::_,[],h=>by cases h
 | x::c,y::d,h=>by
  unfold qg at h;rw [Zl,Zl] at h;injection h with h1 h2
  have h1:=Sum.inl.inj h1;rw [pU h2,show x=y by rfl']
theorem Cq {ys:List Nat}: ∀ {cs:List (List Nat×Addr)},ys∈cs.map (·.1)-> ∃ca,(ys,ca)∈cs/\bF (cs.map λ c=>(qg c.1,V.ref c.2)) (qg ys)=some (V.ref ca)
 | c::cs,m=>by
  rw [Zl];by_cases e:c.1=ys
  .exact ⟨c.2,by rw [<- e];exact Zs,by rw [c7 (by rw [e])]⟩
  .obtain ⟨ca,h1,h2⟩:=Cq (cs:=cs) (by rcases Zm.mp m with z | z;exact absurd z.symm e;exact z);exact ⟨ca,Zv _ h1,by rw [bQ (λ z=>e (pU z))];exact h2⟩
theorem wI {ys:List Nat}: ∀ {cs:List (List Nat×Addr)},ys∉cs.map (·.1)->bF (cs.map λ c=>(qg c.1,V.ref c.2)) (qg ys)=none
 | [],_=>rfl
 | c::cs,m=>by
  rw [Zl,bQ (λ z=>m (by rw [Zl,pU z];exact Zs))];exact wI λ z=>m (Zv _ z)
abbrev Uz:=(Addr×Str×Nat×Sd)×Addr
theorem uM {K:W.Frag} {H:Hp}: ∀ {us:List (Addr×Str×Nat×Sd)},(∀z∈us,SpT K H z.1 z.2)-> ∃ps:List Uz,ps.map (·.1)=us/\ ∀p∈ps,H p.1.1=some (.tup [.str p.1.2.1, .int (p.1.2.2.1:Nat), .ref p.2])/\StT K H p.2 p.1.2.2.2
 | [],_=>⟨[],rfl,λ p m=>(by cases m)⟩
 | u::us,h=>by
  obtain ⟨ps,h1,h2⟩:=uM λ z mz=>h z (Zv _ mz)
  obtain ⟨c,c1,c2⟩:=h u Zs;refine ⟨(u,c)::ps,by rw [Zl,h1],λ p mp=> ?_⟩;rcases Zm.mp mp with rfl | mp
  .exact ⟨c1,c2⟩
  .exact h2 p mp
def Cr (wss:List (List (Str×List Nat×Int))) (st:Sd):List Sd:=(wss.getD st.1.toNat []).map λ w=>iy w st.2.1 st.2.2
def jF (z:(Str×List Nat×Int)×(Str×List Nat×Int)×Int):Sd:=iy z.1 z.2.1.2.2 z.2.1.2.1
def uN (wss:List (List (Str×List Nat×Int))) (N:Nat):List Sd:=(lZ wss (bR wss N)).map jF
def InU (n:Nat) (ls:List (Str×List Nat)) (x:Sd):Prop:=(0<=x.1/\x.1<n)/\(0<=x.2.1/\x.2.1<n)/\ ∃p∈ls,∃d,d<9/\x.2.2=p.2.drop d
def UL (n:Nat) (ls:List (Str×List Nat)):List Sd:=(List.range n).flatMap λ a:Nat=>(List.range n).flatMap λ b:Nat=>ls.flatMap λ p=>(List.range 9).map λ d:Nat=>((a:Int),(b:Int),p.2.drop d)
theorem pW {α β:Type} (f:α->List β) (k:Nat) (h: ∀x,(f x).length=k): ∀l:List α,(l.flatMap f).length=l.length*k
 | []=>by simp
 | x::l=>by rw [List.flatMap_cons,Zg,h,pW f k h l,Yu,Nat.add_mul,Nat.one_mul,Nat.add_comm]
theorem Cu (n:Nat) (ls:List (Str×List Nat)):(UL n ls).length=n*n*(ls.length*9):=by
 unfold UL;rw [pW _ (n*(ls.length*9)) λ a=>by rw [pW _ (ls.length*9) λ b=>by rw [pW _ 9 λ p=>by rw [Qr,Xi]],Xi],Xi,Nat.mul_assoc]
theorem InU.mem {ls:List (Str×List Nat)} (h:InU n ls x):x∈UL n ls:=by
 obtain ⟨⟨a1,a2⟩,⟨b1,b2⟩,p,mp,d,hd,e⟩:=h;refine Xu.mpr ⟨x.1.toNat,Yw.mpr (by rfl'),Xu.mpr ⟨x.2.1.toNat,Yw.mpr (by rfl'),Xu.mpr ⟨p,mp,Zb.mpr ⟨d,Yw.mpr hd,?_⟩⟩⟩⟩;rw [<- e,Int.toNat_of_nonneg a1,Int.toNat_of_nonneg b1]
def WOk (ls:List (Str×List Nat)) (n:Nat) (wss:List (List (Str×List Nat×Int))):Prop:= ∀ws∈wss,∀w∈ws,((w.1,w.2.1)∈ls/\1<=w.2.1.length/\w.2.1.length<=8)/\0<=w.2.2/\w.2.2<n
theorem WOk.at {ls:List (Str×List Nat)} {n:Nat} {wss:List (List (Str×List Nat×Int))} (h:WOk ls n wss) {r:Nat} {w:Str×List Nat×Int} (m:w∈wss.getD r []):((w.1,w.2.1)∈ls/\1<=w.2.1.length/\w.2.1.length<=8)/\0<=w.2.2/\w.2.2<n:=by
 by_cases c:r<wss.length
 .rw [Zn,Zd c] at m;exact h _ (Yy c) w m
 .rw [Zn,List.getElem?_eq_none (by rfl')] at m
  cases m
theorem Cv {ls:List (Str×List Nat)} (hw:((w.1,w.2.1)∈ls/\1<=w.2.1.length/\w.2.1.length<=8)/\0<=w.2.2/\w.2.2<n) {ah:Int} {ys:List Nat} (ha:0<=ah/\ah<n) (hy: ∃p∈ls,p.2.length<=8/\ ∃d,ys=p.2.drop d):InU n ls (iy w ah ys):=by
 obtain ⟨⟨m,l1,l2⟩,r⟩:=hw;obtain ⟨p,mp,p8,d,rfl⟩:=hy;unfold iy;split
 .rename_i c;rw [Yx] at c;exact ⟨r,ha,p,mp,d+w.2.1.length,by rfl',by show (p.2.drop d).drop _=_;rw [List.drop_drop]⟩
 .rename_i c;exact ⟨ha,r,_,m,(p.2.drop d).length,by rfl',rfl⟩
theorem Cw {ls:List (Str×List Nat)} (hl: ∀p∈ls,p.2.length<=8) (h:WOk ls n wss) (x y:Sd) (hx:InU n ls x) (m:y∈Cr wss x):InU n ls y:=by
 obtain ⟨w,mw,rfl⟩:=Zb.mp m;obtain ⟨_,h2,p,mp,d,_,e⟩:=hx;exact Cv (h.at mw) h2 ⟨p,mp,hl p mp,d,e⟩
theorem Cy {ls:List (Str×List Nat)} (h:WOk ls n wss) (N:Nat) (x:Sd) (m:x∈uN wss N):InU n ls x:=by
 obtain ⟨z,mz,rfl⟩:=Zb.mp m;obtain ⟨r,_,mr⟩:=Xu.mp mz;obtain ⟨b,mb,ma⟩:=Xu.mp mr;obtain ⟨a,ha,rfl⟩:=Zb.mp ma;have hb:=Yw.mp mb;have ha:=Yw.mp ha;have g: ∀k,k<(wss.getD r.toNat []).length->(wss.getD r.toNat []).getD k default∈wss.getD r.toNat []:=by
  generalize wss.getD r.toNat []=l;intro k hk;rw [Zn,Zd hk];exact Yy hk
 have h1:=h.at (g a (by rfl'));have h2:=h.at (g b hb);exact Cv h1 h2.2 ⟨_,h2.1.1,h2.1.2.2,0,rfl⟩
def Ov (ls:List (Str×List Nat)) (ds:List (List (Str×Int))):Prop:=0<ds.length/\ds.length<=50/\(∀ps∈ds,ps.length<=18/\ ∀p∈ps,0<=p.2/\p.2<ds.length)/\ds.length*ds.length*(ls.length*9)<=50000
theorem pX {h:Nat} {ls:List (Str×List Nat)} (wf:Fo.Wf h ls) (sz:Ov ls ds):WOk ls ds.length (ds.map (aV ls)):=λ ws mws w mw=>by
 obtain ⟨ps,mps,rfl⟩:=Zb.mp mws;obtain ⟨p,mp,ep⟩:=List.mem_filterMap.mp (show w∈ps.filterMap _ from mw);obtain ⟨co,eco,rfl⟩:=Yp.mp ep;have:=Fo.jr eco;exact ⟨⟨this,wf.c1 _ this⟩,(sz.2.2.1 ps mps).2 p mp⟩
abbrev Gz:=Addr×Sd×Addr
variable {bz gz zs:List Gz}
def cg (zs:List Gz):List (Addr×Sk×V):=zs.map λ z:Gz=>(z.1,fJ z.2.1,V.ref z.2.2)
def GzT (K:W.Frag) (H:Hp) (ls:List (Str×List Nat)) (wss:List (List (Str×List Nat×Int))) (z:Gz):Prop:=StT K H z.1 z.2.1/\SsT K H z.2.2 ((wss.getD z.2.1.1.toNat []).map (Cp ls z.2.1))
theorem GzT.same {K:W.Frag} {ls:List (Str×List Nat)} {z:Gz} (h:GzT K H ls wss z) (s:Same H H'):GzT K H' ls wss z:=⟨h.1.same s,h.2.same s⟩
theorem uO {K:W.Frag} {ls:List (Str×List Nat)} (h: ∀z∈zs,GzT K H ls wss z): ∀p∈cg zs,pA H p.1 p.2.1:=λ p mp=>by
 obtain ⟨z,mz,rfl⟩:=Zb.mp mp;exact (h z mz).1.a
theorem gQ (h:x∉zs.map (·.2.1)):cL (cg zs) (fJ x)=none:=nT.mpr λ m=>by
 unfold cg at m;rw [Zq] at m;obtain ⟨z,mz,e⟩:=Zb.mp m;exact h (Zb.mpr ⟨z,mz,pR e⟩)
theorem lW (h:x∈zs.map (·.2.1)): ∃v,cL (cg zs) (fJ x)=some v:=BR (by
 unfold cg;rw [Zq];obtain ⟨z,mz,e⟩:=Zb.mp h;exact Zb.mpr ⟨z,mz,by rw [<- e];rfl⟩)
theorem pY {wss:List (List (Str×List Nat×Int))} (hw: ∀ws∈wss,ws.length<=18): ∀rs:List Int,(lZ wss rs).length<=rs.length*324
 | []=>by simp [lZ]
 | r :: rs => by
  have ih:=pY hw rs;unfold lZ at ih ⊢;rw [List.flatMap_cons,Zg,Yu];have h1:(R6 wss r).length<=324:=by
   unfold R6;have hl:(wss.getD r.toNat []).length<=18:=by
    by_cases c:r.toNat<wss.length
    .rw [Zn,Zd c];exact hw _ (Yy c)
    .rw [Zn,List.getElem?_eq_none (by rfl')];simp
   have h2: ∀ (m:Nat) (g:Nat->Nat->(Str×List Nat×Int)×(Str×List Nat×Int)×Int),m<=18->((List.range m).flatMap λ j=>(List.range j).map λ k=>g j k).length<=m*18:=by
    intro m g hm;induction m with
    | zero=>simp
    | succ m ih=>
     rw [List.range_succ,List.flatMap_append,Zg,List.flatMap_singleton,Qr,Xi];have:=ih (by rfl');rfl'
   have:=h2 _ (λ j k=>((wss.getD r.toNat []).getD k default,(wss.getD r.toNat []).getD j default,r)) hl;rfl'
  rfl'
inductive sp_f16 (K:W.Frag) (vs:List V) (H:Hp) (Q:VK) (E:XK):Prop
 | mk (f ha:Addr) (h:Nat) (ls:List (Str×List Nat)) (ds:List (List (Str×Int))) (es:List Int) (h0:vs=[.ref f, .ref ha]) (h1:FnF K H f h ls) (h2:Fo.Wf h ls) (h3:HsG K H ha ds es) (h4:Ov ls ds) (h5: ∀r H' N (zs:List Gz),Same H H'->H r=none->(bR (ds.map (aV ls)) N).length<=N->H' r=some (bA r (cg zs))->(∀z∈zs,GzT K H' ls (ds.map (aV ls)) z)->zs.length<=50000->(zs.map (·.2.1)).Nodup->(∀x,x∈zs.map (·.2.1)↔Mm.Rch (uN (ds.map (aV ls)) N) (Cr (ds.map (aV ls))) x)->Q (.ref r) H'):sp_f16 K vs H Q E
abbrev Cz (K:W.Frag):TS:=
  (aG (rH (aj 4) (aj 6) (aU (sp_f20 K) [] E0 (ao (aj 2) (ao (gn (aj 3) (aH (aR K) (aj 6) (tC (V.int 2)))) (ao (aj 6) aC)))))
  (dF (qz K "list" oK (aj 5) (ao (oV [none] (cQ K (jb (aj 4) (aj 6))) (az 0) eZ (aH (aR K) (aj 0) (tC (V.int 2)))) aC))))
abbrev CG (K:W.Frag):TS:=
  (aG (aJ (Fd K "list" JN (aj 5)) (az 6))
  (cI (tB (jT (aj 6) (aj 4))) (aG (cI (tB (jN (aH (aR K) (aj 6) (tC (V.int 2))) (aj 3))) (mX (aj 3) (aH (aR K) (aj 6) (tC (V.int 2))) (aU (sp_f9 K) [] E0 (ao (aj 0) (ao (aH (aR K) (aj 6) (tC (V.int 2))) aC)))) bT)
  (Cz K)) bT))
abbrev CJ (K:W.Frag):TS:=
  (aG (aJ rG (az 4))
  (aG (aJ (oV [none] (cQ K (aU (sp_f27 K) [] E0 (ao (aj 0) (ao (aj 2) aC)))) (az 0) eZ (aH (aR K) (aj 0) (tC (V.int 1)))) (az 5))
  (aG (eF (aY (aH jK (cH (cB K) (ao (aj 5) aC)) (tC (V.int 0)))) (CG K))
  (bJ (aj 4)))))
def uP (K:W.Frag) (E:XK) (Eh:XK):TS:=
  (aG (aJ (aU (sp_f21 K) [] E0 (ao (aj 0) (ao (aj 1) aC))) (az 2))
  (aG (aJ tQ (az 3))
  (CJ K)))
theorem MJ (h:sp_f16 K vs H Q E): ∃Eh,uP K E Eh { nx:=λ _ H'=>Q .non H',rt:=Q } (start ["font","house","ways","costs","found","waiting","stand"] vs) H:=by
 obtain ⟨f,ha,h,ls,ds,es,rfl,hF,wf,hH,sz,q⟩:=h;refine ⟨E0,?_⟩;unfold uP;have hok:=pX wf sz;have hl8: ∀p∈ls,p.2.length<=8:=λ p mp=>(wf.c1 p mp).2
 obtain ⟨sz1,sz2,sz3,sz4⟩:=id sz;have hrow: ∀ws∈ds.map (aV ls),ws.length<=18:=λ ws mws=>by
  obtain ⟨ps,mps,rfl⟩:=Zb.mp mws;exact Yg (List.length_filterMap_le ..) (sz3 ps mps).1
 have hlk: ∀ws∈ds.map (aV ls),∀w∈ws,Fo.lk ls w.1=some w.2.1:=λ ws mws w mw=>by
  obtain ⟨ps,mps,rfl⟩:=Zb.mp mws;obtain ⟨p,mp,ep⟩:=List.mem_filterMap.mp (show w∈ps.filterMap _ from mw);obtain ⟨co,eco,rfl⟩:=Yp.mp ep;exact eco
 symm;refine ⟨f,ha,h,ls,ds,es,rfl,hF,wf,hH,by rfl',λ ps mps=>by have:=(sz3 ps mps).1;rfl',λ wa H1 s1 hwa hW=> ?_⟩;have hwl:(ds.map (aV ls)).length=ds.length:=Qr _;generalize ds.map (aV ls)=wss at hok hrow hW q hwl hlk;rw [<- hwl] at hok sz1 sz2 sz4;symm;intro co hco;symm;intro fd hfd;have S1:Same H1 (upd (upd H1 co (HO.dT [])) fd (bA fd [])):=(aB hco _).new hfd;have eco1:upd (upd H1 co (HO.dT [])) fd (bA fd []) co=some (.dT []):=aA hfd aa;have efd1:upd (upd H1 co (HO.dT [])) fd (bA fd []) fd=some (bA fd []):=aa;have hfd1:H1 fd=none:=(aB hco _).free hfd;generalize upd (upd H1 co (HO.dT [])) fd (bA fd [])=H2 at S1 eco1 efd1;symm;refine ⟨f,wa,h,ls,wss,rfl,(hF.same s1).same S1,wf,hW.same S1,sz1,by rfl',λ ws mws=>⟨by have:=hrow ws mws;rfl',λ w mw=>⟨hlk ws mws w mw,(hok ws mws w mw).2⟩⟩,λ fk H3 N s3 hfk hN hT=> ?_⟩;obtain ⟨fz,efz,fz1,fz2⟩:=hT;have hrl:(bR wss N).length<=wss.length:=by
  have hrm: ∀k,∀r∈bR wss k,0<=r/\r<wss.length:=λ k=>cY (P:=λ r:Int=>0<=r/\r<wss.length) ⟨by decide,by rfl'⟩ (λ p q' hp hq=>by
   obtain ⟨w,mw,rfl⟩:=Zb.mp hq;exact (hok.at mw).2) k
  have:=cZ (l:=bR wss N) (m:=(List.range wss.length).map λ i:Nat=>(i:Int)) (dY _ _ N) λ r mr=>by
   obtain ⟨h0,h1⟩:=hrm N r mr;exact Zb.mpr ⟨r.toNat,Yw.mpr (by rfl'),by rfl'⟩
  rw [Qr,Xi] at this;exact this
 have hfl:fz.length<=16200:=by
  have h1:=pY hrow (bR wss N);rw [<- efz,Qr] at h1;have:=Nat.mul_le_mul_right 324 (Yg hrl sz2);rfl'
 refine wA (λ z:Fz=>V.ref z.1) (zs:=fz) (SqL.of fz1) (by rfl') (λ z:Fz=>V.ref z.2.1) ?_ λ wt hwt=> ?_
 .rintro i z hi A hA;obtain ⟨z1,_⟩:=fz2 z (Ze hi);symm;exact eV (SqT.of z1) (aN (j:=1) (v:= .ref z.2.1) rfl) hA
 have S3:=(S1.trans s3).new (o:=HO.lst (fz.map λ z:Fz=>V.ref z.2.1)) hwt;have eco3:upd H3 wt (HO.lst (fz.map λ z:Fz=>V.ref z.2.1)) co=some (.dT []):=aA hwt (s3.get eco1);have efd3:upd H3 wt (HO.lst (fz.map λ z:Fz=>V.ref z.2.1)) fd=some (bA fd []):=aA hwt (s3.get efd1);have ewt3:upd H3 wt (HO.lst (fz.map λ z:Fz=>V.ref z.2.1)) wt=some (.lst ((fz.map λ z:Fz=>(z.2.1,jF z.2.2.2.2)).map λ z:Addr×Sd=>V.ref z.1)):=by rw [aa,Zq];rfl
 have hst3: ∀z∈fz.map λ z:Fz=>(z.2.1,jF z.2.2.2.2),StT K (upd H3 wt (HO.lst (fz.map λ z:Fz=>V.ref z.2.1))) z.1 z.2:=λ z mz=>by
  obtain ⟨y,my,rfl⟩:=Zb.mp mz;exact (fz2 y my).2.1.same (aB hwt _)
 have hwt1:H1 wt=none:=(S1.trans s3).free hwt;generalize upd H3 wt (HO.lst (fz.map λ z:Fz=>V.ref z.2.1))=H4 at S3 eco3 efd3 ewt3 hst3;have efs:(fz.map λ z:Fz=>(z.2.1,jF z.2.2.2.2)).map (·.2)=uN wss N:=by rw [Zq];unfold uN;rw [<- efz,Zq];rfl
 have efl:(fz.map λ z:Fz=>(z.2.1,jF z.2.2.2.2)).length<=16200:=by rw [Qr];exact hfl
 generalize fz.map (λ z:Fz=>(z.2.1,jF z.2.2.2.2))=fs at ewt3 hst3 efs efl;symm;walk_at "ns";have hfr: ∀p∈[co,fd,wt],H1 p=none:=λ p hp=>by
  simp only [Zm,Yq,Xz] at hp;rcases hp with rfl | rfl | rfl
  .exact hco
  .exact hfd1
  .exact hwt1
 have SH:=s1;refine lQ (λ m Z H'=>Sb [co,fd,wt] H1 H'/\ ∃ (zs:List Gz) (fs:List (Addr×Sd)) (cs:List (List Nat×Addr)) (o6:Option V),H' fd=some (bA fd (cg zs))/\(∀z∈zs,z.2.2≠wt/\GzT K H' ls wss z)/\H' wt=some (.lst (fs.map λ z:Addr×Sd=>V.ref z.1))/\(∀z∈fs,StT K H' z.1 z.2)/\H' co=some (.dT (cs.map λ c=>(qg c.1,V.ref c.2)))/\(∀c∈cs,H' c.2=some (.dK (wH (wG c.1 ls))))/\Mm.Clo (uN wss N) (Cr wss) (zs.map (·.2.1)) (fs.map (·.2))/\cs.length<=zs.length/\fs.length<=16200+18*zs.length/\m=(50000-zs.length)*19+fs.length/\Z=[some (.ref f),some (.ref ha),some (.ref wa),some (.ref co),some (.ref fd),some (.ref wt),o6]) _ ⟨Sb.of S3,[],fs,[],none,efd3,λ z m=>(by cases m),ewt3,hst3,eco3,λ c m=>(by cases m),by rw [efs];exact Mm.Clo.start _ _,Zk _,by rfl',rfl,rfl⟩ ?_ ?_
 .rintro m Z H' Nx ⟨sb,zs,fs,cs,o6,efd,hzs,ewt,hfs,eco,hcs,hC,hcl,hfl',rfl,rfl⟩ hN';have S':=sb.off hfr;have hin: ∀x,Mm.Rch (uN wss N) (Cr wss) x->InU wss.length ls x:=λ x hx=>Mm.Rch.all (Cy hok N) (Cw hl8 hok) hx
  have hzl:zs.length<=50000:=by
   have:=cZ hC.nd λ x mx=>(hin x (hC.rF x mx)).mem
   rw [Cu,Qr] at this;rfl'
  symm;refine cG (SqL.of ewt) ?_;rw [Qr];symm;refine dW (λ c1=> ?_) λ c1=> ?_
  .obtain ⟨gs,⟨sa,st⟩,rfl⟩: ∃ (gs:List (Addr×Sd)) (y:Addr×Sd),fs=gs++[y]:=⟨fs.dropLast,fs.getLast (λ e=>by rw [e] at c1;simp at c1),(List.dropLast_concat_getLast _).symm⟩;rw [Zh] at hC ewt;rw [Zg,Yn] at hfl' hN' c1;have hst:=hfs _ (Zw _ (Za.mpr rfl));have hgs: ∀z∈gs,StT K H' z.1 z.2:=λ z mz=>hfs z (Zz _ mz)
   dsimp only at hst;have hstI:=hin st (hC.rW st (Zw _ (Za.mpr rfl)));symm;refine dO (SqL.of ewt) ?_;symm;refine s_pop ewt ?_;symm;have n1:fd≠wt:=bx efd ewt (by intro z;cases z);have n2:co≠wt:=bx eco ewt (by intro z;cases z);have n3:co≠fd:=bx eco efd (by intro z;cases z);have sb1:=sb.set (p:=wt) (o:=HO.lst (gs.map λ z:Addr×Sd=>V.ref z.1)) (by simp);have efd1:upd H' wt (HO.lst (gs.map λ z:Addr×Sd=>V.ref z.1)) fd=some (bA fd (cg zs)):=by rw [au n1];exact efd
   have eco1:upd H' wt (HO.lst (gs.map λ z:Addr×Sd=>V.ref z.1)) co=some (.dT (cs.map λ c=>(qg c.1,V.ref c.2))):=by rw [au n2];exact eco
   have ewt1:upd H' wt (HO.lst (gs.map λ z:Addr×Sd=>V.ref z.1)) wt=some (.lst (gs.map λ z:Addr×Sd=>V.ref z.1)):=aa;have nt: ∀ {xs:List V} l,HO.lst xs≠ .tup l:=λ l z=>by cases z
   have hzs1: ∀z∈zs,z.2.2≠wt/\GzT K (upd H' wt (HO.lst (gs.map λ z:Addr×Sd=>V.ref z.1))) ls wss z:=λ z mz=>⟨(hzs z mz).1,(hzs z mz).2.1.keep ewt nt,(hzs z mz).2.2.keep ewt nt (hzs z mz).1⟩
   have hst1:StT K (upd H' wt (HO.lst (gs.map λ z:Addr×Sd=>V.ref z.1))) sa st:=hst.keep ewt nt;have hgs1: ∀z∈gs,StT K (upd H' wt (HO.lst (gs.map λ z:Addr×Sd=>V.ref z.1))) z.1 z.2:=λ z mz=>(hgs z mz).keep ewt nt
   have hcs1: ∀c∈cs,upd H' wt (HO.lst (gs.map λ z:Addr×Sd=>V.ref z.1)) c.2=some (.dK (wH (wG c.1 ls))):=λ c mc=>by rw [au (bx (hcs c mc) ewt (by intro z;cases z))];exact hcs c mc
   generalize upd H' wt (HO.lst (gs.map λ z:Addr×Sd=>V.ref z.1))=H5 at sb1 efd1 eco1 ewt1 hzs1 hst1 hgs1 hcs1 ⊢;have S5:=sb1.off hfr;refine ⟨fd,_,rfl,SGet.of efd1 (uO λ z mz=>(hzs1 z mz).2) hst1.a,?_⟩;by_cases m:st∈zs.map (·.2.1)
   .obtain ⟨v,ev⟩:=lW m;rw [ev];symm;show if (!true)=true then _ else _
    symm;exact hN' _ _ _ (by rfl') ⟨sb1,zs,gs,cs,_,efd1,hzs1,ewt1,hgs1,eco1,hcs1,hC.skip m,hcl,by rfl',rfl,rfl⟩
   .have ev:=gQ m;rw [ev];symm;show if (!false)=true then _ else _
    rw [if_pos (show (!false)=true from rfl)];have hyl:st.2.2.length<=8:=by
     obtain ⟨_,_,p,mp,d,_,e⟩:=hstI;rw [e,Yx];have:=hl8 p mp;rfl'
    walk_at "ns";with_reducible refine jq (λ Z H6=>Sb [co,fd,wt] H1 H6/\ ∃ (cs:List (List Nat×Addr)) (ca:Addr),H6 fd=some (bA fd (cg zs))/\(∀z∈zs,z.2.2≠wt/\GzT K H6 ls wss z)/\H6 wt=some (.lst (gs.map λ z:Addr×Sd=>V.ref z.1))/\(∀z∈gs,StT K H6 z.1 z.2)/\StT K H6 sa st/\H6 co=some (.dT (cs.map λ c=>(qg c.1,V.ref c.2)))/\(∀c∈cs,H6 c.2=some (.dK (wH (wG c.1 ls))))/\cs.length<=zs.length+1/\(st.2.2,ca)∈cs/\bF (cs.map λ c=>(qg c.1,V.ref c.2)) (qg st.2.2)=some (V.ref ca)/\Z=[some (.ref f),some (.ref ha),some (.ref wa),some (.ref co),some (.ref fd),some (.ref wt),some (.ref sa)]) ?_ ?_
    .rintro Z H6 ⟨sb6,cs6,ca,efd6,hzs6,ewt6,hgs6,hst6,eco6,hcs6,hcl6,mca,eca,rfl⟩;have S6:=sb6.off hfr;obtain ⟨sc,e1,e2⟩:=id hst6;obtain ⟨⟨i1,i2⟩,_,_⟩:=id hstI;obtain ⟨r,hr⟩: ∃r:Nat,st.1=(r:Int):=⟨st.1.toNat,by rfl'⟩;have hrw:wss[r]? =some (wss.getD st.1.toNat []):=by
      rw [hr,Yh,Zn,Zd (by rfl')];rfl
     have mrw:=Ze hrw;have hrwl:=hrow _ mrw;symm;refine iw e1 ?_;symm;refine ⟨co, .ref ca,rfl,by rw [<- eca];exact DGet.t (k:=qg st.2.2) eco6 (by rw [uL];exact e2),?_⟩;symm;refine ⟨wa,ca,sa,ls,wss,st,_,r,rfl,hW.same S6,hcs6 _ mca,hst6,hr,hrw,hlk _ mrw,by rfl',λ sp H7 s7 hsp hSS=> ?_⟩;symm;have efd7:=s7.get efd6;have ewt7:=s7.get ewt6;have eco7:=s7.get eco6;have hst7:=hst6.same s7;have nsp:sp≠wt:=λ e=>by rw [e,ewt6] at hsp;cases hsp
     refine ⟨fd,_,rfl,SPut.of efd7 (uO λ z mz=>(hzs6 z mz).2.same s7) hst7.a (by unfold cg;rw [Qr];rfl'),?_⟩;rw [lO ev];have nxt: ∀ {P:PySem.Heap->Prop} l,HO.ext P≠ .tup l:=λ l z=>by cases z
     have esd:cg zs++[(sa,fJ st,V.ref sp)]=cg (zs++[(sa,st,sp)]):=by unfold cg;rw [Zh];rfl
     have sb8:=(sb6.same s7).set (p:=fd) (o:=bA fd (cg zs++[(sa,fJ st,V.ref sp)])) (by simp);have efd8:upd H7 fd (bA fd (cg zs++[(sa,fJ st,V.ref sp)])) fd=some (bA fd (cg zs++[(sa,fJ st,V.ref sp)])):=aa;have ewt8:upd H7 fd (bA fd (cg zs++[(sa,fJ st,V.ref sp)])) wt=some (.lst (gs.map λ z:Addr×Sd=>V.ref z.1)):=by rw [au n1.symm];exact ewt7
     have eco8:upd H7 fd (bA fd (cg zs++[(sa,fJ st,V.ref sp)])) co=some (.dT (cs6.map λ c=>(qg c.1,V.ref c.2))):=by rw [au n3];exact eco7
     have hst8:StT K (upd H7 fd (bA fd (cg zs++[(sa,fJ st,V.ref sp)]))) sa st:=hst7.keep efd7 nxt;have hgs8: ∀z∈gs,StT K (upd H7 fd (bA fd (cg zs++[(sa,fJ st,V.ref sp)]))) z.1 z.2:=λ z mz=>((hgs6 z mz).same s7).keep efd7 nxt
     have hcs8: ∀c∈cs6,upd H7 fd (bA fd (cg zs++[(sa,fJ st,V.ref sp)])) c.2=some (.dK (wH (wG c.1 ls))):=λ c mc=>by
      have:=s7.get (hcs6 c mc);rw [au (bx this efd7 (by intro z;cases z))];exact this
     have nss: ∀ {a xs},SsT K H7 a xs->a≠fd:=λ h=>by
      obtain ⟨us,_,u2,_⟩:=h;exact bx u2 efd7 (by intro z;cases z)
     have hzs8: ∀z∈zs++[(sa,st,sp)],z.2.2≠wt/\GzT K (upd H7 fd (bA fd (cg zs++[(sa,fJ st,V.ref sp)]))) ls wss z:=λ z mz=>by
      rcases Zi.mp mz with mz | mz
      .have h7:=(hzs6 z mz).2.same s7;exact ⟨(hzs6 z mz).1,h7.1.keep efd7 nxt,h7.2.keep efd7 nxt (nss h7.2)⟩
      .rw [Za.mp mz];exact ⟨nsp,hst8,hSS.keep efd7 nxt (nss hSS)⟩
     generalize upd H7 fd (bA fd (cg zs++[(sa,fJ st,V.ref sp)]))=H8 at sb8 efd8 ewt8 eco8 hst8 hgs8 hcs8 hzs8 ⊢;symm;refine dO (SqL.of ewt8) ?_;symm;refine ⟨fd, .ref sp,rfl,by rw [<- yl (b:=sa) (v:=V.ref sp) ev];exact SGet.of efd8 (by rw [esd];exact uO λ z mz=>(hzs8 z mz).2) hst8.a,?_⟩;symm;obtain ⟨us,u1,u2,u3⟩:=(hzs8 _ (Zw _ (Za.mpr rfl))).2.2;dsimp only at u1 u2;have hul:us.length=(wss.getD st.1.toNat []).length:=by
      have:=Yt List.length u1;rw [Qr,Qr] at this;exact this
     obtain ⟨ps,ep,hps⟩:=uM u3;have epl:ps.length=us.length:=by rw [<- ep,Qr]
     refine wA (λ p:Uz=>V.ref p.1.1) (zs:=ps) (SqL.of (by rw [u2,<- ep,Zq];rfl)) (by rfl') (λ p:Uz=>V.ref p.2) ?_ λ nl hnl=> ?_
     .rintro i p hi A hA;symm;exact eV (SqT.of (hps p (Ze hi)).1) (aN (j:=2) (v:= .ref p.2) rfl) hA
     have s9:Same H8 (upd H8 nl (HO.lst (ps.map λ p:Uz=>V.ref p.2))):=aB hnl _;have e9:upd H8 nl (HO.lst (ps.map λ p:Uz=>V.ref p.2)) nl=some (.lst (ps.map λ p:Uz=>V.ref p.2)):=aa;generalize upd H8 nl (HO.lst (ps.map λ p:Uz=>V.ref p.2))=H9 at s9 e9 ⊢;have ewt9:=s9.get ewt8;symm;refine Bu ewt9 e9 (by rw [Qr,Qr];rfl') ?_;symm;have hvs:(ps.map λ p:Uz=>(p.2,p.1.2.2.2)).map (·.2)=Cr wss st:=by
      rw [Zq];have:ps.map ((λ x:Addr×Sd=>x.2)∘λ p:Uz=>(p.2,p.1.2.2.2))=(ps.map (·.1)).map (λ u:Addr×Str×Nat×Sd=>u.2.2.2):=by rw [Zq];rfl
      rw [this,ep];have:=Yt (List.map λ x:Str×Nat×Sd=>x.2.2) u1;rw [Zq,Zq] at this;exact this
     refine hN' ((50000-(zs++[(sa,st,sp)]).length)*19+(gs++ps.map λ p:Uz=>(p.2,p.1.2.2.2)).length) _ _ ?_ ⟨(sb8.same s9).set (by simp),zs++[(sa,st,sp)],gs++ps.map (λ p:Uz=>(p.2,p.1.2.2.2)),cs6,_,by rw [au n1,<- esd];exact s9.get efd8,λ z mz=>⟨(hzs8 z mz).1,((hzs8 z mz).2.1.same s9).keep ewt9 nt,((hzs8 z mz).2.2.same s9).keep ewt9 nt (hzs8 z mz).1⟩,by rw [aa,Zh,Zq];rfl,λ z mz=> ?_,by rw [au n2];exact s9.get eco8,λ c mc=>by have:=s9.get (hcs8 c mc);rw [au (bx this ewt9 (by intro z;cases z))];exact this,?_,by rw [Zg,Yn];exact hcl6,?_,rfl,rfl⟩
     .rw [Zg,Yn,Zg,Qr];have:zs.length<50000:=by
       have h1:=cZ (hC.take m).nd λ x mx=>(hin x ((hC.take m).rF x mx)).mem
       rw [Cu,Zg,Yn,Qr] at h1;rfl'
      rfl'
     .rcases Zi.mp mz with mz | mz
      .exact ((hgs8 z mz).same s9).keep ewt9 nt
      .obtain ⟨p,mp,rfl⟩:=Zb.mp mz;exact ((hps p mp).2.same s9).keep ewt9 nt
     .rw [Zh,Zh,hvs];exact hC.take m
     .rw [Zg,Qr,Zg,Yn];rfl'
    .intro Nj hJ;obtain ⟨sc,e1,e2⟩:=id hst1;symm;refine iw e1 ?_;symm;refine ⟨co,_,rfl,DGet.t (k:=qg st.2.2) eco1 (by rw [uL];exact e2),?_⟩;by_cases mc:st.2.2∈cs.map (·.1)
     .obtain ⟨ca,mca,eca⟩:=Cq mc;rw [eca];symm;show if (!true)=true then _ else _
      symm;exact hJ _ _ ⟨sb1,cs,ca,efd1,hzs1,ewt1,hgs1,hst1,eco1,hcs1,by rfl',mca,eca,rfl⟩
     .have evc:=wI mc;rw [evc];symm;show if (!false)=true then _ else _
      symm;refine iw e1 ?_;symm;refine ⟨f,sc,h,ls,st.2.2,rfl,((hF.same s1).same S5).t,wf,SqT.of e2,by rfl',λ ca H6 s6 hca eca=> ?_⟩;symm;refine iw (s6.get e1) ?_;symm;have eco6:=s6.get eco1;have ndt: ∀ {xs:List (List Key×V)} l,HO.dT xs≠ .tup l:=λ l z=>by cases z
      refine ⟨co,_,rfl,DPut.t (k:=qg st.2.2) eco6 (by rw [uL];exact s6.get e2) (Yb (by rw [Qr];rfl':_<=50000) (by decide)),?_⟩;rw [gF _ evc];symm;refine hJ _ _ ⟨(sb1.same s6).set (by simp),cs++[(st.2.2,ca)],ca,by rw [au n3.symm];exact s6.get efd1,λ z mz=>⟨(hzs1 z mz).1,((hzs1 z mz).2.1.same s6).keep eco6 ndt,((hzs1 z mz).2.2.same s6).keep eco6 ndt ?_⟩,by rw [au n2.symm];exact s6.get ewt1,λ z mz=>((hgs1 z mz).same s6).keep eco6 ndt,(hst1.same s6).keep eco6 ndt,by rw [aa,Zh];rfl,λ c mc'=> ?_,by rw [Zg,Yn];rfl',by simp,by rw [Zh];exact (mO _ _ _ _ evc).trans (if_pos rfl),rfl⟩
      .obtain ⟨us,_,u2,_⟩:=(hzs1 z mz).2.2;exact bx (s6.get u2) eco6 (by intro z;cases z)
      .rcases Zi.mp mc' with mc' | mc'
       .have:=s6.get (hcs1 c mc');rw [au (bx this eco6 (by intro z;cases z))];exact this
       .rw [Za.mp mc'];rw [au (bx eca eco6 (by intro z;cases z))];exact eca
  .have e0:fs=[]:=Zx (by rfl');subst e0;symm;exact q fd H' N zs (s1.trans S') (s1.free hfd1) hN efd (λ z mz=>(hzs z mz).2) hzl hC.nd hC.fin
 .rintro Z H Q Q' hq ⟨v,hv,x,n,e,hl,i,j,e1,e2,k,e3,z⟩;exact ⟨v,hv,x,n,e,hl,i,j,e1,e2,k,e3,hq _ _ z⟩
abbrev CK (st:Sd->List (Str×Nat×Sd)) (xs:List Sd) (c:Nat) (x y:Sd):Prop:=x∈xs/\ ∃s,(s,c,y)∈st x
abbrev J2 (ls:List (Str×List Nat)) (wss:List (List (Str×List Nat×Int))) (x:Sd):List (Str×Nat×Sd):=(wss.getD x.1.toNat []).map (Cp ls x)
abbrev Bq:=Addr×Nat×Addr×Sd
variable {u:Bq} {U:Addr->List Bq}
def BqT (K:W.Frag) (H:Hp) (b:Bq):Prop:=H b.1=some (.tup [.int (b.2.1:Nat), .ref b.2.2.1])/\StT K H b.2.2.1 b.2.2.2
theorem eO {α β:Type} {f:α->β}: ∀ {l:List α} {x y:α},(l.map f).Nodup->x∈l->y∈l->f x=f y->x=y
 | z::l,x,y,h,mx,my,e=>by
  rw [Zl,Wr] at h;rcases Zm.mp mx with ex | mx<;>rcases Zm.mp my with ey | my
  .rw [ex,ey]
  .exact absurd (Zb.mpr ⟨y,my,by rw [<- e,ex]⟩) h.1
  .exact absurd (Zb.mpr ⟨x,mx,by rw [e,ey]⟩) h.1
  .exact eO h.2 mx my e
theorem dJ {ps:List Addr} {H1:Hp} {o:HO} (s:Sb ps H H1) (h:p∈ps\/H p=none):Sb ps H (upd H1 p o):=λ b u nb e=>by
 rw [au (λ z=>by
  rcases h with h | h
  .exact nb (z▸h)
  .rw [z,h] at e;cases e)]
 exact s b u nb e
structure BkC (K:W.Frag) (H H':Hp) (ba:Addr) (gz bz:List Gz) (U:Addr->List Bq) (P:Nat->Sd->Sd->Prop) (m:Nat):Prop where
 d:H' ba=some (bA ba (cg bz))
 k:bz.map (λ b=>(b.1,b.2.1))=gz.map (λ z=>(z.1,z.2.1))
 n:(bz.map (·.2.2)).Nodup
 f: ∀b∈bz,H b.2.2=none/\b.2.2≠ba
 c: ∀b∈bz,H' b.2.2=some (.lst ((U b.2.2).map λ u=>V.ref u.1))/\(∀u∈U b.2.2,BqT K H' u)/\ ∀c x,(c,x)∈(U b.2.2).map (λ u=>(u.2.1,u.2.2.2))↔P c x b.2.1
 s:(bz.map λ b=>(U b.2.2).length).sum<=m
theorem BqT.same {K:W.Frag} (h:BqT K H u) (s:Same H H'):BqT K H' u:=⟨s.get h.1,h.2.same s⟩
theorem BqT.keep {K:W.Frag} {o:HO} (h:BqT K H u) (e:H p=some o) (ht: ∀l,o≠ .tup l):BqT K (upd H p o') u:=
 ⟨by rw [au (λ z=>by have:=h.1;rw [z,e] at this;exact ht _ (Ym this))];exact h.1,h.2.keep e ht⟩
theorem BkC.same {K:W.Frag} {H1 H2:Hp} {P:Nat->Sd->Sd->Prop} (h:BkC K H H1 ba gz bz U P m) (s:Same H1 H2):BkC K H H2 ba gz bz U P m:=
 ⟨s.get h.d,h.k,h.n,h.f,λ b mb=>by
  obtain ⟨e1,e2,e3⟩:=h.c b mb;exact ⟨s.get e1,λ u mu=>(e2 u mu).same s,e3⟩,h.s⟩
theorem BkC.imp {K:W.Frag} {H1:Hp} {P:Nat->Sd->Sd->Prop} {m':Nat} (h:BkC K H H1 ba gz bz U P m) (hp: ∀c x,∀b∈bz,P c x b.2.1↔P' c x b.2.1) (hm:m<=m'):BkC K H H1 ba gz bz U P' m':=
 ⟨h.d,h.k,h.n,h.f,λ b mb=>by
  obtain ⟨e1,e2,e3⟩:=h.c b mb;exact ⟨e1,e2,λ c x=>(e3 c x).trans (hp c x b mb)⟩,Yg h.s hm⟩
theorem CN {α:Type} {f:α->Nat}: ∀ {l:List α} {x:α},x∈l->f x<=(l.map f).sum
 | z::l,x,m=>by
  rw [Zl,List.sum_cons];rcases Zm.mp m with e | m
  .rw [e];rfl'
  .have:=CN (f:=f) m;rfl'
theorem wJ {β:Type} {U:Addr->List β} {u:β} {a:Addr}: ∀ {bz:List Gz},(bz.map (·.2.2)).Nodup->(bz.map λ b=>(if b.2.2=a then U b.2.2++[u] else U b.2.2).length).sum<=(bz.map λ b=>(U b.2.2).length).sum+1/\(a∉bz.map (·.2.2)->(bz.map λ b=>(if b.2.2=a then U b.2.2++[u] else U b.2.2).length).sum=(bz.map λ b=>(U b.2.2).length).sum)
 | [],_=>⟨by simp,λ _=>rfl⟩
 | v::bz,h=>by
  rw [Zl,Wr] at h;obtain ⟨i1,i2⟩:=wJ (U:=U) (u:=u) (a:=a) h.2;simp only [Zl,List.sum_cons];by_cases e:v.2.2=a
  .have:=i2 (by rw [<- e];exact h.1);rw [if_pos e,Zg,Yn];exact ⟨by rfl',λ n=>absurd (Zm.mpr (.inl e.symm)) n⟩
  .rw [if_neg e];exact ⟨by rfl',λ n=>by rw [i2 (λ m=>n (Zv _ m))]⟩
theorem BkC.add {K:W.Frag} {H1:Hp} {P:Nat->Sd->Sd->Prop} (h:BkC K H H1 ba gz bz U P m) (nd:(bz.map (·.2.1)).Nodup) {b:Gz} (mb:b∈bz) (hu:BqT K H1 u):
  BkC K H (upd H1 b.2.2 (.lst (((U b.2.2).map λ u=>V.ref u.1)++[V.ref u.1]))) ba gz bz (λ a=>if a=b.2.2 then U a++[u] else U a) (λ c x y=>P c x y\/(c=u.2.1/\x=u.2.2.2/\y=b.2.1)) (m+1):=by
 obtain ⟨e1,e2,e3⟩:=h.c b mb;refine ⟨by rw [au (Ne.symm (h.f b mb).2)];exact h.d,h.k,h.n,h.f,λ v mv=> ?_,Yg (wJ h.n).1 (Nat.add_le_add_right h.s 1)⟩;by_cases e:v=b
 .subst e;rw [if_pos rfl];refine ⟨by rw [aa,Zh];rfl,λ w mw=> ?_,λ c x=> ?_⟩
  .rcases Zi.mp mw with mw | mw
   .exact (e2 w mw).keep e1 (λ l q=>by cases q)
   .rw [Za.mp mw];exact hu.keep e1 (λ l q=>by cases q)
  .rw [Zh,Zi,e3];constructor
   .rintro (h | h)
    .exact .inl h
    .rw [Zl,Xq,Za] at h;exact .inr ⟨congrArg Prod.fst h,Yt Prod.snd h,rfl⟩
   .rintro (h | ⟨h1,h2,_⟩)
    .exact .inl h
    .exact .inr (by rw [h1,h2];simp)
 .obtain ⟨g1,g2,g3⟩:=h.c v mv;have ne:v.2.2≠b.2.2:=λ z=>e (eO h.n mv mb z)
  rw [if_neg ne];refine ⟨by rw [au ne];exact g1,λ w mw=>(g2 w mw).keep e1 (λ l q=>by cases q),λ c x=> ?_⟩;rw [g3];exact ⟨.inl,λ h=>h.elim id λ h=>absurd (eO nd mv mb h.2.2) e⟩
theorem BkC.key {K:W.Frag} {H1:Hp} {P:Nat->Sd->Sd->Prop} (h:BkC K H H1 ba gz bz U P m) {b:Gz} (mb:b∈bz): ∃y∈gz,y.1=b.1/\y.2.1=b.2.1:=by
 have:(b.1,b.2.1)∈gz.map (λ z=>(z.1,z.2.1)):=by rw [<- h.k];exact Zb.mpr ⟨b,mb,rfl⟩
 obtain ⟨y,my,ey⟩:=Zb.mp this;exact ⟨y,my,(Prod.mk.inj ey).1,(Prod.mk.inj ey).2⟩
theorem BkC.sb {K:W.Frag} {H1 H2:Hp} {o:Addr} {P:Nat->Sd->Sd->Prop} {od:PySem.Obj} {x:HO} (h:BkC K H H1 ba gz bz U P m) (s:Sb [o] H1 H2) (e:H1 o=some (.frz od x)):BkC K H H2 ba gz bz U P m:=by
 have tk: ∀ {a:Addr} {u:HO},(∀od x,u≠ .frz od x)->H1 a=some u->H2 a=some u:=λ hu ea=>s.get (λ m=>by
  rw [Za.mp m,e] at ea;exact hu _ _ (Ym ea).symm) ea
 refine ⟨tk (λ _ _ z=>by cases z) h.d,h.k,h.n,h.f,λ b mb=> ?_,h.s⟩;obtain ⟨e1,e2,e3⟩:=h.c b mb;refine ⟨tk (λ _ _ z=>by cases z) e1,λ u mu=> ?_,e3⟩;obtain ⟨g1,c,g2,g3⟩:=e2 u mu;exact ⟨tk (λ _ _ z=>by cases z) g1,c,tk (λ _ _ z=>by cases z) g2,tk (λ _ _ z=>by cases z) g3⟩
theorem uQ {z:Addr×Sk×V} (h:(cg zs)[i]? =some z): ∃g,zs[i]? =some g/\z=(g.1,fJ g.2.1,V.ref g.2.2):=by
 unfold cg at h;rw [Zj] at h
 cases e:zs[i]? with
 | none=>rw [e] at h;cases h
 | some g=>rw [e] at h;exact ⟨g,rfl,(Ym h).symm⟩
theorem R7 {y z:Gz} (h:(zs.map (·.2.1)).Nodup) (hi:zs[i]? =some y) (hj:zs[j]? =some z) (e:y.2.1=z.2.1):i=j:=by
 obtain ⟨i1,i2⟩:=Zo.mp hi;obtain ⟨j1,j2⟩:=Zo.mp hj;have:=(List.nodup_iff_pairwise_ne.mp h);rcases Nat.lt_trichotomy i j with l | l | l
 .exact absurd (by rw [List.getElem_map,List.getElem_map,i2,j2];exact e) (List.pairwise_iff_getElem.mp h i j (by rw [Qr];exact i1) (by rw [Qr];exact j1) l)
 .exact l
 .exact absurd (by rw [List.getElem_map,List.getElem_map,i2,j2];exact e.symm) (List.pairwise_iff_getElem.mp h j i (by rw [Qr];exact j1) (by rw [Qr];exact i1) l)
theorem il {z:Gz} (hn:(zs.map (·.2.1)).Nodup) (mz:z∈zs):cL (cg zs) (fJ z.2.1)=some (V.ref z.2.2):=by
 obtain ⟨v,hv⟩:=lW (Zb.mpr ⟨z,mz,rfl⟩);obtain ⟨b,mb⟩:=yj hv;obtain ⟨y,my,ey⟩:=Zb.mp mb;have e1:y=z:=eO hn my mz (pR (Yt (λ p:Addr×Sk×V=>p.2.1) ey));subst e1;rw [hv];exact Yt some (Yt (λ p:Addr×Sk×V=>p.2.2) ey).symm
inductive sp_f11 (K:W.Frag) (vs:List V) (H:Hp) (Q:VK) (E:XK):Prop
 | mk (oa:Addr) (gz:List Gz) (st:Sd->List (Str×Nat×Sd)) (h0:vs=[.ref oa]) (h1:Rd H oa (bA oa (cg gz))) (h2:(∀z∈gz,StT K H z.1 z.2.1/\SsT K H z.2.2 (st z.2.1)/\(st z.2.1).length<=18)) (h3:(gz.map (·.2.1)).Nodup) (h4:gz.length<=50000) (h5:(∀z∈gz,∀e∈st z.2.1,e.2.2∈gz.map (·.2.1))) (h6: ∀od ba H' (bz:List Gz) (U:Addr->List Bq),Sb [oa] H H'->H' oa=some (.frz od (bA oa (cg gz)))->H ba=none->BkC K H H' ba gz bz U (CK st (gz.map (·.2.1))) 900000->Q (.ref ba) H'):sp_f11 K vs H Q E
abbrev CP (K:W.Frag):TS:=
  (aG (eY (pH (aj 0)) (ji K 2 (bY (az 2) (bY (az 3) jH))) (eY (cQ K (aj 3)) (ji K 3 (bY (az 4) (bY (az 5) (bY (az 6) jH)))) (dF (qz K "list" cu (jb (aj 1) (aj 6)) (ao (cO (ao (aj 5) (ao (aj 2) aC))) aC)))))
  (bJ (aj 1)))
def uR (K:W.Frag) (E:XK) (Eh:XK):TS:=
  (aG (aJ rG (az 1))
  (aG (eY (pG (aj 0)) (az 2) (rH (aj 1) (aj 2) (cR aC)))
  (CP K)))
theorem MK (h:sp_f11 K vs H Q E): ∃Eh,uR K E Eh { nx:=λ _ H'=>Q .non H',rt:=Q } (start ["onward","backward","stand","steps","sign","cost","later"] vs) H:=by
 obtain ⟨oa,gz,st,rfl,hO,hG,hN,hL,hC,q⟩:=h;refine ⟨E0,?_⟩;unfold uR;symm;intro ba hba;symm;have S0:Same H (upd H ba (bA ba [])):=aB hba _;have hO':Rd (upd H ba (bA ba [])) oa (bA oa (cg gz)):=by
  rcases hO with e | ⟨od,e⟩
  .exact .inl (S0.get e)
  .exact .inr ⟨od,S0.get e⟩
 have nob:oa≠ba:=λ z=>by
  rcases hO with e | ⟨od,e⟩<;>(rw [z,hba] at e;cases e)
 have tkO: ∀ {H':Hp},Sb [oa] H H'-> ∀ {a:Addr} {l:List V},H a=some (.tup l)->H' a=some (.tup l):=λ sb a l e=>sb.get (λ m=>by
  rw [Za.mp m] at e;rcases hO with g | ⟨od,g⟩<;>(rw [g] at e;cases e)) e
 have stO: ∀ {H':Hp},Sb [oa] H H'-> ∀ {a:Addr} {x:Sd},StT K H a x->StT K H' a x:=λ sb a x h=>by
  obtain ⟨c,e1,e2⟩:=h;exact ⟨c,tkO sb e1,tkO sb e2⟩
 have frH: ∀ {H':Hp} {o:HO},Sb [oa] H H'->H' oa=some o-> ∀ {p:Addr},H' p=none->H p=none:=λ {H' o} sb eo {p} hp=>by
  cases e:H p with
  | none=>rfl
  | some u=>
   by_cases z:p=oa
   .rw [z,eo] at hp;cases hp
   .rw [sb.get (by simpa using z) e] at hp;cases hp
 refine Mq hO' (λ od i Z H'=> ∃bz:List Gz,BkC K H H' ba (gz.take i) bz (λ _=>[]) (λ _ _ _=>False) 0/\Sb [oa] H H'/\H' oa=some (.frz od (bA oa (cg gz)))/\ ∃o1 o2 o3 o4 o5,Z=[some (.ref oa),some (.ref ba),o1,o2,o3,o4,o5]) ?_ ?_ ?_ ?_
 .intro od H1 sb e1;refine ⟨[],⟨?_,rfl,by simp,by simp,by simp,by simp⟩,λ b o nb e=>sb b o nb (S0.get e),e1,_,_,_,_,_,rfl⟩;exact sb.get (by simpa using Ne.symm nob) aa
 .rintro od i Z H' ⟨bz,_,_,e,_⟩;exact e
 .rintro od i z Z H' hi ⟨bz,hB,sb,eo,o1,o2,o3,o4,o5,rfl⟩;obtain ⟨g,hg,rfl⟩:=uQ hi;have mg:=Ze hg;symm;intro p hp;symm;have hpH:=frH sb eo hp;have S1:Same H' (upd H' p (.lst [])):=aB hp _;have hil:i<gz.length:=(Zo.mp hg).1;have ebl:bz.length<=50000:=by
   have:=Yt List.length hB.k;rw [Qr,Qr,Yd] at this;rfl'
  have hsb: ∀b∈bz,StT K H b.1 b.2.1:=λ b mb=>by
   obtain ⟨y,my,ey⟩:=hB.key mb;have:=(hG y (List.mem_of_mem_take my)).1;rw [ey.1,ey.2] at this;exact this
  have ev:cL (cg bz) (fJ g.2.1)=none:=gQ λ m=>by
   obtain ⟨b,mb,eb⟩:=Zb.mp m;obtain ⟨y,my,ey⟩:=hB.key mb;obtain ⟨n,hn,hny⟩:=List.mem_take_iff_getElem.mp my;have h1:gz[n]? =some y:=by rw [Zd (by rfl'),hny]
   have:=R7 hN h1 hg (ey.2.trans eb);rfl'
  refine ⟨ba,_,rfl,SPut.of (S1.get hB.d) (λ q mq=> ?_) ((stO sb (hG g mg).1).same S1).a (by unfold cg;rw [Qr];rfl'),?_⟩
  .obtain ⟨b,mb,rfl⟩:=Zb.mp mq;exact ((stO sb (hsb b mb)).same S1).a
  rw [lO ev];have npb:p≠ba:=λ z=>by rw [z,hB.d] at hp;cases hp
  have esd:cg bz++[(g.1,fJ g.2.1,V.ref p)]=cg (bz++[(g.1,g.2.1,p)]):=by unfold cg;rw [Zh];rfl
  have etk:gz.take (i+1)=gz.take i++[g]:=by rw [Ys,hg];rfl
  have nxt: ∀ {P:PySem.Heap->Prop} l,HO.ext P≠ .tup l:=λ l z=>by cases z
  symm;refine ⟨bz++[(g.1,g.2.1,p)],⟨by rw [aa,esd],?_,?_,λ b mb=> ?_,λ b mb=> ?_,by rw [Zh,List.sum_append];exact Yg (Nat.add_le_add_right hB.s _) (by simp)⟩,dJ (dJ sb (.inr hpH)) (.inr hba),by rw [au nob];exact S1.get eo,_,_,_,_,_,rfl⟩
  .rw [etk,Zh,Zh,hB.k];rfl
  .rw [Zh,Xc];refine ⟨hB.n,by simp,λ a ma c mc e=> ?_⟩;obtain ⟨b,mb,rfl⟩:=Zb.mp ma;obtain ⟨e1,_⟩:=hB.c b mb;rw [Zl,Xq,Za] at mc;rw [e,mc,hp] at e1;cases e1
  .rcases Zi.mp mb with mb | mb
   .exact hB.f b mb
   .rw [Za.mp mb];exact ⟨hpH,npb⟩
  .rcases Zi.mp mb with mb | mb
   .obtain ⟨e1,e2,e3⟩:=hB.c b mb;exact ⟨by rw [au (hB.f b mb).2];exact S1.get e1,λ u mu=>((e2 u mu).same S1).keep (S1.get hB.d) nxt,e3⟩
   .rw [Za.mp mb];exact ⟨by rw [au npb,aa];rfl,λ u mu=>(by cases mu),λ c x=>by simp⟩
 .rintro od Z H' ⟨bz,hB,sb,eo,o1,o2,o3,o4,o5,rfl⟩;symm;have eall:gz.take (cg gz).length=gz:=by unfold cg;rw [Qr];exact Xh
  rw [eall] at hB;have hk:=hB.k;have hbN:(bz.map (·.2.1)).Nodup:=by
   have:=Yt (List.map Prod.snd) hk;rw [Zq,Zq] at this;rw [show bz.map (·.2.1)=gz.map (·.2.1) from this];exact hN
  have hsb: ∀b∈bz,StT K H b.1 b.2.1:=λ b mb=>by
   obtain ⟨y,my,ey⟩:=hB.key mb;have:=(hG y my).1;rw [ey.1,ey.2] at this;exact this
  refine Mr (.inr ⟨od,eo⟩) (λ od i Z H'=> ∃U,BkC K H H' ba gz bz U (CK st ((gz.take i).map (·.2.1))) (18*i)/\Sb [oa] H H'/\H' oa=some (.frz od (bA oa (cg gz)))/\ ∃o1 o2 o3 o4 o5,Z=[some (.ref oa),some (.ref ba),o1,o2,o3,o4,o5]) ?_ ?_ ?_ ?_
  .intro od' H1 sb1 e1;exact ⟨_,(hB.sb sb1 eo).imp (λ c x b mb=>by simp) (Zk _),λ b o nb e=>sb1 b o nb (sb b o nb e),e1,_,_,_,_,_,rfl⟩
  .rintro od i Z H' ⟨_,_,_,e,_⟩;exact e
  .rintro od' i z p Z H1 hi ⟨U,hB1,sb1,eo1,o1,o2,o3,o4,o5,rfl⟩ hp;obtain ⟨g,hg,rfl⟩:=uQ hi;have mg:=Ze hg;have hpH:=frH sb1 eo1 hp;have S1:Same H1 (upd H1 p (.tup [.ref g.1, .ref g.2.2])):=aB hp _;have hB2:=hB1.same S1;have sb2:Sb [oa] H (upd H1 p (.tup [.ref g.1, .ref g.2.2])):=dJ sb1 (.inr hpH);have eo2:=S1.get eo1;refine f9 (SqT.of aa) rfl ?_;symm;obtain ⟨us,u1,u2,u3⟩:=(hG g mg).2.1;obtain ⟨ps,ep,hps⟩:=uM u3;have est:ps.map (λ p:Uz=>p.1.2)=st g.2.1:=by
    rw [<- u1,<- ep,Zq];rfl
   have epl:ps.length<=18:=by
    have:=Yt List.length est;rw [Qr] at this;have:=(hG g mg).2.2;rfl'
   have ngo:g.2.2≠oa:=λ z=>by
    rw [z] at u2;rcases hO with e | ⟨od,e⟩<;>(rw [e] at u2;cases u2)
   have hsq: ∀ {H':Hp},Sb [oa] H H'->SqL K H' g.2.2 (ps.map λ p:Uz=>V.ref p.1.1):=λ sb=>SqL.of (by
    rw [sb.get (by simpa using ngo) u2,<- ep,Zq];rfl)
   generalize upd H1 p (.tup [.ref g.1, .ref g.2.2])=H2 at hB2 sb2 eo2 ⊢;have etk:gz.take (i+1)=gz.take i++[g]:=by rw [Ys,hg];rfl
   refine jC (λ p:Uz=>V.ref p.1.1) (zs:=ps) (hsq sb2) (λ j Z H'=> ∃U,BkC K H H' ba gz bz U (λ c x y=>(x∈(gz.take i).map (·.2.1)/\ ∃s,(s,c,y)∈st x)\/(x=g.2.1/\ ∃s,(s,c,y)∈(ps.take j).map (λ p:Uz=>p.1.2))) (18*i+j)/\Sb [oa] H H'/\H' oa=some (.frz od' (bA oa (cg gz)))/\ ∃o1 o2 o3,Z=[some (.ref oa),some (.ref ba),some (.ref g.1),some (.ref g.2.2),o1,o2,o3])
    ⟨_,hB2.imp (λ c x b mb=>by simp) (Zk _),sb2,eo2,_,_,_,rfl⟩ ?_ ?_ ?_
   .rintro j Z H3 ⟨_,_,sb3,_⟩;exact hsq sb3
   .rintro j u Z H3 hj ⟨U,hB3,sb3,eo3,o1,o2,o3,rfl⟩;obtain ⟨p1,p2⟩:=hps u (Ze hj);refine f9 (SqT.of (tkO sb3 p1)) rfl ?_;symm;have hjl:j<ps.length:=(Zo.mp hj).1;have hil:i<gz.length:=(Zo.mp hg).1;have mu:u.1.2∈st g.2.1:=by rw [<- est];exact Zb.mpr ⟨u,Ze hj,rfl⟩
    obtain ⟨b,mb,eb⟩: ∃b∈bz,b.2.1=u.1.2.2.2:=by
     have hm:=hC g mg _ mu;have:=Yt (List.map Prod.snd) hk;rw [Zq,Zq] at this;rw [<- show bz.map (·.2.1)=gz.map (·.2.1) from this] at hm;obtain ⟨b,mb,eb⟩:=Zb.mp hm;exact ⟨b,mb,eb⟩
    refine ⟨ba, .ref b.2.2,rfl,by rw [<- il hbN mb,eb];exact SGet.of hB3.d (λ q mq=>by
     obtain ⟨b',mb',rfl⟩:=Zb.mp mq;exact (stO sb3 (hsb b' mb')).a) (stO sb3 p2).a,?_⟩
    obtain ⟨v1,v2,v3⟩:=hB3.c b mb;have v4:=Yg (CN (f:=λ b:Gz=>(U b.2.2).length) mb) hB3.s;refine dO (SqL.of v1) ?_;symm;intro r hr;have hrH:=frH sb3 eo3 hr;have S4:Same H3 (upd H3 r (.tup [.int (u.1.2.2.1:Nat), .ref g.1])):=aB hr _;have hB4:=hB3.same S4;have hu4:BqT K (upd H3 r (.tup [.int (u.1.2.2.1:Nat), .ref g.1])) (r,u.1.2.2.1,g.1,g.2.1):=⟨aa,(stO sb3 (hG g mg).1).same S4⟩;have hv1:=S4.get v1;have sb4:Sb [oa] H (upd H3 r (.tup [.int (u.1.2.2.1:Nat), .ref g.1])):=dJ sb3 (.inr hrH);have eo4:=S4.get eo3;generalize upd H3 r (.tup [.int (u.1.2.2.1:Nat), .ref g.1])=H4 at hB4 hu4 hv1 sb4 eo4 ⊢;symm;refine fD hv1 (by rw [Qr];rfl') ?_;symm;have nbo:oa≠b.2.2:=λ z=>by
     have:=(hB.f b mb).1;rw [<- z] at this;rcases hO with e | ⟨od,e⟩<;>(rw [this] at e;cases e)
    have etj:ps.take (j+1)=ps.take j++[u]:=by rw [Ys,hj];rfl
    refine ⟨_,(hB4.add hbN mb hu4).imp (λ c x b' mb'=> ?_) (by rfl'),dJ sb4 (.inr (hB.f b mb).1),by rw [au nbo];exact eo4,_,_,_,rfl⟩;rw [etj,Zh,or_assoc];refine or_congr Iff.rfl ?_;simp only [Zi,Zl,Xq,Za];constructor
    .rintro (⟨h1,s,h2⟩ | ⟨h1,h2,h3⟩)
     .exact ⟨h1,s, .inl h2⟩
     .exact ⟨h2,u.1.2.1, .inr (by rw [h1,h3,eb])⟩
    .rintro ⟨h1,s,h2 | h2⟩
     .exact .inl ⟨h1,s,h2⟩
     .have e1:=Yt (λ w:Str×Nat×Sd=>w.2.1) h2;have e2:=Yt (λ w:Str×Nat×Sd=>w.2.2) h2;exact .inr ⟨e1,h1,e2.trans eb.symm⟩
   .rintro Z H3 ⟨U,hB3,sb3,eo3,o1,o2,o3,rfl⟩;symm;refine ⟨U,hB3.imp (λ c x b mb=> ?_) (by rfl'),sb3,eo3,_,_,_,_,_,rfl⟩;show _↔(x∈(gz.take (i+1)).map (·.2.1)/\ ∃s,(s,c,b.2.1)∈st x);rw [Xh,est,etk,Zh,Zi,Zl,Xq,Za,or_and_right];exact or_congr Iff.rfl ⟨λ h=>⟨h.1,by rw [h.1];exact h.2⟩,λ h=>⟨h.1,by rw [<- h.1];exact h.2⟩⟩
  .rintro od' Z H1 ⟨U,hB1,sb1,eo1,o1,o2,o3,o4,o5,rfl⟩;symm;rw [eall] at hB1;exact q od' ba H1 bz U sb1 eo1 hba (hB1.imp (λ _ _ _ _=>Iff.rfl) (by unfold cg;rw [Qr];rfl'))
def ju (es:List Int) (st:Sd):Bool:=decide (st.2.2.length=0)&&(decide (st.1∈es)&&decide (st.2.1∈es))
inductive sp_f24 (K:W.Frag) (vs:List V) (H:Hp) (Q:VK) (E:XK):Prop
 | mk (sa ea:Addr) (st:Sd) (es:List Int) (h0:vs=[.ref sa, .ref ea]) (h1:StT K H sa st) (h2:SqT K H ea (es.map V.int)) (h3:Q (.bl (ju es st)) H):sp_f24 K vs H Q E
def uT (K:W.Frag) (E:XK) (Eh:XK):TS:=
  (bJ (jA (aH qw (cH (cB K) (ao (aH (aR K) (aj 0) (tC (V.int 2))) aC)) (tC (V.int 0))) (jA (aH (yt K false) (aH (aR K) (aj 0) (tC (V.int 0))) (aj 1)) (aH (yt K false) (aH (aR K) (aj 0) (tC (V.int 1))) (aj 1)))))
theorem MN (h:sp_f24 K vs H Q E): ∃Eh,uT K E Eh { nx:=λ _ H'=>Q .non H',rt:=Q } (start ["stand","ends"] vs) H:=by
 obtain ⟨sa,ea,st,es,rfl,⟨c,h1,h2⟩,hE,q⟩:=h;refine ⟨E0,?_⟩;unfold uT;symm;refine iw h1 ?_;symm;refine cW (SqT.of h2) ?_;rw [show (nv st.2.2).length=st.2.2.length from Qr _];symm;by_cases e0:st.2.2.length=0
 .refine nR (by rfl') ?_;symm;refine dX h1 ?_;symm;refine Hh (.inr hE) rfl (gO _) ?_;rw [je];by_cases e1:st.1∈es
  .rw [Yj e1];symm;refine dG h1 ?_;symm;refine Hh (.inr hE) rfl (gO _) ?_;rw [je];have:ju es st=decide (st.2.1∈es):=by unfold ju;rw [Yj e0,Yj e1];rfl
   rw [<- this];exact q
  .rw [Yf e1];symm;have:ju es st=false:=by unfold ju;rw [Yj e0,Yf e1];rfl
   rw [<- this];exact q
 .refine wu (by rfl') ?_;have:ju es st=false:=by unfold ju;rw [Yf e0];rfl
  rw [<- this];exact q
abbrev Qz:=(Nat×Nat)×Addr×List (Addr×Sd)
def gr (k:Nat×Nat):List Key:=[Sum.inl (k.1:Int),Sum.inl (k.2:Int)]
theorem pZ {l:Nat×Nat} (h:gr k=gr l):k=l:=by
 obtain ⟨a,b⟩:=k;obtain ⟨c,d⟩:=l;unfold gr at h;injection h with h1 h2
 injection h2 with h3 _
 injection h1 with h1
 injection h3 with h3
 dsimp only at h1 h3;rw [show a=c by rfl',show b=d by rfl']
def jw (ws:List Qz):List (List Key×V):=ws.map λ w=>(gr w.1,V.ref w.2.1)
structure WtT (K:W.Frag) (H:Hp) (wa:Addr) (ws:List Qz):Prop where
 d:H wa=some (.dT (jw ws))
 l: ∀w∈ws,H w.2.1=some (.lst (w.2.2.map λ z=>V.ref z.1))
 n:(ws.map (·.2.1)).Nodup
 k:(ws.map (·.1)).Nodup
 s: ∀w∈ws,∀z∈w.2.2,StT K H z.1 z.2
def Wait (ws:List Qz) (k:Nat×Nat) (x:Sd):Prop:= ∃w∈ws,w.1=k/\x∈w.2.2.map (·.2)
def sG (ws:List Qz) (k:Nat×Nat) (z:Addr×Sd):List Qz:=ws.map λ w=>if w.1=k then (w.1,w.2.1,w.2.2++[z]) else w
theorem MP (ws:List Qz) (k:Nat×Nat) (z:Addr×Sd):jw (sG ws k z)=jw ws:=by
 unfold jw sG;rw [Zq];refine List.map_congr_left λ w _=> ?_
 show (gr (if w.1=k then (w.1,w.2.1,w.2.2++[z]) else w).1,V.ref (if w.1=k then (w.1,w.2.1,w.2.2++[z]) else w).2.1)=_;split<;>rfl
theorem jx (ws:List Qz) (k:Nat×Nat) (z:Addr×Sd):(sG ws k z).map (·.1)=ws.map (·.1)/\(sG ws k z).map (·.2.1)=ws.map (·.2.1):=by
 unfold sG;rw [Zq,Zq];exact ⟨List.map_congr_left λ w _=>by show (if w.1=k then (w.1,w.2.1,w.2.2++[z]) else w).1=_;split<;>rfl,List.map_congr_left λ w _=>by show (if w.1=k then (w.1,w.2.1,w.2.2++[z]) else w).2.1=_;split<;>rfl⟩
theorem yo {ws:List Qz} {z:Addr×Sd} (h:k∈ws.map (·.1)) (l:Nat×Nat) (x:Sd):Wait (sG ws k z) l x↔Wait ws l x\/(l=k/\x=z.2):=by
 constructor
 .rintro ⟨w,mw,rfl,mx⟩;obtain ⟨v,mv,rfl⟩:=Zb.mp mw;by_cases e:v.1=k
  .rw [if_pos e] at mx ⊢;rw [Zh,Zi] at mx;rcases mx with mx | mx
   .exact .inl ⟨v,mv,rfl,mx⟩
   .exact .inr ⟨e,by simpa using mx⟩
  .rw [if_neg e] at mx ⊢;exact .inl ⟨v,mv,rfl,mx⟩
 .rintro (⟨w,mw,rfl,mx⟩ | ⟨rfl,rfl⟩)
  .refine ⟨_,Zb.mpr ⟨w,mw,rfl⟩,?_,?_⟩
   .split<;>rfl
   .split
    .rw [Zh,Zi];exact .inl mx
    .exact mx
  .obtain ⟨w,mw,rfl⟩:=Zb.mp h;exact ⟨_,Zb.mpr ⟨w,mw,rfl⟩,by rw [if_pos rfl],by rw [if_pos rfl,Zh];simp⟩
theorem jX {k:Nat×Nat}: ∀ {ws:List Qz} {w:Qz},(ws.map (·.1)).Nodup->w∈ws->w.1=k->bF (jw ws) (gr k)=some (V.ref w.2.1)
 | v::ws,w,hn,m,e=>by
  rw [Zl,Wr] at hn;show bF ((gr v.1,V.ref v.2.1)::jw ws) (gr k)=_;by_cases h:v.1=k
  .rcases Zm.mp m with rfl | m
   .rw [h];simp [bF]
   .exact absurd (Zb.mpr ⟨w,m,e.trans h.symm⟩) hn.1
  .rcases Zm.mp m with rfl | m
   .exact absurd e h
   .have:=jX hn.2 m e;rw [<- this];have ne:gr v.1≠gr k:=λ z=>h (pZ z)
    simp [bF,ne]
theorem sI {k:Nat×Nat}: ∀ {ws:List Qz},k∉ws.map (·.1)->bF (jw ws) (gr k)=none
 | [],_=>rfl
 | v::ws,h=>by
  rw [Zl,Zm,not_or] at h;show bF ((gr v.1,V.ref v.2.1)::jw ws) (gr k)=_;have:=sI h.2;rw [<- this];have ne:gr v.1≠gr k:=λ z=>h.1 (pZ z).symm
  simp [bF,ne]
inductive sp_f19 (K:W.Frag) (vs:List V) (H:Hp) (Q:VK) (E:XK):Prop
 | mk (wa ra ba:Addr) (ws:List Qz) (r:Nat×Nat) (bs:List Bq) (h0:vs=[.ref wa, .ref ra, .ref ba]) (h1:WtT K H wa ws) (h2:H ra=some (.tup [.int (r.1:Nat), .int (r.2:Nat)])) (h3:H ba=some (.lst (bs.map λ b=>V.ref b.1))) (h4:ba∉ws.map (·.2.1)) (h5:(∀b∈bs,BqT K H b)) (h6:ws.length+bs.length<=1000000) (h7:(∀w∈ws,w.2.2.length+bs.length<=1000000)) (h8: ∀H' (ws':List Qz),WtT K H' wa ws'->Sb (wa::ws.map (·.2.1)) H H'->(∀w∈ws',w.2.1∈ws.map (·.2.1)\/H w.2.1=none)->(∀l x,Wait ws' l x↔Wait ws l x\/ ∃b∈bs,l=(r.1+b.2.1,r.2+1)/\x=b.2.2.2)->ws'.length<=ws.length+bs.length->(∀m,(∀w∈ws,w.2.2.length<=m)-> ∀w∈ws',w.2.2.length<=m+bs.length)->Q .non H'):sp_f19 K vs H Q E
def uU (K:W.Frag) (E:XK) (Eh:XK):TS:=
  (eY (cQ K (aj 2)) (ji K 2 (bY (az 3) (bY (az 4) jH))) (dF (qz K "list" cu (Bg (aj 0) (cO (ao (aH cC (aH (aR K) (aj 1) (tC (V.int 0))) (aj 3)) (ao (aH cC (aH (aR K) (aj 1) (tC (V.int 1))) (tC (V.int 1))) aC))) (cR aC)) (ao (aj 4) aC))))
theorem MT (h:sp_f19 K vs H Q E): ∃Eh,uU K E Eh { nx:=λ _ H'=>Q .non H',rt:=Q } (start ["waiting","rest","backs","cost","earlier"] vs) H:=by
 obtain ⟨wa,ra,ba,ws,r,bs,rfl,hw,hr,hb,nb,hB,hl1,hl2,q⟩:=h;refine ⟨E0,?_⟩;unfold uU;symm;have tk: ∀ {H':Hp},Sb (wa::ws.map (·.2.1)) H H'-> ∀ {a:Addr} {l:List V},H a=some (.tup l)->H' a=some (.tup l):=λ sb a l e=>sb.get (λ m=>by
  rcases Zm.mp m with rfl | m
  .rw [hw.d] at e;cases e
  .obtain ⟨w,mw,rfl⟩:=Zb.mp m;rw [hw.l w mw] at e;cases e) e
 have nbw:ba≠wa:=λ z=>by rw [z,hw.d] at hb;cases hb
 have keepB: ∀ {H':Hp},Sb (wa::ws.map (·.2.1)) H H'->H' ba=some (.lst (bs.map λ b=>V.ref b.1)):=λ sb=>sb.get (λ m=>(Zm.mp m).elim nbw nb) hb
 refine jC (λ b:Bq=>V.ref b.1) (zs:=bs) (SqL.of hb) (λ i Z H'=> ∃ws':List Qz,WtT K H' wa ws'/\Sb (wa::ws.map (·.2.1)) H H'/\(∀w∈ws',w.2.1∈ws.map (·.2.1)\/H w.2.1=none)/\(∀l x,Wait ws' l x↔Wait ws l x\/ ∃b∈bs.take i,l=(r.1+b.2.1,r.2+1)/\x=b.2.2.2)/\ws'.length<=ws.length+i/\(∀m,(∀w∈ws,w.2.2.length<=m)-> ∀w∈ws',w.2.2.length<=m+i)/\(∀w∈ws,w.2.1∈ws'.map (·.2.1))/\ ∃o1 o2,Z=[some (.ref wa),some (.ref ra),some (.ref ba),o1,o2])
  ⟨ws,hw,Sb.of (Same.refl _),λ w m=> .inl (Zb.mpr ⟨w,m,rfl⟩),λ l x=>by simp,Zk _,λ m h w mw=>h w mw,λ w m=>Zb.mpr ⟨w,m,rfl⟩,none,none,rfl⟩ ?_ ?_ ?_
 .rintro i Z H' ⟨ws',_,sb,_⟩;exact SqL.of (keepB sb)
 .rintro i b Z H' hi ⟨ws',hw',sb,hf,hW,hn,hm,hol,o1,o2,rfl⟩;obtain ⟨b1,b2⟩:=hB b (Ze hi);have hil:i<bs.length:=(Zo.mp hi).1;refine f9 (SqT.of (tk sb b1)) rfl ?_;symm;refine ⟨wa,rfl, .inr ⟨_, .inl hw'.d⟩,?_⟩;symm;refine dX (tk sb hr) ?_;symm;refine dG (tk sb hr) ?_;symm;intro p hp;symm;intro d hd;symm;have ek:((r.1:Int)+(b.2.1:Int))=((r.1+b.2.1:Nat):Int)/\((r.2:Int)+1)=((r.2+1:Nat):Int):=⟨by rfl',by rfl'⟩;rw [ek.1,ek.2] at hd ⊢;have Sp:Same H' (upd H' p (.tup [.int ((r.1+b.2.1:Nat):Int), .int ((r.2+1:Nat):Int)])):=aB hp _;have S:=Sp.new (o:= .lst []) hd;have hpd:p≠d:=λ z=>by rw [<- z,aa] at hd;cases hd
  have hd':H' d=none:=Sp.free hd;have hdH:H d=none:=by
   cases e:H d with
   | none=>rfl
   | some o=>
    exfalso;by_cases m:d∈wa::ws.map (·.2.1)
    .rcases Zm.mp m with z | m
     .rw [z,hw'.d] at hd';cases hd'
     .obtain ⟨w,mw,rfl⟩:=Zb.mp m;obtain ⟨v,mv,ev⟩:=Zb.mp (hol w mw);have:=hw'.l v mv;rw [show v.2.1=w.2.1 from ev,hd'] at this
      cases this
    .rw [sb.get m e] at hd';cases hd'
  have hE:StT K H' b.2.2.1 b.2.2.2:=by
   obtain ⟨c,e1,e2⟩:=b2;exact ⟨c,tk sb e1,tk sb e2⟩
  have etk:bs.take (i+1)=bs.take i++[b]:=by rw [Ys,hi];rfl
  refine ⟨jw ws',gr (r.1+b.2.1,r.2+1),p,S.get hw'.d,rfl,by rw [au hpd,aa];rfl,Yb (show (jw ws').length<=1000000 by unfold jw;rw [Qr];rfl') (by decide),λ v hv=> ?_,λ hv=> ?_⟩
  .obtain ⟨w,mw,ew⟩: ∃w∈ws',w.1=(r.1+b.2.1,r.2+1):=by
    by_cases m:(r.1+b.2.1,r.2+1)∈ws'.map (·.1)
    .exact Zb.mp m
    .rw [sI m] at hv;cases hv
   rw [jX hw'.k mw ew] at hv
   cases hv;have el:=S.get (hw'.l w mw);have hlen:w.2.2.length<=1000000:=by
    have:=hm (1000000-bs.length) (λ v mv=>by have:=hl2 v mv;rfl') w mw;rfl'
   refine dO (SqL.of el) ?_;symm;refine fD el (by rw [Qr];exact hlen) ?_;symm;have nwa:wa≠w.2.1:=λ z=>by rw [<- z,S.get hw'.d] at el;cases el
   refine ⟨sG ws' (r.1+b.2.1,r.2+1) (b.2.2.1,b.2.2.2),⟨?_,?_,by rw [(jx ..).2];exact hw'.n,by rw [(jx ..).1];exact hw'.k,?_⟩,dJ (sb.same S) ((hf w mw).imp_left (Zv _)),?_,?_,by unfold sG;rw [Qr];rfl',?_,λ v mv=>by rw [(jx ..).2];exact hol v mv,_,_,rfl⟩
   .rw [au nwa,MP];exact S.get hw'.d
   .intro v mv;obtain ⟨v0,mv0,rfl⟩:=Zb.mp mv;by_cases e:v0.1=(r.1+b.2.1,r.2+1)
    .rw [if_pos e];have:v0=w:=eO hw'.k mv0 mw (e.trans ew.symm);subst this;show upd _ v0.2.1 _ v0.2.1=_;rw [aa,Zh];rfl
    .rw [if_neg e,au (λ z=>e (by rw [eO hw'.n mv0 mw z];exact ew))];exact S.get (hw'.l v0 mv0)
   .intro v mv z mz;obtain ⟨v0,mv0,rfl⟩:=Zb.mp mv;have old: ∀z∈v0.2.2,StT K (upd (upd (upd H' p (.tup [.int ((r.1+b.2.1:Nat):Int), .int ((r.2+1:Nat):Int)])) d (.lst [])) w.2.1 (.lst ((w.2.2.map λ z=>V.ref z.1)++[V.ref b.2.2.1]))) z.1 z.2:=λ z mz=>((hw'.s v0 mv0 z mz).same S).keep el (λ l q=>by cases q)
    by_cases e:v0.1=(r.1+b.2.1,r.2+1)
    .rw [if_pos e] at mz;rcases Zi.mp mz with mz | mz
     .exact old z mz
     .rw [Za.mp mz];exact (hE.same S).keep el (λ l q=>by cases q)
    .rw [if_neg e] at mz;exact old z mz
   .intro v mv;obtain ⟨v0,mv0,rfl⟩:=Zb.mp mv;have e:(if v0.1=(r.1+b.2.1,r.2+1) then (v0.1,v0.2.1,v0.2.2++[(b.2.2.1,b.2.2.2)]) else v0).2.1=v0.2.1:=by split<;>rfl
    rw [e];exact hf v0 mv0
   .intro l x;rw [yo (Zb.mpr ⟨w,mw,ew⟩),hW,etk];simp only [Zi,Za];constructor
    .rintro ((h | ⟨c,mc,h⟩) | h)
     .exact .inl h
     .exact .inr ⟨c, .inl mc,h⟩
     .exact .inr ⟨b, .inr rfl,h⟩
    .rintro (h | ⟨c,mc | rfl,h⟩)
     .exact .inl (.inl h)
     .exact .inl (.inr ⟨c,mc,h⟩)
     .exact .inr h
   .intro m hm0 v mv;obtain ⟨v0,mv0,rfl⟩:=Zb.mp mv;have:=hm m hm0 v0 mv0;split
    .show (v0.2.2++[_]).length<=_;rw [Zg,Yn];rfl'
    .rfl'
  .have nk:(r.1+b.2.1,r.2+1)∉ws'.map (·.1):=λ m=>by
    obtain ⟨w,mw,ew⟩:=Zb.mp m;rw [jX hw'.k mw ew] at hv
    cases hv
   have hwd:wa≠d:=λ z=>by rw [<- z,hw'.d] at hd';cases hd'
   have ed0:upd (upd (upd H' p (.tup [.int ((r.1+b.2.1:Nat):Int), .int ((r.2+1:Nat):Int)])) d (.lst [])) wa (.dT (jw ws'++[(gr (r.1+b.2.1,r.2+1),V.ref d)])) d=some (.lst []):=by rw [au (Ne.symm hwd),aa]
   refine dO (SqL.of ed0) ?_;symm;refine fD ed0 (Yz _) ?_;symm;have nd:d∉ws'.map (·.2.1):=λ m=>by
    obtain ⟨v,mv,ev⟩:=Zb.mp m;have:=hw'.l v mv;rw [show v.2.1=d from ev,hd'] at this
    cases this
   have st: ∀ {a:Addr} {x:Sd},StT K H' a x->StT K (upd (upd (upd (upd H' p (.tup [.int ((r.1+b.2.1:Nat):Int), .int ((r.2+1:Nat):Int)])) d (.lst [])) wa (.dT (jw ws'++[(gr (r.1+b.2.1,r.2+1),V.ref d)]))) d (.lst ([]++[V.ref b.2.2.1]))) a x:=λ h=>((h.same S).keep (S.get hw'.d) (λ l q=>by cases q)).keep ed0 (λ l q=>by cases q)
   refine ⟨ws'++[((r.1+b.2.1,r.2+1),d,[(b.2.2.1,b.2.2.2)])],⟨?_,?_,?_,?_,?_⟩,dJ (dJ (sb.same S) (.inl Zs)) (.inr hdH),?_,?_,by rw [Zg,Yn];rfl',?_,λ v mv=>by rw [Zh];exact Zz _ (hol v mv),_,_,rfl⟩
   .rw [au hwd,aa];unfold jw;rw [Zh];rfl
   .intro v mv;rcases Zi.mp mv with mv | mv
    .have e1:=hw'.l v mv;have n1:v.2.1≠d:=λ z=>nd (Zb.mpr ⟨v,mv,z⟩)
     have n2:v.2.1≠wa:=λ z=>by rw [z,hw'.d] at e1;cases e1
     rw [au n1,au n2];exact S.get e1
    .rw [Za.mp mv];exact aa
   .rw [Zh,Xc];exact ⟨hw'.n,by simp,λ x mx y my e=>nd (by rw [Zl,Xq,Za] at my;have:x=d:=e.trans my;rw [<- this];exact mx)⟩
   .rw [Zh,Xc];exact ⟨hw'.k,by simp,λ x mx y my e=>nk (by rw [Zl,Xq,Za] at my;have:x=(r.1+b.2.1,r.2+1):=e.trans my;rw [<- this];exact mx)⟩
   .intro v mv z mz;rcases Zi.mp mv with mv | mv
    .exact st (hw'.s v mv z mz)
    .rw [Za.mp mv] at mz;rw [Za.mp mz];exact st hE
   .intro v mv;rcases Zi.mp mv with mv | mv
    .exact hf v mv
    .rw [Za.mp mv];exact .inr hdH
   .intro l x;have new:Wait (ws'++[((r.1+b.2.1,r.2+1),d,[(b.2.2.1,b.2.2.2)])]) l x↔Wait ws' l x\/(l=(r.1+b.2.1,r.2+1)/\x=b.2.2.2):=by
     constructor
     .rintro ⟨w,mw,rfl,mx⟩;rcases Zi.mp mw with mw | mw
      .exact .inl ⟨w,mw,rfl,mx⟩
      .rw [Za.mp mw] at mx ⊢;exact .inr ⟨rfl,by simpa using mx⟩
     .rintro (⟨w,mw,rfl,mx⟩ | ⟨rfl,rfl⟩)
      .exact ⟨w,Zz _ mw,rfl,mx⟩
      .exact ⟨_,Zw _ (Za.mpr rfl),rfl,by simp⟩
    rw [new,hW,etk];simp only [Zi,Za];constructor
    .rintro ((h | ⟨c,mc,h⟩) | h)
     .exact .inl h
     .exact .inr ⟨c, .inl mc,h⟩
     .exact .inr ⟨b, .inr rfl,h⟩
    .rintro (h | ⟨c,mc | rfl,h⟩)
     .exact .inl (.inl h)
     .exact .inl (.inr ⟨c,mc,h⟩)
     .exact .inr h
   .intro m hm0 v mv;rcases Zi.mp mv with mv | mv
    .have:=hm m hm0 v mv;rfl'
    .rw [Za.mp mv];show 1<=_;rfl'
 .rintro Z H' ⟨ws',hw',sb,hf,hW,hn,hm,hol,o1,o2,rfl⟩;rw [Xh] at hW;symm;exact q H' ws' hw' sb hf hW hn hm
abbrev Hw (es:List Int) (xs:List Sd) (x:Sd):Prop:=x∈xs/\ju es x=true
def leP (k l:Nat×Nat):Prop:=k.1<l.1\/(k.1=l.1/\k.2<=l.2)
theorem leP.refl (k:Nat×Nat):leP k k:= .inr ⟨rfl,Zk _⟩
theorem leP.trans {l m:Nat×Nat} (h:leP k l) (g:leP l m):leP k m:=by unfold leP at*;rfl'
theorem leP.up (k:Nat×Nat) (c:Nat):leP k (k.1+c,k.2+1):=by unfold leP;dsimp only;rfl'
theorem leP.zero (h:leP k (0,0)):k=(0,0):=by
 obtain ⟨a,b⟩:=k;unfold leP at h;dsimp only at h;rw [show a=0 by rfl',show b=0 by rfl']
structure Dj (ev:Sd->Prop) (B:Nat->Sd->Sd->Prop) (F:Sd->Nat×Nat->Prop) (W:Nat×Nat->Sd->Prop):Prop where
 e: ∀x,ev x->F x (0,0)\/W (0,0) x
 b: ∀c x y v,B c x y->F y v->(∃u,F x u/\leP u (v.1+c,v.2+1))\/W (v.1+c,v.2+1) x
 s: ∀x k,F x k\/W k x->(ev x/\k=(0,0))\/ ∃c y v,B c x y/\F y v/\k=(v.1+c,v.2+1)
 m: ∀x k,F x k-> ∀l y,W l y->leP k l
theorem Dj.skip {B:Nat->Sd->Sd->Prop} {F:Sd->Nat×Nat->Prop} {W:Nat×Nat->Sd->Prop} (h:Dj ev B F W) {r:Nat×Nat} (hf:F x k) (hw: ∀l y,W l y↔W' l y\/(l=r/\y=x)):Dj ev B F W':=by
 have hk:leP k r:=h.m x k hf r x ((hw _ _).mpr (.inr ⟨rfl,rfl⟩));refine ⟨λ y hy=> ?_,λ c z y v hB hF=> ?_,λ z l hz=>h.s z l (hz.imp id λ w=>(hw _ _).mpr (.inl w)),λ z l hz i y w=>h.m z l hz i y ((hw _ _).mpr (.inl w))⟩
 .rcases h.e y hy with g | g
  .exact .inl g
  .rcases (hw _ _).mp g with g | ⟨g1,g2⟩
   .exact .inr g
   .rw [<- g1] at hk;rw [hk.zero] at hf;exact .inl (by rw [g2];exact hf)
 .rcases h.b c z y v hB hF with g | g
  .exact .inl g
  .rcases (hw _ _).mp g with g | ⟨g1,g2⟩
   .exact .inr g
   .exact .inl ⟨k,by rw [g2];exact hf,by rw [g1];exact hk⟩
theorem Dj.take {B:Nat->Sd->Sd->Prop} {F:Sd->Nat×Nat->Prop} {W W2:Nat×Nat->Sd->Prop} (h:Dj ev B F W) {r:Nat×Nat} (hw: ∀l y,W l y↔W' l y\/(l=r/\y=x)) (hr: ∀l y,W' l y->leP r l) (hF: ∀y k,F' y k↔F y k\/(y=x/\k=r)) (h2: ∀l y,W2 l y↔W' l y\/ ∃c,B c y x/\l=(r.1+c,r.2+1)):Dj ev B F' W2:=by
 have hx:W r x:=(hw _ _).mpr (.inr ⟨rfl,rfl⟩);refine ⟨λ y hy=> ?_,λ c z y v hB hy=> ?_,λ z l hz=> ?_,λ z l hz i y w=> ?_⟩
 .rcases h.e y hy with g | g
  .exact .inl ((hF _ _).mpr (.inl g))
  .rcases (hw _ _).mp g with g | ⟨g1,g2⟩
   .exact .inr ((h2 _ _).mpr (.inl g))
   .exact .inl ((hF _ _).mpr (.inr ⟨g2,g1⟩))
 .rcases (hF _ _).mp hy with hy | ⟨rfl,rfl⟩
  .rcases h.b c z y v hB hy with ⟨u,g1,g2⟩ | g
   .exact .inl ⟨u,(hF _ _).mpr (.inl g1),g2⟩
   .rcases (hw _ _).mp g with g | ⟨g1,g2⟩
    .exact .inr ((h2 _ _).mpr (.inl g))
    .exact .inl ⟨r,(hF _ _).mpr (.inr ⟨g2,rfl⟩),by rw [g1];exact leP.refl _⟩
  .exact .inr ((h2 _ _).mpr (.inr ⟨c,hB,rfl⟩))
 .have old:F z l\/W l z->(ev z/\l=(0,0))\/ ∃c y v,B c z y/\F' y v/\l=(v.1+c,v.2+1):=λ g=>(h.s z l g).imp id λ ⟨c,y,v,g1,g2,g3⟩=>⟨c,y,v,g1,(hF _ _).mpr (.inl g2),g3⟩
  rcases hz with hz | hz
  .rcases (hF _ _).mp hz with hz | ⟨rfl,rfl⟩
   .exact old (.inl hz)
   .exact old (.inr hx)
  .rcases (h2 _ _).mp hz with hz | ⟨c,g1,g2⟩
   .exact old (.inr ((hw _ _).mpr (.inl hz)))
   .exact .inr ⟨c,x,r,g1,(hF _ _).mpr (.inr ⟨rfl,rfl⟩),g2⟩
 .have hlr:leP l r:=by
   rcases (hF _ _).mp hz with hz | ⟨_,rfl⟩
   .exact h.m z l hz r x hx
   .exact leP.refl _
  rcases (h2 _ _).mp w with w | ⟨c,_,rfl⟩
  .exact hlr.trans (hr _ _ w)
  .exact hlr.trans (leP.up _ _)
theorem wK {α:Type} {f g:α->Nat} {d:Nat} (h: ∀x,g x<=f x): ∀ {l:List α} {x:α},x∈l->g x+d<=f x->(l.map g).sum+d<=(l.map f).sum
 | z::l,x,m,e=>by
  have mono: ∀l:List α,(l.map g).sum<=(l.map f).sum:=λ l=>by
   induction l with
   | nil=>exact Zk _
   | cons y l ih=>rw [Zl,Zl,List.sum_cons,List.sum_cons];have:=h y;rfl'
  rw [Zl,Zl,List.sum_cons,List.sum_cons];rcases Zm.mp m with rfl | m
  .have:=mono l;rfl'
  .have:=wK h m e;have:=h z;rfl'
abbrev Fq:=Addr×Sd×Addr×(Nat×Nat)
variable {fz:List Fq}
def jy (fz:List Fq):List Gz:=fz.map λ f=>(f.1,f.2.1,f.2.2.1)
structure FdT (K:W.Frag) (H:Hp) (fa:Addr) (fz:List Fq):Prop where
 d:H fa=some (bA fa (cg (jy fz)))
 s: ∀f∈fz,StT K H f.1 f.2.1/\H f.2.2.1=some (.tup [.int (f.2.2.2.1:Nat), .int (f.2.2.2.2:Nat)])
 n:(fz.map (·.2.1)).Nodup
def gA (fz:List Fq) (x:Sd) (k:Nat×Nat):Prop:= ∃f∈fz,f.2.1=x/\f.2.2.2=k
def jM (bz:List Gz) (U:Addr->List Bq) (fz:List Fq):Nat:=(bz.map λ b=>if b.2.1∈fz.map (·.2.1) then 0 else (U b.2.2).length).sum
theorem jz {K:W.Frag} (h: ∀f∈fz,StT K H f.1 f.2.1): ∀p∈cg (jy fz),pA H p.1 p.2.1:=λ p mp=>by
 obtain ⟨z,mz,rfl⟩:=Zb.mp mp;obtain ⟨f,mf,rfl⟩:=Zb.mp mz;exact (h f mf).a
theorem gk (fz:List Fq):(jy fz).map (·.2.1)=fz.map (·.2.1):=by unfold jy;rw [Zq];rfl
theorem N5 {l:Nat×Nat} (h:HT.lexLt [(l.1:Int),(l.2:Int)] [(k.1:Int),(k.2:Int)]=false):leP k l:=by
 unfold leP;unfold HT.lexLt at h;split at h
 .unfold HT.lexLt at h;split at h
  .rfl'
  .have:=of_decide_eq_false h;rfl'
 .have:=of_decide_eq_false h;rfl'
def R8 (es:List Int) (gz:List Gz) (z:Addr×Sk×V):Option V:=by
 classical
 exact if ∃g∈gz,z=(g.1,fJ g.2.1,V.ref g.2.2)/\ju es g.2.1=true then some (.ref z.1) else none
theorem CQ {g:Gz} (m:g∈gz):R8 es gz (g.1,fJ g.2.1,V.ref g.2.2)=if ju es g.2.1=true then some (.ref g.1) else none:=by
 unfold R8;by_cases e:ju es g.2.1=true
 .rw [if_pos e,if_pos ⟨g,m,rfl,e⟩]
 .rw [if_neg e,if_neg];rintro ⟨y,my,ey,e'⟩;have:=pR (Yt (λ p:Addr×Sk×V=>p.2.1) ey);rw [this] at e;exact e e'
theorem wL {es:List Int} {gz:List Gz}: ∀ {l:List Gz},(∀g∈l,g∈gz)->(cg l).filterMap (R8 es gz)=((l.filter λ g=>ju es g.2.1).map λ g=>(g.1,g.2.1)).map λ z:Addr×Sd=>V.ref z.1
 | [],_=>rfl
 | g::l,h=>by
  have ih:=wL (es:=es) (l:=l) λ x m=>h x (Zv _ m)
  show List.filterMap _ ((g.1,fJ g.2.1,V.ref g.2.2)::cg l)=_;rw [List.filterMap_cons,CQ (h g (Zs ..)),List.filter_cons,ih];by_cases e:ju es g.2.1=true
  .rw [if_pos e,if_pos e];rfl
  .rw [if_neg e,if_neg e]
theorem CT (ws:List Qz) (k:Nat×Nat):cN (jw ws) (gr k)=jw (ws.filter λ v=>decide (v.1≠k)):=by
 unfold cN jw;rw [List.filter_map];congr 1;refine List.filter_congr λ v _=> ?_
 show decide (gr v.1≠gr k)=decide (v.1≠k);by_cases e:v.1=k
 .rw [e];simp
 .rw [Yj (show v.1≠k from e),Yj (show gr v.1≠gr k from λ z=>e (pZ z))]
theorem WtT.pop {K:W.Frag} {wa:Addr} {ws:List Qz} (h:WtT K H wa ws) {w:Qz} (mw:w∈ws): ∃ws1:List Qz,WtT K (upd H wa (.dT (cN (jw ws) (gr w.1)))) wa ws1/\w.2.1∉ws1.map (·.2.1)/\ws1.length+1<=ws.length/\(∀v∈ws1,v∈ws)/\ ∀l x,Wait ws l x↔Wait ws1 l x\/(l=w.1/\x∈w.2.2.map (·.2)):=by
 have nt: ∀ {xs:List (List Key×V)} l,HO.dT xs≠ .tup l:=λ l z=>by cases z
 have sub: ∀v∈ws.filter (λ v=>decide (v.1≠w.1)),v∈ws/\v.1≠w.1:=λ v mv=>⟨(List.mem_filter.mp mv).1,Xx (List.mem_filter.mp mv).2⟩
 refine ⟨ws.filter λ v=>decide (v.1≠w.1),⟨by rw [aa,CT],λ v mv=> ?_,?_,?_,λ v mv z mz=>(h.s v (sub v mv).1 z mz).keep h.d nt⟩,λ m=> ?_,?_,λ v mv=>(sub v mv).1,λ l x=>⟨?_,?_⟩⟩
 .have e:=h.l v (sub v mv).1;rw [au (λ z=>by rw [z,h.d] at e;cases e)];exact e
 .exact List.Nodup.sublist (List.Sublist.map _ List.filter_sublist) h.n
 .exact List.Nodup.sublist (List.Sublist.map _ List.filter_sublist) h.k
 .obtain ⟨v,mv,e⟩:=Zb.mp m;have:=eO h.n (sub v mv).1 mw e;exact (sub v mv).2 (by rw [this])
 .exact List.length_filter_lt_length_iff_exists.mpr ⟨w,mw,by simp⟩
 .rintro ⟨v,mv,rfl,mx⟩;by_cases e:v.1=w.1
  .rw [eO h.k mv mw e] at mx ⊢;exact .inr ⟨rfl,mx⟩
  .exact .inl ⟨v,List.mem_filter.mpr ⟨mv,Yj e⟩,rfl,mx⟩
 .rintro (⟨v,mv,rfl,mx⟩ | ⟨rfl,mx⟩)
  .exact ⟨v,(sub v mv).1,rfl,mx⟩
  .exact ⟨w,mw,rfl,mx⟩
inductive sp_f30 (K:W.Frag) (vs:List V) (H:Hp) (Q:VK) (E:XK):Prop
 | mk (oa ea:Addr) (gz:List Gz) (st:Sd->List (Str×Nat×Sd)) (es:List Int) (h0:vs=[.ref oa, .ref ea]) (h1:Rd H oa (bA oa (cg gz))) (h2:(∀z∈gz,StT K H z.1 z.2.1/\SsT K H z.2.2 (st z.2.1)/\(st z.2.1).length<=18)) (h3:(gz.map (·.2.1)).Nodup) (h4:gz.length<=50000) (h5:(∀z∈gz,∀e∈st z.2.1,e.2.2∈gz.map (·.2.1))) (h6:SqT K H ea (es.map V.int)) (h7: ∀od fa H' (fz:List Fq),Sb [oa] H H'->H' oa=some (.frz od (bA oa (cg gz)))->H fa=none->FdT K H' fa fz->Dj (Hw es (gz.map (·.2.1))) (CK st (gz.map (·.2.1))) (gA fz) (λ _ _=>False)->Q (.ref fa) H'):sp_f30 K vs H Q E
abbrev CV (K:W.Frag):TS:=
  (aG (aJ (cH Bj (ao (aj 4) aC)) (az 5))
  (aG (aJ (Be (aj 4) (aj 5)) (az 6))
  (eY (cQ K (aj 6)) (az 7) (cI (tB (jT (aj 7) (aj 3))) (aG (rH (aj 3) (aj 7) (aj 5))
  (dF (aU (sp_f19 K) [] E0 (ao (aj 4) (ao (aj 5) (ao (jb (aj 2) (aj 7)) aC)))))) bT))))
abbrev CW (K:W.Frag):TS:=
  (aG (aJ (u6 (cO (ao (tC (V.int 0)) (ao (tC (V.int 0)) aC))) (oV [none,some 1] (pG (aj 0)) (az 0) (qK K (aU (sp_f24 K) [] E0 (ao (aj 0) (ao (aj 1) aC)))) (aj 0))) (az 4))
  (aG (eF (aY (aH jK (cH Ba (ao (aj 4) aC)) (tC (V.int 0)))) (CV K))
  (bJ (aj 3))))
def uV (K:W.Frag) (E:XK) (Eh:XK):TS:=
  (aG (aJ (aU (sp_f11 K) [] E0 (ao (aj 0) aC)) (az 2))
  (aG (aJ rG (az 3))
  (CW K)))
theorem N6 (h:sp_f30 K vs H Q E): ∃Eh,uV K E Eh { nx:=λ _ H'=>Q .non H',rt:=Q } (start ["onward","ends","backward","found","waiting","rest","reached","stand"] vs) H:=by
 obtain ⟨oa,ea,gz,st,es,rfl,hO,hG,hN,hL,hC,hE,q⟩:=h;refine ⟨E0,?_⟩;unfold uV;symm;refine ⟨oa,gz,st,rfl,hO,hG,hN,hL,hC,λ od0 ba H0 bz U sb0 eo0 hba hB=> ?_⟩;symm;intro fa hfa;symm;intro wa hwa;symm;intro ta hta;have S1:Same H0 (upd H0 fa (bA fa [])):=aB hfa _;have S2:=S1.new (o:= .dT []) hwa;have S3:=S2.new (o:= .tup [.int 0, .int 0]) hta;have efa3:upd (upd (upd H0 fa (bA fa [])) wa (.dT [])) ta (.tup [.int 0, .int 0]) fa=some (bA fa []):=((aB hwa _).trans (aB hta _)).get aa;have ewa3:upd (upd (upd H0 fa (bA fa [])) wa (.dT [])) ta (.tup [.int 0, .int 0]) wa=some (.dT []):=(aB hta _).get aa;have eta3:upd (upd (upd H0 fa (bA fa [])) wa (.dT [])) ta (.tup [.int 0, .int 0]) ta=some (.tup [.int 0, .int 0]):=aa;have hwa0:H0 wa=none:=S1.free hwa;have nfo:fa≠oa:=λ z=>by rw [z,eo0] at hfa;cases hfa
 have nwo:wa≠oa:=λ z=>by rw [z,eo0] at hwa0;cases hwa0
 have nto:ta≠oa:=λ z=>by rw [z,S2.get eo0] at hta;cases hta
 generalize upd (upd (upd H0 fa (bA fa [])) wa (.dT [])) ta (.tup [.int 0, .int 0])=H3 at S3 efa3 ewa3 eta3 ⊢;have frH: ∀ {H':Hp} {o:HO},Sb [oa] H0 H'->H' oa=some o-> ∀ {p:Addr},H' p=none->H0 p=none:=λ {H' o} sb eo {p} hp=>by
  cases e:H0 p with
  | none=>rfl
  | some u=>
   by_cases z:p=oa
   .rw [z,eo] at hp;cases hp
   .rw [sb.get (by simpa using z) e] at hp;cases hp
 have tk: ∀ {H':Hp},Sb [oa] H0 H'-> ∀ {a:Addr} {u:HO},(∀od x,u≠ .frz od x)->H0 a=some u->H' a=some u:=λ sb a u hu ea=>sb.get (λ m=>by
  rw [Za.mp m,eo0] at ea;exact hu _ _ (Ym ea).symm) ea
 have tkO: ∀ {H':Hp},Sb [oa] H H'-> ∀ {a:Addr} {l:List V},H a=some (.tup l)->H' a=some (.tup l):=λ sb a l e=>sb.get (λ m=>by
  rw [Za.mp m] at e;rcases hO with g | ⟨od,g⟩<;>(rw [g] at e;cases e)) e
 have stO: ∀ {H':Hp},Sb [oa] H0 H'-> ∀ {z:Gz},z∈gz->StT K H' z.1 z.2.1:=λ sb z mz=>by
  obtain ⟨c,e1,e2⟩:=(hG z mz).1;exact ⟨c,tk sb (λ _ _ z=>by cases z) (tkO sb0 e1),tk sb (λ _ _ z=>by cases z) (tkO sb0 e2)⟩
 have hE': ∀ {H':Hp},Sb [oa] H H'->SqT K H' ea (es.map V.int):=λ sb=>by
  rcases hE with (e | ⟨od,e⟩) | hK
  .exact .inl (.inl (tkO sb e))
  .refine .inl (.inr ⟨od,sb.get (λ m=> ?_) e⟩);rw [Za.mp m] at e;rcases hO with g | ⟨od',g⟩<;>(rw [g] at e;cases e)
  .exact .inr hK
 symm;refine R0 (.inr ⟨od0,S3.get eo0⟩) (by unfold cg;rw [Qr];rfl') (R8 es gz) λ od4 H4 sb4 eo4=>⟨λ i z hi A B hA hBB=> ?_,λ la hla=> ?_⟩
 .obtain ⟨g,hg,rfl⟩:=uQ hi;have mg:=Ze hg;rw [CQ mg] at hA hBB;symm;refine ⟨g.1,ea,g.2.1,es,rfl,stO (λ b o nb e=>sb4 b o nb (S3.get e)) mg,hE' (λ b o nb e=>sb4 b o nb (S3.get (sb0 b o nb e))),?_⟩;symm;by_cases ev:ju es g.2.1=true
  .rw [ev];symm;exact hA _ (if_pos ev)
  .rw [Bool.eq_false_iff.mpr ev];symm;exact hBB (if_neg ev)
 have sb5:Sb [oa] H0 H4:=λ b o nb e=>sb4 b o nb (S3.get e)
 have S5:Same H4 (upd H4 la (.lst ((cg gz).filterMap (R8 es gz)))):=aB hla _;have hla0:=frH sb5 eo4 hla;rw [wL λ g m=>m] at S5 ⊢;have efa4:=sb4.get (by simpa using nfo) efa3;have ewa4:=sb4.get (by simpa using nwo) ewa3;have eta4:=sb4.get (by simpa using nto) eta3;have nlw:la≠wa:=λ z=>by rw [z,ewa4] at hla;cases hla
 have nlf:la≠fa:=λ z=>by rw [z,efa4] at hla;cases hla
 have nwf:fa≠wa:=λ z=>by rw [z,ewa4] at efa4;cases efa4
 symm;refine ⟨S5.get ewa4,gr (0,0),ta,rfl,S5.get eta4,?_⟩;symm;have hinit: ∃ (ws:List Qz),WtT K (upd (upd H4 la (.lst (((gz.filter λ g=>ju es g.2.1).map λ g=>(g.1,g.2.1)).map λ z:Addr×Sd=>V.ref z.1))) wa (.dT [(gr (0,0), .ref la)])) wa ws/\(∀w∈ws,H0 w.2.1=none)/\ws.length<=1/\(∀w∈ws,w.2.2.length<=50000)/\ ∀k x,Wait ws k x↔k=(0,0)/\x∈gz.map (·.2.1)/\ju es x=true:=by
  refine ⟨[((0,0),la,(gz.filter λ g=>ju es g.2.1).map λ g=>(g.1,g.2.1))],⟨by rw [aa];rfl,λ w mw=> ?_,by simp,by simp,λ w mw z mz=> ?_⟩,λ w mw=>by rw [Za.mp mw];exact hla0,Zk _,λ w mw=> ?_,λ k x=> ?_⟩
  .rw [Za.mp mw,au nlw,aa]
  .rw [Za.mp mw] at mz;obtain ⟨g,mg,rfl⟩:=Zb.mp mz;exact ((stO sb5 (List.mem_filter.mp mg).1).same S5).keep (S5.get ewa4) (λ l z=>by cases z)
  .rw [Za.mp mw,Qr];exact Yg (List.length_filter_le _ _) hL
  .constructor
   .rintro ⟨w,mw,rfl,mx⟩;rw [Za.mp mw] at mx ⊢;dsimp only at mx ⊢;rw [Zq] at mx;obtain ⟨g,mg,rfl⟩:=Zb.mp mx;exact ⟨rfl,Zb.mpr ⟨g,(List.mem_filter.mp mg).1,rfl⟩,(List.mem_filter.mp mg).2⟩
   .rintro ⟨rfl,mx,e⟩;obtain ⟨g,mg,rfl⟩:=Zb.mp mx;exact ⟨_,Za.mpr rfl,rfl,Zb.mpr ⟨(g.1,g.2.1),Zb.mpr ⟨g,List.mem_filter.mpr ⟨mg,e⟩,rfl⟩,rfl⟩⟩
 have sb6:Sb [oa] H0 (upd (upd H4 la (.lst (((gz.filter λ g=>ju es g.2.1).map λ g=>(g.1,g.2.1)).map λ z:Addr×Sd=>V.ref z.1))) wa (.dT [(gr (0,0), .ref la)])):=dJ (dJ sb5 (.inr hla0)) (.inr hwa0);have efa6:(upd (upd H4 la (.lst (((gz.filter λ g=>ju es g.2.1).map λ g=>(g.1,g.2.1)).map λ z:Addr×Sd=>V.ref z.1))) wa (.dT [(gr (0,0), .ref la)])) fa=some (bA fa []):=by rw [au nwf];exact S5.get efa4
 have eo6:(upd (upd H4 la (.lst (((gz.filter λ g=>ju es g.2.1).map λ g=>(g.1,g.2.1)).map λ z:Addr×Sd=>V.ref z.1))) wa (.dT [(gr (0,0), .ref la)])) oa=some (.frz od4 (bA oa (cg gz))):=by rw [au (Ne.symm nwo)];exact S5.get eo4
 generalize upd (upd H4 la (.lst (((gz.filter λ g=>ju es g.2.1).map λ g=>(g.1,g.2.1)).map λ z:Addr×Sd=>V.ref z.1))) wa (.dT [(gr (0,0), .ref la)])=H6 at hinit sb6 efa6 eo6 ⊢;obtain ⟨ws6,hW6,hf6,hl6,hm6,hw6⟩:=hinit;have hR0:jM bz U []<=900000:=by
  refine Yg (Nat.le_of_eq ?_) hB.s;unfold jM;simp
 refine lQ (λ m Z H'=> ∃ (fz:List Fq) (ws:List Qz),FdT K H' fa fz/\WtT K H' wa ws/\Sb [oa] H0 H'/\H' oa=some (.frz od4 (bA oa (cg gz)))/\(∀w∈ws,H0 w.2.1=none)/\Dj (Hw es (gz.map (·.2.1))) (CK st (gz.map (·.2.1))) (gA fz) (Wait ws)/\(∀f∈fz,f.2.1∈gz.map (·.2.1))/\m=ws.length+jM bz U fz/\ws.length+jM bz U fz<=900001/\(∀w∈ws,w.2.2.length+jM bz U fz<=950000)/\ ∃o1 o2 o3,Z=[some (.ref oa),some (.ref ea),some (.ref ba),some (.ref fa),some (.ref wa),o1,o2,o3]) _
  ⟨[],ws6,⟨efa6,by simp,by simp⟩,hW6,sb6,eo6,hf6,⟨λ x hx=> .inr ((hw6 _ _).mpr ⟨rfl,hx.1,hx.2⟩),λ c x y v _ hF=> ?_,λ x k hk=> ?_,λ x k hk=> ?_⟩,by simp,rfl,by rfl',λ w mw=>by have:=hm6 w mw;rfl',_,_,_,rfl⟩ ?_ ?_
 .obtain ⟨f,mf,_⟩:=hF;cases mf
 .rcases hk with ⟨f,mf,_⟩ | hk
  .cases mf
  .obtain ⟨e1,e2⟩:=(hw6 _ _).mp hk;exact .inl ⟨e2,e1⟩
 .obtain ⟨f,mf,_⟩:=hk;cases mf
 .rintro m Z H' N ⟨fz,ws,hF,hW,sb,eo,hfr,hD,hsub,rfl,hl1,hl2,o1,o2,o3,rfl⟩ hN';symm;refine M9 hW.d ?_;rw [show (jw ws).length=ws.length from Qr _];symm;by_cases hl0:0<ws.length
  .refine nR (by rfl') ?_;symm;refine Ms (kvs:=ws.map λ w:Qz=>([(w.1.1:Int),(w.1.2:Int)],V.ref w.2.1)) (by rw [hW.d,Zq];rfl) (λ z=>by rw [List.map_eq_nil_iff] at z;rw [z] at hl0;cases hl0) λ ra k hra mk hmin=> ?_
   rw [Zq] at mk hmin;obtain ⟨w,mw,rfl⟩:=Zb.mp mk;replace hra:H' ra=some (.tup [.int (w.1.1:Nat), .int (w.1.2:Nat)]):=hra;have hmn: ∀v∈ws,leP w.1 v.1:=λ v mv=>N5 (hmin _ (Zb.mpr ⟨v,mv,rfl⟩))
   symm;refine ⟨wa,rfl, .inr ⟨_, .inl hW.d⟩,?_⟩;symm;refine ⟨jw ws,gr w.1,ra, .ref w.2.1,hW.d,rfl,hra,jX hW.k mw rfl,?_⟩;obtain ⟨ws1,hW1,hn1,hlen1,hsub1,hw1⟩:=hW.pop mw;have nt: ∀ {xs:List (List Key×V)} l,HO.dT xs≠ .tup l:=λ l z=>by cases z
   have sb1:Sb [oa] H0 (upd H' wa (.dT (cN (jw ws) (gr w.1)))):=dJ sb (.inr hwa0);have eo1:upd H' wa (.dT (cN (jw ws) (gr w.1))) oa=some (.frz od4 (bA oa (cg gz))):=by rw [au (Ne.symm nwo)];exact eo
   have hF1:FdT K (upd H' wa (.dT (cN (jw ws) (gr w.1)))) fa fz:=⟨by rw [au nwf];exact hF.d,λ f mf=>⟨(hF.s f mf).1.keep hW.d nt,by
    have e:=(hF.s f mf).2;rw [au (λ z=>by rw [z,hW.d] at e;cases e)];exact e⟩,hF.n⟩
   have el1:upd H' wa (.dT (cN (jw ws) (gr w.1))) w.2.1=some (.lst (w.2.2.map λ z=>V.ref z.1)):=by
    have e:=hW.l w mw;rw [au (λ z=>by rw [z,hW.d] at e;cases e)];exact e
   have hra1:upd H' wa (.dT (cN (jw ws) (gr w.1))) ra=some (.tup [.int (w.1.1:Nat), .int (w.1.2:Nat)]):=by
    rw [au (λ z=>by rw [z,hW.d] at hra;cases hra)];exact hra
   have hst1: ∀z∈w.2.2,StT K (upd H' wa (.dT (cN (jw ws) (gr w.1)))) z.1 z.2:=λ z mz=>(hW.s w mw z mz).keep hW.d nt
   generalize upd H' wa (.dT (cN (jw ws) (gr w.1)))=H7 at hW1 sb1 eo1 hF1 el1 hra1 hst1 ⊢;have hlf:w.2.1≠fa:=λ z=>by rw [z,hF1.d] at el1;cases el1
   symm;refine jC (λ z:Addr×Sd=>V.ref z.1) (zs:=w.2.2) (SqL.of el1) (λ i Z H'=> ∃ (fz':List Fq) (ws':List Qz),FdT K H' fa fz'/\WtT K H' wa ws'/\Sb [oa] H0 H'/\H' oa=some (.frz od4 (bA oa (cg gz)))/\(∀v∈ws',H0 v.2.1=none)/\Dj (Hw es (gz.map (·.2.1))) (CK st (gz.map (·.2.1))) (gA fz') (λ l x=>Wait ws' l x\/(l=w.1/\x∈(w.2.2.drop i).map (·.2)))/\(∀f∈fz',f.2.1∈gz.map (·.2.1))/\(∀l x,Wait ws' l x->leP w.1 l)/\H' w.2.1=some (.lst (w.2.2.map λ z=>V.ref z.1))/\w.2.1∉ws'.map (·.2.1)/\H' ra=some (.tup [.int (w.1.1:Nat), .int (w.1.2:Nat)])/\(∀z∈w.2.2,StT K H' z.1 z.2)/\ws'.length+jM bz U fz'+1<=ws.length+jM bz U fz/\(∀v∈ws',v.2.2.length+jM bz U fz'<=950000)/\ ∃o1,Z=[some (.ref oa),some (.ref ea),some (.ref ba),some (.ref fa),some (.ref wa),some (.ref ra),some (.ref w.2.1),o1])
    ⟨fz,ws1,hF1,hW1,sb1,eo1,λ v mv=>hfr v (hsub1 v mv),?_,hsub,λ l x ⟨v,mv,e,_⟩=>e▸hmn v (hsub1 v mv),el1,hn1,hra1,hst1,by rfl',λ v mv=>hl2 v (hsub1 v mv),_,rfl⟩ ?_ ?_ ?_
   .have:(λ l x=>Wait ws1 l x\/(l=w.1/\x∈(w.2.2.drop 0).map (·.2)))=Wait ws:=by
     funext l x;rw [List.drop_zero];exact propext (hw1 l x).symm
    rw [this];exact hD
   .rintro i Z H8 ⟨_,_,_,_,_,_,_,_,_,_,e,_⟩;exact SqL.of e
   .rintro i z Z H8 hi ⟨fz',ws',hF8,hW8,sb8,eo8,hfr8,hD8,hsub8,hle8,el8,hn8,hra8,hst8,hm8,hl8,o1',rfl⟩;have mz:=Ze hi;have edr:w.2.2.drop i=z::w.2.2.drop (i+1):=by
     obtain ⟨h1,h2⟩:=Zo.mp hi;rw [Xp h1,h2]
    have hwx: ∀l y,(Wait ws' l y\/(l=w.1/\y∈(w.2.2.drop i).map (·.2)))↔(Wait ws' l y\/(l=w.1/\y∈(w.2.2.drop (i+1)).map (·.2)))\/(l=w.1/\y=z.2):=λ l y=>by
     rw [edr,Zl,Zm,or_assoc];refine or_congr Iff.rfl ?_;rw [and_or_left];exact Or.comm
    symm;refine ⟨fa,_,rfl,SGet.of hF8.d (jz λ f mf=>(hF8.s f mf).1) (hst8 z mz).a,?_⟩;by_cases m:z.2∈fz'.map (·.2.1)
    .obtain ⟨v,ev⟩:=lW (zs:=jy fz') (by rw [gk];exact m);rw [ev];symm;show if (!true)=true then _ else _
     symm;obtain ⟨f,mf,ef⟩:=Zb.mp m;exact ⟨fz',ws',hF8,hW8,sb8,eo8,hfr8,hD8.skip ⟨f,mf,ef,rfl⟩ hwx,hsub8,hle8,el8,hn8,hra8,hst8,hm8,hl8,_,rfl⟩
    have ev:=gQ (zs:=jy fz') (x:=z.2) (by rw [gk];exact m);rw [ev];symm;show if (!false)=true then _ else _
    rw [if_pos (show (!false)=true from rfl)];have hzg:z.2∈gz.map (·.2.1):=by
     rcases hD8.s z.2 w.1 (.inr ((hwx _ _).mpr (.inr ⟨rfl,rfl⟩))) with h | ⟨c,y,v,h,_⟩
     .exact h.1.1
     .exact h.1
    have hkb:bz.map (·.2.1)=gz.map (·.2.1):=by
     have:=Yt (List.map Prod.snd) hB.k;rw [Zq,Zq] at this;exact this
    obtain ⟨b,mb,eb⟩: ∃b∈bz,b.2.1=z.2:=by
     rw [<- hkb] at hzg;obtain ⟨b,mb,eb⟩:=Zb.mp hzg;exact ⟨b,mb,eb⟩
    obtain ⟨c1,c2,c3⟩:=hB.c b mb;have hfl:fz'.length<=50000:=by
     have:=cZ hF8.n λ x mx=>by
      obtain ⟨f,mf,rfl⟩:=Zb.mp mx;exact hsub8 f mf
     rw [Qr,Qr] at this;rfl'
    symm;refine ⟨fa,_,rfl,SPut.of hF8.d (jz λ f mf=>(hF8.s f mf).1) (hst8 z mz).a (by unfold cg jy;rw [Qr,Qr];rfl'),?_⟩;rw [lO ev];have nxt: ∀ {P:PySem.Heap->Prop} l,HO.ext P≠ .tup l:=λ l z=>by cases z
    have esd:cg (jy fz')++[(z.1,fJ z.2,V.ref ra)]=cg (jy (fz'++[(z.1,z.2,ra,w.1)])):=by unfold cg jy;rw [Zh,Zh];rfl
    have tfa: ∀ {a:Addr} {l:List V},H8 a=some (.tup l)->upd H8 fa (bA fa (cg (jy fz')++[(z.1,fJ z.2,V.ref ra)])) a=some (.tup l):=λ e=>by
     rw [au (λ z=>by rw [z,hF8.d] at e;cases e)];exact e
    have sb9:Sb [oa] H0 (upd H8 fa (bA fa (cg (jy fz')++[(z.1,fJ z.2,V.ref ra)]))):=dJ sb8 (.inr hfa);have eo9:upd H8 fa (bA fa (cg (jy fz')++[(z.1,fJ z.2,V.ref ra)])) oa=some (.frz od4 (bA oa (cg gz))):=by rw [au (Ne.symm nfo)];exact eo8
    have hst9: ∀z'∈w.2.2,StT K (upd H8 fa (bA fa (cg (jy fz')++[(z.1,fJ z.2,V.ref ra)]))) z'.1 z'.2:=λ z' mz'=>(hst8 z' mz').keep hF8.d nxt
    have hra9:=tfa hra8;have hF9:FdT K (upd H8 fa (bA fa (cg (jy fz')++[(z.1,fJ z.2,V.ref ra)]))) fa (fz'++[(z.1,z.2,ra,w.1)]):=by
     refine ⟨by rw [aa,esd],λ f mf=> ?_,?_⟩
     .rcases Zi.mp mf with mf | mf
      .exact ⟨(hF8.s f mf).1.keep hF8.d nxt,tfa (hF8.s f mf).2⟩
      .rw [Za.mp mf];exact ⟨hst9 z mz,hra9⟩
     .rw [Zh,Xc];refine ⟨hF8.n,by simp,λ a ma c mc e=>m ?_⟩;rw [Zl,Xq,Za] at mc;rw [<- show c=z.2 from mc,<- e];exact ma
    have hW9:WtT K (upd H8 fa (bA fa (cg (jy fz')++[(z.1,fJ z.2,V.ref ra)]))) wa ws':=⟨by rw [au (Ne.symm nwf)];exact hW8.d,λ v mv=>by
     have e:=hW8.l v mv;rw [au (λ z=>by rw [z,hF8.d] at e;cases e)];exact e,hW8.n,hW8.k,λ v mv y my=>(hW8.s v mv y my).keep hF8.d nxt⟩
    have el9:upd H8 fa (bA fa (cg (jy fz')++[(z.1,fJ z.2,V.ref ra)])) w.2.1=some (.lst (w.2.2.map λ z=>V.ref z.1)):=by rw [au hlf];exact el8
    generalize upd H8 fa (bA fa (cg (jy fz')++[(z.1,fJ z.2,V.ref ra)]))=H9 at sb9 eo9 hst9 hra9 hF9 hW9 el9 ⊢;have hrem:jM bz U (fz'++[(z.1,z.2,ra,w.1)])+(U b.2.2).length<=jM bz U fz':=by
     unfold jM;refine wK (λ v=> ?_) mb ?_
     .by_cases h:v.2.1∈fz'.map (·.2.1)
      .rw [if_pos h,if_pos (by rw [Zh];exact Zz _ h)];exact Zk _
      .rw [if_neg h];split<;>rfl'
     .rw [if_pos (by rw [Zh,eb];simp),if_neg (by rw [eb];exact m)];rfl'
    symm;refine ⟨ba, .ref b.2.2,rfl,by
     rw [<- il (by rw [hkb];exact hN) mb,eb];exact SGet.of (tk sb9 (λ _ _ z=>by cases z) hB.d) (λ p mp=>by
      obtain ⟨b',mb',rfl⟩:=Zb.mp mp;obtain ⟨y,my,ey⟩:=hB.key mb';have:=stO sb9 my;rw [ey.1,ey.2] at this;exact this.a) (hst9 z mz).a,?_⟩
    symm;refine ⟨wa,ra,b.2.2,ws',w.1,U b.2.2,rfl,hW9,hra9,tk sb9 (λ _ _ z=>by cases z) c1,λ mm=> ?_,λ u mu=> ?_,by rfl',λ v mv=>by have:=hl8 v mv;rfl',λ H10 ws10 hW10 sb10 hf10 hw10 hlen10 hm10=> ?_⟩
    .obtain ⟨v,mv,e⟩:=Zb.mp mm;have:=hfr8 v mv;rw [show v.2.1=b.2.2 from e,c1] at this;cases this
    .obtain ⟨g1,c,g2,g3⟩:=c2 u mu;exact ⟨tk sb9 (λ _ _ z=>by cases z) g1,c,tk sb9 (λ _ _ z=>by cases z) g2,tk sb9 (λ _ _ z=>by cases z) g3⟩
    symm;have keepW: ∀ {a:Addr} {u:HO},H9 a=some u->a≠wa->a∉ws'.map (·.2.1)->H10 a=some u:=λ e n1 n2=>sb10.get (λ mm=>(Zm.mp mm).elim n1 n2) e
    have offL: ∀ {a:Addr} {u:HO},H9 a=some u->(∀xs,u≠ .lst xs)->(∀xs,u≠ .dT xs)->H10 a=some u:=λ {a u} e n1 n2=>keepW e (λ z=>by rw [z,hW9.d] at e;exact n2 _ (Ym e).symm) (λ mm=>by
     obtain ⟨v,mv,ea⟩:=Zb.mp mm;have:=hW9.l v mv;rw [show v.2.1=a from ea,e] at this;exact n1 _ (Ym this))
    have tkW: ∀ {a:Addr} {l:List V},H9 a=some (.tup l)->H10 a=some (.tup l):=λ e=>offL e (λ _ z=>by cases z) (λ _ z=>by cases z)
    have stW: ∀ {a:Addr} {x:Sd},StT K H9 a x->StT K H10 a x:=λ h=>by
     obtain ⟨c,e1,e2⟩:=h;exact ⟨c,tkW e1,tkW e2⟩
    refine ⟨fz'++[(z.1,z.2,ra,w.1)],ws10,⟨offL hF9.d (λ _ z=>by cases z) (λ _ z=>by cases z),λ f mf=>⟨stW (hF9.s f mf).1,tkW (hF9.s f mf).2⟩,hF9.n⟩,hW10,λ c o nb e=>sb10 c o (λ mm=> ?_) (sb9 c o nb e),offL eo9 (λ _ z=>by cases z) (λ _ z=>by cases z),λ v mv=> ?_,hD8.take hwx (λ l y h=> ?_) (λ y k=> ?_) (λ l y=> ?_),λ f mf=> ?_,λ l x h=> ?_,keepW el9 (λ z=>by rw [z,hW9.d] at el9;cases el9) hn8,λ mm=> ?_,tkW hra9,λ z' mz'=>stW (hst9 z' mz'),by rfl',λ v mv=> ?_,_,rfl⟩
    .rcases Zm.mp mm with rfl | mm
     .rw [hwa0] at e;cases e
     .obtain ⟨v,mv,rfl⟩:=Zb.mp mm;rw [hfr8 v mv] at e;cases e
    .rcases hf10 v mv with h | h
     .obtain ⟨v',mv',e⟩:=Zb.mp h;rw [<- show v'.2.1=v.2.1 from e];exact hfr8 v' mv'
     .exact frH sb9 eo9 h
    .rcases h with h | ⟨rfl,_⟩
     .exact hle8 l y h
     .exact leP.refl _
    .unfold gA;constructor
     .rintro ⟨f,mf,e1,e2⟩;rcases Zi.mp mf with mf | mf
      .exact .inl ⟨f,mf,e1,e2⟩
      .rw [Za.mp mf] at e1 e2;exact .inr ⟨e1.symm,e2.symm⟩
     .rintro (⟨f,mf,e⟩ | ⟨rfl,rfl⟩)
      .exact ⟨f,Zz _ mf,e⟩
      .exact ⟨_,Zw _ (Za.mpr rfl),rfl,rfl⟩
    .have hx:(∃u∈U b.2.2,l=(w.1.1+u.2.1,w.1.2+1)/\y=u.2.2.2)↔ ∃c,(y∈gz.map (·.2.1)/\ ∃s,(s,c,z.2)∈st y)/\l=(w.1.1+c,w.1.2+1):=by
      rw [<- eb];constructor
      .rintro ⟨u,mu,rfl,rfl⟩;exact ⟨u.2.1,(c3 _ _).mp (Zb.mpr ⟨u,mu,rfl⟩),rfl⟩
      .rintro ⟨c,h,rfl⟩;obtain ⟨u,mu,e⟩:=Zb.mp ((c3 c y).mpr h);exact ⟨u,mu,by rw [<- (Prod.mk.inj e).1],(Prod.mk.inj e).2.symm⟩
     rw [hw10,<- hx,or_assoc,or_assoc];exact or_congr Iff.rfl Or.comm
    .rcases Zi.mp mf with mf | mf
     .exact hsub8 f mf
     .rw [Za.mp mf];exact hzg
    .rcases (hw10 l x).mp h with h | ⟨u,_,rfl,_⟩
     .exact hle8 l x h
     .exact leP.up _ _
    .obtain ⟨v,mv,e⟩:=Zb.mp mm;rcases hf10 v mv with h | h
     .exact hn8 (by rw [<- show v.2.1=w.2.1 from e];exact h)
     .rw [show v.2.1=w.2.1 from e,el9] at h;cases h
    .have:=hm10 (950000-jM bz U fz') (λ v mv=>by have:=hl8 v mv;rfl') v mv;rfl'
   .rintro Z H8 ⟨fz',ws',hF8,hW8,sb8,eo8,hfr8,hD8,hsub8,hle8,el8,hn8,hra8,hst8,hm8,hl8,o1',rfl⟩;symm;refine hN' _ _ _ (Nat.lt_of_succ_le hm8) ⟨fz',ws',hF8,hW8,sb8,eo8,hfr8,?_,hsub8,rfl,by rfl',hl8,_,_,_,rfl⟩;have:(λ l x=>Wait ws' l x\/(l=w.1/\x∈(w.2.2.drop w.2.2.length).map (·.2)))=Wait ws':=by
     funext l x;rw [List.drop_length];simp
    rw [this] at hD8;exact hD8
  .have e0:ws=[]:=Zx (by rfl');subst e0;refine wu (by rw [List.length_nil];rfl') ?_;symm;refine q od4 fa H' fz (λ b o nb e=>sb b o nb (sb0 b o nb e)) eo ?_ hF ?_
   .cases e:H fa with
    | none=>rfl
    | some u=>
     exfalso;by_cases z:fa=oa
     .exact nfo z
     .rw [sb0.get (by simpa using z) e] at hfa;cases hfa
   .have:Wait []=λ _ _=>False:=by
     funext l x;exact propext ⟨λ ⟨w,mw,_⟩=>(by cases mw),False.elim⟩
    rw [this] at hD;exact hD
 .rintro Z H Q Q' hq ⟨v,hv,a,kvs,e,ha,i,j,e1,e2,k,e3,z⟩;exact ⟨v,hv,a,kvs,e,ha,i,j,e1,e2,k,e3,hq _ _ z⟩
inductive sp_f29 (K:W.Frag) (vs:List V) (H:Hp) (Q:VK) (E:XK):Prop
 | mk (ta:Addr) (s0 s1 sg:Str) (b:Bool) (h0:vs=[.ref ta, .str sg, .bl b]) (h1:H ta=some (.tup [.str s0, .str s1])) (h2:s0.length+sg.length<=1000000) (h3: ∀r H' t0 t1,Same H H'->H' r=some (.tup [.str t0, .str t1])->t0.length<=max s1.length (s0.length+sg.length)->t1.length<=max s1.length (s0.length+sg.length)->Q (.ref r) H'):sp_f29 K vs H Q E
def uW (K:W.Frag) (E:XK) (Eh:XK):TS:=
  (aG (aJ (aH d9 (aH (aR K) (aj 0) (tC (V.int 0))) (aj 1)) (az 3))
  (bJ (Ti (qK K (aj 2)) (cO (ao (aH (aR K) (aj 0) (tC (V.int 1))) (ao (aj 3) aC))) (cO (ao (aj 3) (ao (aH (aR K) (aj 0) (tC (V.int 1))) aC))))))
theorem N7 (h:sp_f29 K vs H Q E): ∃Eh,uW K E Eh { nx:=λ _ H'=>Q .non H',rt:=Q } (start ["texts","sign","passes","longer"] vs) H:=by
 obtain ⟨ta,s0,s1,sg,b,rfl,hta,hl,q⟩:=h;refine ⟨E0,?_⟩;unfold uW;have hap:(s0++sg).length=s0.length+sg.length:=eX _ _;symm;refine dX hta ?_;symm;refine jo hl ?_;symm;refine GC (λ _=> ?_) λ _=> ?_
 .symm;refine dG hta ?_;symm;intro r hr;exact q r _ _ _ (aB hr _) aa (Nat.le_max_left _ _) (by rw [hap];exact Nat.le_max_right _ _)
 .symm;refine dG hta ?_;symm;intro r hr;exact q r _ _ _ (aB hr _) aa (by rw [hap];exact Nat.le_max_right _ _) (Nat.le_max_left _ _)
theorem lX {N M:Nat} (h1:(bR wss N).length<=N) (h2:(bR wss M).length<=M):bR wss N=bR wss M:=by
 rcases Nat.le_total N M with h | h
 .obtain ⟨j,rfl⟩:=Nat.exists_eq_add_of_le h;exact (ik h1 j).symm
 .obtain ⟨j,rfl⟩:=Nat.exists_eq_add_of_le h;exact ik h2 j
inductive sp_f1 (K:W.Frag) (vs:List V) (H:Hp) (Q:VK) (E:XK):Prop
 | mk (wa:Addr) (wss:List (List (Str×List Nat×Int))) (z:Fz) (N:Nat) (h0:vs=[.ref wa, .ref z.1]) (h1:WsT H wa wss) (h2:0<wss.length) (h3:wss.length<=100) (h4:(∀ws∈wss,ws.length<=1000/\ ∀w∈ws,w.1.length<=1/\0<=w.2.2/\w.2.2<wss.length)) (h5:FkA K H z) (h6:(bR wss N).length<=N) (h7:z.2.2.2.2.2.2∈bR wss N) (h8:z.2.2.2.2.1.1.length<=1) (h9:z.2.2.2.2.2.1.1.length<=1) (h10: ∀r H' t0 t1,Same H H'->H' r=some (.tup [.str t0, .str t1])->t0.length<=200->t1.length<=200->Q (.ref r) H'):sp_f1 K vs H Q E
abbrev Hx (K:W.Frag):TS:=
  (aG (aJ (aH (aR K) (aj 1) (tC (V.int 4))) (az 4))
  (bJ (aU (sp_f29 K) [] E0 (ao (cO (ao (aj 2) (ao (aH d9 (aj 2) (aH (aR K) (aj 4) (tC (V.int 0)))) aC))) (ao (aH (aR K) (aj 3) (tC (V.int 0))) (ao (aH jK (cH (cB K) (ao (aH (aR K) (aj 3) (tC (V.int 1))) aC)) (cH (cB K) (ao (aH (aR K) (aj 4) (tC (V.int 1))) aC))) aC))))))
def CZ (K:W.Frag) (E:XK) (Eh:XK):TS:=
  (aG (aJ (gn (aU (sp_f0 K) [] E0 (ao (aj 0) aC)) (aH (aR K) (aj 1) (tC (V.int 2)))) (az 2))
  (aG (aJ (aH (aR K) (aj 1) (tC (V.int 3))) (az 3))
  (Hx K)))
theorem R9 (h:sp_f1 K vs H Q E): ∃Eh,CZ K E Eh { nx:=λ _ H'=>Q .non H',rt:=Q } (start ["ways","fork","text","way","later"] vs) H:=by
 obtain ⟨wa,wss,z,N,rfl,hW,hw0,hw1,hws,hz,hN,hrm,hl1,hl2,q⟩:=h;refine ⟨E0,?_⟩;unfold CZ;obtain ⟨f1,f2,⟨c1,g1,g2⟩,⟨c2,g3,g4⟩⟩:=id hz;dsimp only at g1 g2 g3 g4;symm;refine ⟨wa,wss,rfl,hW,hw0,hw1,hws,λ td H1 M ps s1 htd eps etd hM hpl=> ?_⟩;have erm:bR wss M=bR wss N:=lX hM hN;obtain ⟨tx0,mt,ev⟩:=pQ (ps:=ps) (r:=z.2.2.2.2.2.2) (by rw [eps,erm];exact hrm);have hpsl:ps.length<=100:=by
  have h1:ps.length=(bR wss M).length:=by rw [<- eps,Qr]
  have h2:=cZ (l:=bR wss M) (m:=(List.range wss.length).map λ i:Nat=>(i:Int)) (dY _ _ M) λ r mr=>by
   obtain ⟨h0,h1⟩:=cY (P:=λ r:Int=>0<=r/\r<wss.length) ⟨by decide,by rfl'⟩ (λ p q' hp hq=>by
    obtain ⟨w,mw,rfl⟩:=Zb.mp hq;have:wss.getD p.toNat []∈wss:=by rw [Zn,Zd (by rfl')];exact Yy _
    exact ((hws _ this).2 w mw).2) M r mr
   exact Zb.mpr ⟨r.toNat,Yw.mpr (by rfl'),by rfl'⟩
  rw [Qr,Xi] at h2;rfl'
 have htl:=hpl _ mt;dsimp only at htl;symm;refine iw (s1.get f1) ?_;refine ⟨td,_,rfl, .inl ⟨_,_, .inl etd,rfl,ev.symm⟩,?_⟩;symm;refine eV (SqT.of (s1.get f1)) (aN (j:=3) (v:= .ref z.2.2.1) rfl) ?_;symm;refine eV (SqT.of (s1.get f1)) (aN (j:=4) (v:= .ref z.2.2.2.1) rfl) ?_;symm;refine dX (s1.get g3) ?_;symm;refine jo (by rfl') ?_;symm;intro ta hta;symm;have s2:=s1.new (o:= .tup [.str tx0, .str (tx0++z.2.2.2.2.2.1.1)]) hta;have eta:upd H1 ta (.tup [.str tx0, .str (tx0++z.2.2.2.2.2.1.1)]) ta=some (.tup [.str tx0, .str (tx0++z.2.2.2.2.2.1.1)]):=aa;generalize upd H1 ta (.tup [.str tx0, .str (tx0++z.2.2.2.2.2.1.1)])=H2 at s2 eta ⊢;refine dX (s2.get g1) ?_;symm;refine dG (s2.get g1) ?_;symm;refine cW (SqT.of (s2.get g2)) ?_;symm;refine dG (s2.get g3) ?_;symm;refine cW (SqT.of (s2.get g4)) ?_;symm;have hap:(tx0++z.2.2.2.2.2.1.1).length=tx0.length+z.2.2.2.2.2.1.1.length:=eX _ _;refine ⟨ta,tx0,_,_,_,rfl,eta,by rfl',λ r H3 t0 t1 s3 er l0 l1=> ?_⟩;exact q r H3 t0 t1 (s2.trans s3) er (by rfl') (by rfl')
theorem N8 (n:Nat):Sh n .none:=⟨by simp [PyData.canLay0],by simp [PyData.depth]⟩
theorem Ut {x y z:PyData} (h1:Sh n x) (h2:Sh n y) (h3:Sh n z):Sh (n+1) (.tuple [x,y,z]):=fc λ d hd=>by
 simp only [Zm,Yq,Xz] at hd;rcases hd with rfl | rfl | rfl<;>assumption
theorem rEqD.intsT {K:W.Frag} {a:Addr} {ns:List Int} (h1:SqT K H a (ns.map V.int)) (h2:SqT K H b (ms.map V.int)) (q:Q (.bl (decide (ns=ms))) H):rEqD K (.ref a) (.ref b) H Q:=by
 have sh: ∀ns:List Int,Sh 1 (.tuple (ns.map PyData.int)):=λ ns=>fc λ x mx=>by
  obtain ⟨y,_,rfl⟩:=Zb.mp mx;exact dI _ _
 refine ⟨_,_,Dp.intsT h1,Dp.intsT h2,(sh ns).shaped (by decide),(sh ms).shaped (by decide),?_⟩;rw [show PyData.eqv (.tuple (ns.map PyData.int)) (.tuple (ms.map PyData.int))=decide (ns=ms) by simp only [PyData.eqv];exact eU ns ms];exact q
theorem rNeD.intsT {K:W.Frag} {a:Addr} {ns:List Int} (h1:SqT K H a (ns.map V.int)) (h2:SqT K H b (ms.map V.int)) (q:Q (.bl (!decide (ns=ms))) H):rNeD K (.ref a) (.ref b) H Q:=by
 have sh: ∀ns:List Int,Sh 1 (.tuple (ns.map PyData.int)):=λ ns=>fc λ x mx=>by
  obtain ⟨y,_,rfl⟩:=Zb.mp mx;exact dI _ _
 refine ⟨_,_,Dp.intsT h1,Dp.intsT h2,(sh ns).shaped (by decide),(sh ms).shaped (by decide),?_⟩;rw [show PyData.eqv (.tuple (ns.map PyData.int)) (.tuple (ms.map PyData.int))=decide (ns=ms) by simp only [PyData.eqv];exact eU ns ms];exact q
theorem Ra {Z:St} {D:Ends} {c:TT} {a b:TS} {v:Bool} (h: ∀R:Bool->Hp->Prop,(∀H',Same H H'->R v H')->c Z H R) (k: ∀H',Same H H'->if v=true then a D Z H' else b D Z H'):cI c a b D Z H:=h _ k
inductive sp_f23 (K:W.Frag) (vs:List V) (H:Hp) (Q:VK) (E:XK):Prop
 | mk (sa fa ra:Addr) (zs:List (Addr×Str×Nat×Sd)) (fz:List Fq) (k:Nat×Nat) (h0:vs=[.ref sa, .ref fa, .ref ra]) (h1:H sa=some (.lst (zs.map λ z=>V.ref z.1))) (h2:(∀z∈zs,SpT K H z.1 z.2)) (h3:FdT K H fa fz) (h4:H ra=some (.tup [.int (k.1:Nat), .int (k.2:Nat)])) (h5:(∃z∈zs,∃v,gA fz z.2.2.2 v/\k=(v.1+z.2.2.1,v.2+1))) (h6: ∀z∈zs,∀v,gA fz z.2.2.2 v->k=(v.1+z.2.2.1,v.2+1)-> ∀H',Same H H'->Q (.ref z.1) H'):sp_f23 K vs H Q E
def uX (K:W.Frag) (E:XK) (Eh:XK):TS:=
  (aG (eY (cQ K (aj 0)) (az 3) (cI (aY (aH (rEqD K) (ur (aj 1) (aH (aR K) (aj 3) (tC (V.int 2)))) (cO (ao (aH j4 (aH (aR K) (aj 2) (tC (V.int 0))) (aH (aR K) (aj 3) (tC (V.int 1)))) (ao (aH j4 (aH (aR K) (aj 2) (tC (V.int 1))) (tC (V.int 1))) aC))))) (bJ (aj 3)) bT))
  (bJ (tC V.non)))
theorem Nb (h:sp_f23 K vs H Q E): ∃Eh,uX K E Eh { nx:=λ _ H'=>Q .non H',rt:=Q } (start ["steps","found","rest","step"] vs) H:=by
 obtain ⟨sa,fa,ra,zs,fz,k,rfl,hsa,hz,hF,hra,hex,q⟩:=h;refine ⟨E0,?_⟩;unfold uX;symm;refine jC (λ z:Addr×Str×Nat×Sd=>V.ref z.1) (zs:=zs) (SqL.of hsa) (λ i Z H'=>Same H H'/\(∀z∈zs.take i,∀v,gA fz z.2.2.2 v->k≠(v.1+z.2.2.1,v.2+1))/\ ∃o3,Z=[some (.ref sa),some (.ref fa),some (.ref ra),o3]) ⟨Same.refl _,by simp,_,rfl⟩ ?_ ?_ ?_
 .rintro i Z H' ⟨s,_⟩;exact SqL.of (s.get hsa)
 .rintro i z Z H' hi ⟨s,hno,o3,rfl⟩;have mz:=Ze hi;obtain ⟨c,e1,e2⟩:=hz z mz;symm;refine ⟨fa,_,rfl, .inl (s.get hF.d),?_⟩;symm;refine iw (s.get e1) ?_;refine ⟨_,SGet.ofR (.inl (s.get hF.d)) (jz λ f mf=>(hF.s f mf).1.same s) (e2.same s).a,?_⟩;symm;refine dX (s.get hra) ?_;symm;refine dG (s.get e1) ?_;symm;refine dG (s.get hra) ?_;symm;intro p hp;have s2:=s.new (o:= .tup [.int ((k.1:Int)-(z.2.2.1:Int)), .int ((k.2:Int)-1)]) hp;have ep:upd H' p (.tup [.int ((k.1:Int)-(z.2.2.1:Int)), .int ((k.2:Int)-1)]) p=some (.tup ([(k.1:Int)-(z.2.2.1:Int),(k.2:Int)-1].map V.int)):=aa;generalize upd H' p (.tup [.int ((k.1:Int)-(z.2.2.1:Int)), .int ((k.2:Int)-1)])=H2 at s2 ep ⊢;have etk: ∀ (hn: ∀v,gA fz z.2.2.2 v->k≠(v.1+z.2.2.1,v.2+1)),∀y∈zs.take (i+1),∀v,gA fz y.2.2.2 v->k≠(v.1+y.2.2.1,v.2+1):=λ hn y my=>by
   rw [Ys,hi] at my;rcases Zi.mp my with my | my
   .exact hno y my
   .have:y=z:=by simpa using my
    rw [this];exact hn
  by_cases m:z.2.2.2∈fz.map (·.2.1)
  .obtain ⟨f,mf,ef⟩:=Zb.mp m;have hfn: ∀v,gA fz z.2.2.2 v->v=f.2.2.2:=λ v ⟨g,mg,h1,h2⟩=>by rw [<- h2,eO hF.n mg mf (h1.trans ef.symm)]
   have ev:cL (cg (jy fz)) (fJ z.2.2.2)=some (V.ref f.2.2.1):=by
    rw [<- ef];exact il (zs:=jy fz) (z:=(f.1,f.2.1,f.2.2.1)) (by rw [gk];exact hF.n) (Zb.mpr ⟨f,mf,rfl⟩)
   rw [ev];have e3:H2 f.2.2.1=some (.tup ([(f.2.2.2.1:Int),(f.2.2.2.2:Int)].map V.int)):=s2.get (hF.s f mf).2;refine rEqD.intsT (SqT.of e3) (SqT.of ep) ?_;refine ⟨_,rfl,?_⟩;refine dW (λ c=> ?_) λ c=> ?_
   .symm;have hk:k=(f.2.2.2.1+z.2.2.1,f.2.2.2.2+1):=by
     injection c with c1 c2
     injection c2 with c2
     exact Prod.ext (by show k.1=_;rfl') (by show k.2=_;rfl')
    exact q z mz f.2.2.2 ⟨f,mf,ef,rfl⟩ hk _ s2
   .symm;refine ⟨s2,etk λ v hv hk=>c ?_,_,rfl⟩;rw [hfn v hv] at hk;have h1:=Yt Prod.fst hk;have h2:=Yt Prod.snd hk;dsimp only at h1 h2;rw [show (k.1:Int)-(z.2.2.1:Int)=(f.2.2.2.1:Int) by rfl',show (k.2:Int)-1=(f.2.2.2.2:Int) by rfl']
  .rw [gQ (by rw [gk];exact m)];refine ⟨_,_, .non,Dp.intsT (SqT.of ep),(N8 1).shaped (by decide),(fc (n:=0) λ x mx=> ?_).shaped (by decide),?_⟩
   .obtain ⟨y,_,rfl⟩:=Zb.mp mx;exact dI _ _
   symm;rw [show PyData.eqv .none (.tuple ([(k.1:Int)-(z.2.2.1:Int),(k.2:Int)-1].map PyData.int))=false by simp [PyData.eqv],if_neg (by decide)];symm;exact ⟨s2,etk λ v ⟨f,mf,e,_⟩=>absurd (Zb.mpr ⟨f,mf,e⟩) m,_,rfl⟩
 .rintro Z H' ⟨s,hno,o3,rfl⟩;rw [Xh] at hno;obtain ⟨z,mz,v,h1,h2⟩:=hex;exact absurd h2 (hno z mz v h1)
theorem sJ {ev:Sd->Prop} {B:Nat->Sd->Sd->Prop} {F:Sd->Nat×Nat->Prop} (h:Dj ev B F (λ _ _=>False)): ∀ (n:Nat) (x:Sd) (k:Nat×Nat),k.2=n->F x k-> ∃l:List (Sd×(Nat×Nat)),l.length=n+1/\(∀p∈l,F p.1 p.2/\p.2.2<=n)/\(l.map λ p=>p.2.2).Nodup
 | 0,x,k,e,hf=>⟨[(x,k)],rfl,λ p mp=>by rw [Za.mp mp];exact ⟨hf,Nat.le_of_eq e⟩,by simp⟩
 | n+1,x,k,e,hf=>by
  rcases h.s x k (.inl hf) with ⟨_,rfl⟩ | ⟨c,y,v,_,hy,rfl⟩
  .cases e
  .obtain ⟨l,h1,h2,h3⟩:=sJ h n y v (Nat.succ.inj e) hy;refine ⟨(x,(v.1+c,v.2+1))::l,by rw [Yu,h1],λ p mp=> ?_,?_⟩
   .rcases Zm.mp mp with rfl | mp
    .exact ⟨hf,Nat.le_of_eq e⟩
    .exact ⟨(h2 p mp).1,Nat.le_succ_of_le (h2 p mp).2⟩
   .rw [Zl,Wr];refine ⟨λ m=> ?_,h3⟩;obtain ⟨p,mp,ep⟩:=Zb.mp m;have:=(h2 p mp).2;dsimp only at ep e;rfl'
theorem Dc {B:Nat->Sd->Sd->Prop} (h:Dj ev B (gA fz) (λ _ _=>False)) (hf:gA fz x k):k.2<fz.length:=by
 obtain ⟨l,h1,h2,h3⟩:=sJ h _ x k rfl hf;have:=cZ (l:=l.map λ p=>p.2.2) (m:=fz.map λ f=>f.2.2.2.2) h3 λ y my=>by
  obtain ⟨p,mp,rfl⟩:=Zb.mp my;obtain ⟨f,mf,_,e⟩:=(h2 p mp).1;exact Zb.mpr ⟨f,mf,by rw [e]⟩
 rw [Qr,Qr,h1] at this;exact this
inductive sp_f25 (K:W.Frag) (vs:List V) (H:Hp) (Q:VK) (E:XK):Prop
 | mk (f oa fa sa ta:Addr) (h:Nat) (ls:List (Str×List Nat)) (gz:List Gz) (st:Sd->List (Str×Nat×Sd)) (es:List Int) (fz:List Fq) (x:Sd) (h0:vs=[.ref f, .ref oa, .ref fa, .ref sa, .ref ta]) (h1:FnF K H f h ls) (h2:Fo.Wf h ls) (h3:Rd H oa (bA oa (cg gz))) (h4:(∀z∈gz,StT K H z.1 z.2.1/\SsT K H z.2.2 (st z.2.1))) (h5:(gz.map (·.2.1)).Nodup) (h6:(∀z∈gz,∀e∈st z.2.1,(∃co,Fo.lk ls e.1=some co)/\e.1.length<=1)) (h7:FdT K H fa fz) (h8:fz.length<=100000) (h9:Dj (Hw es (gz.map (·.2.1))) (CK st (gz.map (·.2.1))) (gA fz) (λ _ _=>False)) (h10:StT K H sa x) (h11:(∃k,gA fz x k)) (h12:(∃t0 t1:Str,H ta=some (.tup [.str t0, .str t1])/\t0.length<=200/\t1.length<=200)) (h13: ∀r H' t0 t1,Same H H'->H' r=some (.tup [.str t0, .str t1])->Q (.ref r) H'):sp_f25 K vs H Q E
abbrev De (K:W.Frag):TS:=
  (aG (aJ (aU (sp_f29 K) [] E0 (ao (aj 4) (ao (aH (aR K) (aj 6) (tC (V.int 0))) (ao (aH jK (cH (cB K) (ao (gn (aj 5) (aH (aR K) (aj 6) (tC (V.int 0)))) aC)) (cH (cB K) (ao (aH (aR K) (aj 3) (tC (V.int 2))) aC))) aC)))) (az 4))
  (aJ (aH (aR K) (aj 6) (tC (V.int 2))) (az 3)))
abbrev Df (K:W.Frag):TS:=
  (aG (eF (aY (aH (rNeD K) (jb (aj 2) (aj 3)) (cO (ao (tC (V.int 0)) (ao (tC (V.int 0)) aC))))) (aG (aJ (aU (sp_f23 K) [] E0 (ao (jb (aj 1) (aj 3)) (ao (aj 2) (ao (jb (aj 2) (aj 3)) aC)))) (az 6))
  (De K)))
  (bJ (aj 4)))
def uY (K:W.Frag) (E:XK) (Eh:XK):TS:=
  (aG (aJ (cH (gW K) (ao (aH (aR K) (aj 0) (tC (V.int 1))) aC)) (az 5))
  (Df K))
theorem Nf (h:sp_f25 K vs H Q E): ∃Eh,uY K E Eh { nx:=λ _ H'=>Q .non H',rt:=Q } (start ["font","onward","found","stand","texts","letters","step"] vs) H:=by
 obtain ⟨f,oa,fa,sa,ta,h,ls,gz,st,es,fz,x,rfl,hF,wf,hoa,hgz,hnd,hlk,hfd,hfl,hD,hst,⟨k,hk⟩,⟨t0,t1,eta,l0,l1⟩,q⟩:=h;refine ⟨E0,?_⟩;unfold uY;obtain ⟨l,ob,lz,h1,ez,hob,h3,h4⟩:=id hF;symm;refine dG h1 ?_;symm;have hnf:(lz.map (·.2.1)).Nodup:=by
  have:=lN wf.up;rw [<- ez,Zq] at this;exact this
 have hle:=wf.le;have hfl':lz.length=ls.length:=by rw [<- ez,Qr]
 refine lK (zs:=lz.map λ z:Lz=>(z.1,z.2.1,V.ref z.2.2.1)) hob (by rw [Zq];exact h3) (λ z m=> ?_) (by rw [Zq];exact hnf) (by rw [Qr];rfl') λ pc hpc=> ?_
 .obtain ⟨y,my,rfl⟩:=Zb.mp m;exact SqT.of (h4 y my).1
 rw [Zq];obtain ⟨H1,eH1⟩: ∃H1,H1=upd H pc (HO.dK (lz.map ((λ z:Addr×Str×V=>((Sum.inr z.2.1:Key),z.2.2))∘λ z:Lz=>(z.1,z.2.1,V.ref z.2.2.1)))):=⟨_,rfl⟩;have s1:Same H H1:=by rw [eH1];exact aB hpc _
 have epc:H1 pc=some (.dK (lz.map λ z:Lz=>((Sum.inr z.2.1:Key),V.ref z.2.2.1))):=by rw [eH1];exact aa
 rw [<- eH1];clear eH1;symm;walk_at "ns";have hkl:=Dc hD hk;have hRd: ∀ {H':Hp},Same H H'->Rd H' oa (bA oa (cg gz)):=λ s=>by
  rcases hoa with e | ⟨od,e⟩
  .exact .inl (s.get e)
  .exact .inr ⟨od,s.get e⟩
 have hgs: ∀ {H':Hp},Same H H'-> ∀p∈cg gz,pA H' p.1 p.2.1:=λ s p mp=>by
  obtain ⟨g,mg,rfl⟩:=Zb.mp mp;exact ((hgz g mg).1.same s).a
 have hff: ∀ {H':Hp},Same H H'-> ∀p∈cg (jy fz),pA H' p.1 p.2.1:=λ s=>jz λ f mf=>(hfd.s f mf).1.same s
 refine lQ (λ m Z H'=>Same H1 H'/\ ∃ (sa ta:Addr) (x:Sd) (k:Nat×Nat) (t0 t1:Str) (o6:Option V),StT K H' sa x/\gA fz x k/\k.2=m/\H' ta=some (.tup [.str t0, .str t1])/\t0.length+m<=100200/\t1.length+m<=100200/\Z=[some (.ref f),some (.ref oa),some (.ref fa),some (.ref sa),some (.ref ta),some (.ref pc),o6]) k.2 ⟨Same.refl _,sa,ta,x,k,t0,t1,_,hst.same s1,hk,rfl,s1.get eta,by rfl',by rfl',rfl⟩ ?_ ?_
 .rintro m Z H' N ⟨s,sa,ta,x,k,t0,t1,o6,hst,hk,rfl,eta,l0,l1,rfl⟩ hN;have sH:=s1.trans s;obtain ⟨f0,mf,ef,ek⟩:=id hk;have ev:cL (cg (jy fz)) (fJ x)=some (V.ref f0.2.2.1):=by
   rw [<- ef];exact il (zs:=jy fz) (z:=(f0.1,f0.2.1,f0.2.2.1)) (by rw [gk];exact hfd.n) (Zb.mpr ⟨f0,mf,rfl⟩)
  have er:H f0.2.2.1=some (.tup [.int (k.1:Nat), .int (k.2:Nat)]):=by rw [<- ek];exact (hfd.s f0 mf).2
  symm;refine ⟨fa, .ref f0.2.2.1,rfl,by rw [<- ev];exact SGet.of (sH.get hfd.d) (hff sH) hst.a,?_⟩;symm;intro p hp;have s2:=sH.new (o:= .tup [.int 0, .int 0]) hp;have sN:=aB (o:= .tup [.int 0, .int 0]) hp;have ep:upd H' p (.tup [.int 0, .int 0]) p=some (.tup ([(0:Int),0].map V.int)):=aa;generalize upd H' p (.tup [.int 0, .int 0])=H2 at s2 sN ep ⊢;have e3:H2 f0.2.2.1=some (.tup ([(k.1:Int),(k.2:Int)].map V.int)):=s2.get er;refine rNeD.intsT (SqT.of e3) (SqT.of ep) ?_;refine ⟨_,rfl,?_⟩;refine nQ (λ c=> ?_) λ c=> ?_
  .have hgx:x∈gz.map (·.2.1):=by
    rcases hD.s x k (.inl hk) with h | ⟨_,_,_,h,_⟩
    .exact h.1.1
    .exact h.1
   obtain ⟨g,mg,eg⟩:=Zb.mp hgx;obtain ⟨_,zs,z1,z2,z3⟩:=hgz g mg;have evg:cL (cg gz) (fJ x)=some (V.ref g.2.2):=by rw [<- eg];exact il hnd mg
   symm;refine ⟨oa, .ref g.2.2,rfl,by rw [<- evg];exact SGet.ofR (hRd s2) (hgs s2) (hst.same sN).a,?_⟩;symm;refine ⟨fa, .ref f0.2.2.1,rfl,by rw [<- ev];exact SGet.of (s2.get hfd.d) (hff s2) (hst.same sN).a,?_⟩;symm;have hst': ∃z∈zs,∃v,gA fz z.2.2.2 v/\k=(v.1+z.2.2.1,v.2+1):=by
    rcases hD.s x k (.inl hk) with ⟨_,rfl⟩ | ⟨c',y,v,⟨_,sg,ms⟩,hv,e⟩
    .exact absurd rfl c
    .have:(sg,c',y)∈zs.map (·.2):=by rw [z1,show g.2.1=x from eg];exact ms
     obtain ⟨z,mz,ez'⟩:=Zb.mp this;exact ⟨z,mz,v,by rw [ez'];exact hv,by rw [ez'];exact e⟩
   refine ⟨g.2.2,fa,f0.2.2.1,zs,fz,k,rfl,s2.get z2,λ z mz=>(z3 z mz).same s2,⟨s2.get hfd.d,λ f mf=>⟨(hfd.s f mf).1.same s2,s2.get (hfd.s f mf).2⟩,hfd.n⟩,s2.get er,hst',λ z mz v hv ekv H3 s3=> ?_⟩;obtain ⟨c',y1,y2⟩:=(z3 z mz).same (s2.trans s3);have mst:z.2∈st g.2.1:=by rw [<- z1];exact Zb.mpr ⟨z,mz,rfl⟩
   obtain ⟨⟨co,hco⟩,hl1⟩:=hlk g mg _ mst;symm;refine dX y1 ?_;symm;refine dX y1 ?_;symm;obtain ⟨lw,mlw,elw1,elw2⟩:=lM (zs:=lz) (s:=z.2.1) (by rw [show lz.map (λ z:Lz=>(z.2.1,z.2.2.2))=ls from ez];exact hco);have s03:=s2.trans s3;have s13:=(s.trans sN).trans s3;refine ⟨pc, .ref lw.2.2.1,rfl,by rw [<- elw2];exact DGet.k (k:=Sum.inr z.2.1) (s13.get epc),?_⟩;symm;refine cW (SqT.of (s03.get (h4 lw mlw).2)) ?_;obtain ⟨sc,u1,u2⟩:=(hst.same sN).same s3;symm;refine iw u1 ?_;symm;refine cW (SqT.of u2) ?_;symm;have hk2:k.2=v.2+1:=by rw [ekv]
   refine ⟨ta,t0,t1,z.2.1,_,rfl,s3.get (sN.get eta),by rfl',λ r H4 v0 v1 s4 er m0 m1=> ?_⟩;symm;refine iw (s4.get y1) ?_;symm;exact hN v.2 _ _ (by rfl') ⟨s13.trans s4,c',r,z.2.2.2,v,v0,v1,_,y2.same s4,hv,rfl,er,by rfl',by rfl',rfl⟩
  .symm;exact q ta _ t0 t1 s2 (sN.get eta)
 .exact pP (jE (Hn K) (λ Z H Q Q' hq z=>by
   obtain ⟨v,e,w,e',a,u,h1,h2,h3⟩:=z;exact ⟨v,e,w,e',a,u,h1,h2,hq _ _ h3⟩) (λ Z H Q Q' hq z=>⟨z.1,λ p hp=>hq _ _ (z.2 p hp)⟩))
def Uu (st:Sd):PySem.PyData:= .tuple [.int st.1, .int st.2.1, .tuple ((st.2.2.map λ n:Nat=>(n:Int)).map PySem.PyData.int)]
theorem Ng (st:Sd):Sh 2 (Uu st):=fc λ d hd=>by
 simp only [Zm,Yq,Xz] at hd;rcases hd with rfl | rfl | rfl
 .exact dI 1 _
 .exact dI 1 _
 .exact fc λ d hd=>by
   obtain ⟨i,_,rfl⟩:=Zb.mp hd;exact dI 0 i
theorem Rb {K:W.Frag} {a:Addr} {st:Sd} (h:StT K H a st):Dp K H (.ref a) (Uu st):=by
 obtain ⟨c,h1,h2⟩:=h;refine .tup (SqT.of h1) (.cons (.int _) (.cons (.int _) (.cons (Dp.intsT (SqT.of ?_)) .nil)));rw [h2,Zq];rfl
theorem leP.anti {l:Nat×Nat} (h:leP k l) (g:leP l k):k=l:=by
 obtain ⟨a,b⟩:=k;obtain ⟨c,d⟩:=l;unfold leP at h g;dsimp only at h g;rw [show a=c by rfl',show b=d by rfl']
theorem Dj.le {B:Nat->Sd->Sd->Prop} {F:Sd->Nat×Nat->Prop} (h:Dj ev B F (λ _ _=>False)) (h':Dj ev B F' (λ _ _=>False)): ∀ (n:Nat) x k,k.2=n->F x k-> ∃k',F' x k'/\leP k' k:=by
 intro n;induction n with
 | zero=>
  intro x k hk hf;rcases h.s x k (.inl hf) with ⟨he,rfl⟩ | ⟨c,y,v,hB,hy,rfl⟩
  .exact ⟨_,(h'.e x he).resolve_right id,leP.refl _⟩
  .cases hk
 | succ n ih=>
  intro x k hk hf;rcases h.s x k (.inl hf) with ⟨he,rfl⟩ | ⟨c,y,v,hB,hy,rfl⟩
  .exact ⟨_,(h'.e x he).resolve_right id,leP.refl _⟩
  .obtain ⟨v',hv',lv⟩:=ih y v (Nat.succ.inj hk) hy;obtain ⟨u,hu,lu⟩:=(h'.b c x y v' hB hv').resolve_right id;exact ⟨u,hu,lu.trans (by unfold leP at lv ⊢;dsimp only;rfl')⟩
theorem Dj.uni {B:Nat->Sd->Sd->Prop} {F:Sd->Nat×Nat->Prop} (h:Dj ev B F (λ _ _=>False)) (h':Dj ev B F' (λ _ _=>False)) (u: ∀x k l,F x k->F x l->k=l) (hf:F x k):F' x k:=by
 obtain ⟨k',g,l1⟩:=h.le h' _ x k rfl hf;obtain ⟨k2,g2,l2⟩:=h'.le h _ x k' rfl g;rw [<- u x k k2 hf g2] at l2;rw [l2.anti l1];exact g
abbrev fj:=Str×List Nat×Int
variable {v:fj} {z:fj×fj×Int}
def q9 (z:fj×fj×Int):Nat:=cst z.2.1.2.1 z.1.2.1
def Ow (w:fj):PySem.PyData:= .tuple [.str w.1, .tuple ((w.2.1.map λ n:Nat=>(n:Int)).map PySem.PyData.int), .int w.2.2]
def Tf (z:fj×fj×Int):PySem.PyData:= .tuple [.int (q9 z:Nat),Uu (jF z), .int z.2.2,Ow z.1,Ow z.2.1]
def sU (c:Nat) (z:fj×fj×Int):PySem.PyData:= .tuple [.int (c:Nat),Tf z]
theorem yp (ns:List Int) (n:Nat):Sh (n+1) (.tuple (ns.map PySem.PyData.int)):=fc λ d hd=>by
 obtain ⟨i,_,rfl⟩:=Zb.mp hd;exact dI n i
theorem Dg {w:fj} (h:Hs.Sg w.1):Sh 2 (Ow w):=Ut (IW 1 h) (yp _ 0) (dI 1 _)
theorem Nh (h1:Hs.Sg z.1.1) (h2:Hs.Sg z.2.1.1):Sh 4 (sU c z):=fc λ d hd=>by
 simp only [Zm,Yq,Xz] at hd;rcases hd with rfl | rfl
 .exact dI 3 _
 .refine fc λ d hd=> ?_
  simp only [Zm,Yq,Xz] at hd;rcases hd with rfl | rfl | rfl | rfl | rfl
  .exact dI 2 _
  .exact Ng _
  .exact dI 2 _
  .exact Dg h1
  .exact Dg h2
theorem lY: ∀ns ms:List Int,Nk.CmpDs (ns.map PySem.PyData.int) (ms.map PySem.PyData.int)
 | [],_=> .nil
 | _::_,[]=> .over
 | n::ns,m::ms=> .cons (.int n m) (lY ns ms)
theorem wM (v w:fj):Nk.CmpD (Ow v) (Ow w):= .tup (.cons (.str _ _) (.cons (.tup (lY _ _)) (.cons (.int _ _) .nil)))
theorem Hy (c d:Nat) (y z:fj×fj×Int):Nk.CmpD (sU c y) (sU d z):= .tup (.cons (.int _ _) (.cons (.tup (.cons (.int _ _) (.cons (.tup (.cons (.int _ _) (.cons (.int _ _) (.cons (.tup (lY _ _)) .nil)))) (.cons (.int _ _) (.cons (wM _ _) (.cons (wM _ _) .nil)))))) .nil))
def Dh:PySem.PyData->Int
 | .tuple (.int c::_)=>c
 | _=>0
theorem Ni (c d:Nat) (y z:fj×fj×Int):(Nk.pI (sU c y) (sU d z)=true->Dh (sU c y)<=Dh (sU d z))/\(Nk.pI (sU c y) (sU d z)=false->Dh (sU d z)<=Dh (sU c y)):=by
 have e:Nk.pI (sU c y) (sU d z)=if PyData.eqv (.int (c:Nat)) (.int (d:Nat))=true then Nk.pJ [Tf y] [Tf z] else decide ((c:Int)<(d:Int)):=by
  unfold sU;rw [Nk.pI,Nk.pJ,Nk.pI]
 rw [e];show (_->(c:Int)<=(d:Int))/\(_->(d:Int)<=(c:Int));by_cases h:(c:Int)=(d:Int)
 .exact ⟨λ _=>Int.le_of_eq h,λ _=>Int.le_of_eq h.symm⟩
 .rw [if_neg (by simp [PyData.eqv];rfl')];exact ⟨λ h=>Int.le_of_lt (Xx h),λ h=>Int.not_lt.mp (of_decide_eq_false h)⟩
theorem J3 {K:W.Frag} {z:Wz} (h:WyT H z):Dp K H (.ref z.1) (Ow z.2):=by
 obtain ⟨c,h1,h2⟩:=h;refine .tup (SqT.of h1) (.cons (.str _) (.cons (Dp.intsT (SqT.of ?_)) (.cons (.int _) .nil)));rw [h2,Zq];rfl
theorem Rc {K:W.Frag} {z:Fz} (h:FkA K H z):Dp K H (.ref z.1) (Tf z.2.2.2.2):= .tup (SqT.of h.1) (.cons (.int _) (.cons (Rb h.2.1) (.cons (.int _) (.cons (J3 h.2.2.1) (.cons (J3 h.2.2.2) .nil)))))
theorem J4 {wss:List (List fj)} (m:z∈lZ wss rs):z.2.2∈rs/\z.1∈wss.getD z.2.2.toNat []/\z.2.1∈wss.getD z.2.2.toNat []:=by
 obtain ⟨r,mr0,mr⟩:=Xu.mp m;obtain ⟨b,mb,ma⟩:=Xu.mp mr;obtain ⟨a,ha,rfl⟩:=Zb.mp ma;have hb:=Yw.mp mb;have ha:=Yw.mp ha;have g: ∀k,k<(wss.getD r.toNat []).length->(wss.getD r.toNat []).getD k default∈wss.getD r.toNat []:=by
  generalize wss.getD r.toNat []=l;intro k hk;rw [Zn,Zd hk];exact Yy hk
 exact ⟨mr0,g a (by rfl'),g b hb⟩
inductive sp_f22 (K:W.Frag) (vs:List V) (H:Hp) (Q:VK) (E:XK):Prop
 | mk (f ha:Addr) (h:Nat) (ls:List (Str×List Nat)) (ds:List (List (Str×Int))) (es:List Int) (h0:vs=[.ref f, .ref ha]) (h1:FnF K H f h ls) (h2:Fo.Wf h ls) (h3:HsG K H ha ds es) (h4:Ov ls ds) (h5: ∀N (S:List Sd) (fz:List Fq),(bR (ds.map (aV ls)) N).length<=N->(∀x,x∈S↔Mm.Rch (uN (ds.map (aV ls)) N) (Cr (ds.map (aV ls))) x)->(fz.map (·.2.1)).Nodup->Dj (Hw es S) (CK (J2 ls (ds.map (aV ls))) S) (gA fz) (λ _ _=>False)->((∀z∈lZ (ds.map (aV ls)) (bR (ds.map (aV ls)) N),∀k,¬gA fz (jF z) k)-> ∀H',Same H H'->Q .non H')/\ ∀r H' (L:Nat) t0 t1,Same H H'->H' r=some (.tup [.int (L:Nat), .str t0, .str t1])->(∃z∈lZ (ds.map (aV ls)) (bR (ds.map (aV ls)) N),∃k,gA fz (jF z) k/\L=q9 z+k.1)->(∀z∈lZ (ds.map (aV ls)) (bR (ds.map (aV ls)) N),∀k,gA fz (jF z) k->L<=q9 z+k.1)->Q (.ref r) H'):sp_f22 K vs H Q E
abbrev Di (K:W.Frag):TS:=
  (aG (aJ (aU (sp_f25 K) [] E0 (ao (aj 0) (ao (aj 3) (ao (aj 4) (ao (aH (aR K) (aH (aR K) (aj 6) (tC (V.int 1))) (tC (V.int 1))) (ao (aU (sp_f1 K) [] E0 (ao (aj 2) (ao (aH (aR K) (aj 6) (tC (V.int 1))) aC))) aC)))))) (az 7))
  (bJ (cO (ao (aH (aR K) (aj 6) (tC (V.int 0))) (ao (cH (lJ K) (ao (aj 7) aC)) (ao (cH (lJ K) (ao (aj 7) aC)) aC))))))
abbrev Dk (K:W.Frag):TS:=
  (aG (aJ (oV [none,some 4] (cQ K (aU (sp_f27 K) [] E0 (ao (aj 0) (ao (aj 2) aC)))) (az 0) (tB (Kv (aH (aR K) (aj 0) (tC (V.int 1))) (aj 1))) (cO (ao (aH cC (aH (aR K) (aj 0) (tC (V.int 0))) (aH (aR K) (jb (aj 1) (aH (aR K) (aj 0) (tC (V.int 1)))) (tC (V.int 0)))) (ao (aj 0) aC)))) (az 5))
  (aG (cI (aY (aH qw (cH (cB K) (ao (aj 5) aC)) (tC (V.int 0)))) (bJ (tC V.non)) bT)
  (aG (aJ (cH (pK K) (ao (aj 5) aC)) (az 6))
  (Di K))))
def uZ (K:W.Frag) (E:XK) (Eh:XK):TS:=
  (aG (aJ (aU (sp_f21 K) [] E0 (ao (aj 0) (ao (aj 1) aC))) (az 2))
  (aG (aJ (aU (sp_f16 K) [] E0 (ao (aj 0) (ao (aj 1) aC))) (az 3))
  (aG (aJ (aU (sp_f30 K) [] E0 (ao (aj 3) (ao (aH (aR K) (aj 1) (tC (V.int 1))) aC))) (az 4))
  (Dk K))))
theorem Nm (h:sp_f22 K vs H Q E): ∃Eh,uZ K E Eh { nx:=λ _ H'=>Q .non H',rt:=Q } (start ["font","house","ways","onward","found","pairs","least","texts"] vs) H:=by
 obtain ⟨f,ha,h,ls,ds,es,rfl,hF,wf,hH,sz,q⟩:=h;refine ⟨E0,?_⟩;unfold uZ;have hok:=pX wf sz;obtain ⟨sz1,sz2,sz3,sz4⟩:=id sz;have hwl:(ds.map (aV ls)).length=ds.length:=Qr _;have hrow: ∀ws∈ds.map (aV ls),ws.length<=18:=λ ws mws=>by
  obtain ⟨ps,mps,rfl⟩:=Zb.mp mws;exact Yg (List.length_filterMap_le ..) (sz3 ps mps).1
 have hlk: ∀ws∈ds.map (aV ls),∀w∈ws,Fo.lk ls w.1=some w.2.1:=λ ws mws w mw=>by
  obtain ⟨ps,mps,rfl⟩:=Zb.mp mws;obtain ⟨p,mp,ep⟩:=List.mem_filterMap.mp (show w∈ps.filterMap _ from mw);obtain ⟨co,eco,rfl⟩:=Yp.mp ep;exact eco
 have hsg: ∀ws∈ds.map (aV ls),∀w∈ws,Hs.Sg w.1:=λ ws mws w mw=>wf.sg _ (hok ws mws w mw).1.1
 have hs1: ∀ws∈ds.map (aV ls),∀w∈ws,w.1.length<=1:=λ ws mws w mw=>by
  obtain ⟨k,e⟩:=hsg ws mws w mw;rw [e];exact Zk _
 have hgetD: ∀ {r:Nat} {w:fj},w∈(ds.map (aV ls)).getD r []-> ∃ws∈ds.map (aV ls),w∈ws:=λ {r w} mw=>by
  rw [Zn] at mw
  cases e:(ds.map (aV ls))[r]? with
  | none=>rw [e] at mw;cases mw
  | some ws=>rw [e] at mw;exact ⟨ws,Ze e,mw⟩
 symm;refine ⟨f,ha,h,ls,ds,es,rfl,hF,wf,hH,by rfl',λ ps mps=>by have:=(sz3 ps mps).1;rfl',λ wa H1 s1 hwa hW=> ?_⟩;symm;refine ⟨f,ha,h,ls,ds,es,rfl,hF.same s1,wf,hH.same s1,sz,λ oa H2 N gz s2 hoa hN e2 hg hl hnd hR=> ?_⟩;symm;obtain ⟨d,e,rs,a1,a2,a3,a4,a5⟩:=(hH.same s1).same s2;refine dG a1 ?_;symm;refine ⟨oa,e,gz,J2 ls (ds.map (aV ls)),es,rfl, .inl e2,λ z mz=>⟨(hg z mz).1,(hg z mz).2,?_⟩,hnd,hl,λ z mz u mu=> ?_,SqT.of a5,λ od fa H3 fz sb3 eo3 hfa hF3 hD=> ?_⟩
 .rw [Qr,Zn]
  cases e:(ds.map (aV ls))[z.2.1.1.toNat]? with
  | none=>exact Yz _
  | some ws=>exact hrow ws (Ze e)
 .refine (hR _).mpr (.step ((hR _).mp (Zb.mpr ⟨z,mz,rfl⟩)) ?_);obtain ⟨w,mw,rfl⟩:=Zb.mp mu;exact Zb.mpr ⟨w,mw,rfl⟩
 obtain ⟨qn,qs⟩:=q N (gz.map (·.2.1)) fz hN hR hF3.n hD;have S3:Same H1 H3:=λ b o e=>sb3 b o (λ m=>by rw [Za.mp m,hoa] at e;cases e) (s2.get e)
 have stO: ∀z∈gz,StT K H3 z.1 z.2.1/\SsT K H3 z.2.2 (J2 ls (ds.map (aV ls)) z.2.1):=λ z mz=>by
  have ne: ∀ {b:Addr} {o:HO},H2 b=some o->(∀u,o≠bA oa u)->H3 b=some o:=λ {b o} e hn=>sb3.get (λ m=>by rw [Za.mp m,e2] at e;exact hn _ (Ym e).symm) e
  obtain ⟨⟨c,g1,g2⟩,⟨zs,k1,k2,k3⟩⟩:=hg z mz;refine ⟨⟨c,ne g1 λ u q=>(by cases q),ne g2 λ u q=>(by cases q)⟩,zs,k1,ne k2 λ u q=>(by cases q),λ y my=> ?_⟩;obtain ⟨c',j1,c'',j2,j3⟩:=k3 y my;exact ⟨c',ne j1 λ u q=>(by cases q),c'',ne j2 λ u q=>(by cases q),ne j3 λ u q=>(by cases q)⟩
 have s03:=s1.trans S3;symm;refine ⟨f,wa,h,ls,ds.map (aV ls),rfl,hF.same s03,wf,hW.same S3,by rfl',by rfl',λ ws mws=>⟨by have:=hrow ws mws;rfl',λ w mw=>⟨hlk ws mws w mw,by rw [hwl];exact (hok ws mws w mw).2⟩⟩,λ fk H4 M s4 hfk hM ⟨kz,ekz,efk,hkz⟩=> ?_⟩;rw [lX hM hN] at ekz;have hkl:kz.length<=100000:=by
  have h1:=pY hrow (bR (ds.map (aV ls)) N);rw [<- ekz,Qr] at h1;have h2:=cZ (l:=bR (ds.map (aV ls)) N) (m:=(List.range ds.length).map λ i:Nat=>(i:Int)) (dY _ _ N) λ r mr=>by
   obtain ⟨h0,h1⟩:=cY (P:=λ r:Int=>0<=r/\r<ds.length) ⟨by decide,by rfl'⟩ (λ p q' hp hq=>by
    obtain ⟨w,mw,rfl⟩:=Zb.mp hq;obtain ⟨ws,mws,mw⟩:=hgetD mw;exact (hok ws mws w mw).2) N r mr
   exact Zb.mpr ⟨r.toNat,Yw.mpr (by rfl'),by rfl'⟩
  rw [Qr,Xi] at h2;rfl'
 have hkm: ∀z∈kz,z.2.2.2.2∈lZ (ds.map (aV ls)) (bR (ds.map (aV ls)) N):=λ z mz=>by rw [<- ekz];exact Zb.mpr ⟨z,mz,rfl⟩
 have hF4: ∀ {H':Hp},Same H4 H'->FdT K H' fa fz:=λ s=>⟨s.get (s4.get hF3.d),λ f mf=>⟨((hF3.s f mf).1.same s4).same s,s.get (s4.get (hF3.s f mf).2)⟩,hF3.n⟩
 symm;walk_at "ns";refine Bp (λ z:Fz=>V.ref z.1) (zs:=kz) (SqL.of efk) (by rfl') (λ i ys H'=>Same H4 H'/\ ∃us:List (Addr×Nat×Fz),ys=us.map (λ u=>V.ref u.1)/\us.length<=i/\(∀u∈us,H' u.1=some (.tup [.int (u.2.1:Nat), .ref u.2.2.1])/\u.2.2∈kz/\ ∃k,gA fz (jF u.2.2.2.2.2.2) k/\u.2.1=q9 u.2.2.2.2.2.2+k.1)/\ ∀z∈kz.take i,∀k,gA fz (jF z.2.2.2.2) k-> ∃u∈us,u.2.1=q9 z.2.2.2.2+k.1) ⟨Same.refl _,[],rfl,Zk _,by simp,by simp⟩ ?_ ?_ ?_ ?_
 .rintro i ys H' ⟨s,_⟩;exact SqL.of (s.get efk)
 .rintro i ys H' ⟨_,us,rfl,hle,_⟩;rw [Qr];exact hle
 .rintro i z ys H' hi ⟨s,us,rfl,hle,hus,hall⟩;have mz:=Ze hi;obtain ⟨f1,f2,_,_⟩:=(hkz z mz).same s;have hF5:=hF4 s;have hone: ∀ {H2:Hp},Same H' H2-> ∀us2:List (Addr×Nat×Fz),us2.length<=1->(∀u∈us2,H2 u.1=some (.tup [.int (u.2.1:Nat), .ref u.2.2.1])/\u.2.2∈kz/\ ∃k,gA fz (jF u.2.2.2.2.2.2) k/\u.2.1=q9 u.2.2.2.2.2.2+k.1)->(∀k,gA fz (jF z.2.2.2.2) k-> ∃u∈us2,u.2.1=q9 z.2.2.2.2+k.1)->Same H4 H2/\ ∃us':List (Addr×Nat×Fz),us.map (λ u=>V.ref u.1)++us2.map (λ u=>V.ref u.1)=us'.map (λ u=>V.ref u.1)/\us'.length<=i+1/\(∀u∈us',H2 u.1=some (.tup [.int (u.2.1:Nat), .ref u.2.2.1])/\u.2.2∈kz/\ ∃k,gA fz (jF u.2.2.2.2.2.2) k/\u.2.1=q9 u.2.2.2.2.2.2+k.1)/\ ∀z∈kz.take (i+1),∀k,gA fz (jF z.2.2.2.2) k-> ∃u∈us',u.2.1=q9 z.2.2.2.2+k.1:=λ {H2} s2 us2 hl2 h1 h2=>by
   refine ⟨s.trans s2,us++us2,by rw [Zh],by rw [Zg];rfl',λ u mu=> ?_,λ y my k hk=> ?_⟩
   .rcases Zi.mp mu with mu | mu
    .exact ⟨s2.get (hus u mu).1,(hus u mu).2⟩
    .exact h1 u mu
   .rw [Ys,hi] at my;rcases Zi.mp my with my | my
    .obtain ⟨u,mu,e⟩:=hall y my k hk;exact ⟨u,Zz _ mu,e⟩
    .have ey:y=z:=by simpa using my
     rw [ey] at hk ⊢;obtain ⟨u,mu,e⟩:=h2 k hk;exact ⟨u,Zw _ mu,e⟩
  symm;refine dG f1 ?_;symm;refine ⟨fa,_,rfl,SGet.of hF5.d (jz λ f mf=>(hF5.s f mf).1) f2.a,?_⟩;by_cases m:jF z.2.2.2.2∈fz.map (·.2.1)
  .obtain ⟨f0,mf,ef⟩:=Zb.mp m;have ev:cL (cg (jy fz)) (fJ (jF z.2.2.2.2))=some (V.ref f0.2.2.1):=by
    rw [<- ef];exact il (zs:=jy fz) (z:=(f0.1,f0.2.1,f0.2.2.1)) (by rw [gk];exact hF3.n) (Zb.mpr ⟨f0,mf,rfl⟩)
   rw [show cL (cg (jy fz)) (fJ (iy z.2.2.2.2.1 z.2.2.2.2.2.1.2.2 z.2.2.2.2.2.1.2.1))=some (V.ref f0.2.2.1) from ev];refine ⟨true,rfl,?_⟩;rw [if_pos rfl];symm;refine eV (SqT.of f1) (aN (j:=0) (v:= .int (q9 z.2.2.2.2:Nat)) (by rfl)) ?_;symm;refine dG f1 ?_;symm;refine ⟨fa, .ref f0.2.2.1,rfl,by rw [<- ev];exact SGet.of hF5.d (jz λ f mf=>(hF5.s f mf).1) f2.a,?_⟩;symm;refine eV (SqT.of (hF5.s f0 mf).2) (aN (j:=0) (v:= .int (f0.2.2.2.1:Nat)) rfl) ?_;symm;intro p hp;rw [show ((q9 z.2.2.2.2:Nat):Int)+((f0.2.2.2.1:Nat):Int)=((q9 z.2.2.2.2+f0.2.2.2.1:Nat):Int) by rfl'];refine hone (aB hp _) [(p,q9 z.2.2.2.2+f0.2.2.2.1,z)] (Zk _) (λ u mu=> ?_) λ k ⟨g,mg,e1,e2⟩=>⟨_,Zs,?_⟩
   .rw [Za.mp mu];exact ⟨aa,mz,f0.2.2.2,⟨f0,mf,ef,rfl⟩,rfl⟩
   .rw [<- e2,eO hF3.n mg mf (e1.trans ef.symm)]
  .rw [show cL (cg (jy fz)) (fJ (iy z.2.2.2.2.1 z.2.2.2.2.2.1.2.2 z.2.2.2.2.2.1.2.1))=none from gQ (by rw [gk];exact m)];symm;have:=hone (Same.refl _) [] (Yz _) (by simp) λ k ⟨g,mg,e1,_⟩=>absurd (Zb.mpr ⟨g,mg,e1⟩) m
   simpa using this
 rintro ys H5 ⟨s5,us,rfl,hle,hus,hall⟩ pa hpa;rw [Xh] at hall;have s6:=s5.new (o:= .lst (us.map λ u=>V.ref u.1)) hpa;have epa:upd H5 pa (.lst (us.map λ u=>V.ref u.1)) pa=some (.lst (us.map λ u=>V.ref u.1)):=aa;replace hus: ∀u∈us,upd H5 pa (.lst (us.map λ u=>V.ref u.1)) u.1=some (.tup [.int (u.2.1:Nat), .ref u.2.2.1])/\u.2.2∈kz/\ ∃k,gA fz (jF u.2.2.2.2.2.2) k/\u.2.1=q9 u.2.2.2.2.2.2+k.1:=λ u mu=>⟨aA hpa (hus u mu).1,(hus u mu).2⟩
 generalize upd H5 pa (.lst (us.map λ u=>V.ref u.1))=H6 at s6 epa hus ⊢;have s04:=s03.trans s4;symm;refine cG (SqL.of epa) ?_;rw [Qr];symm;refine dW (λ c=> ?_) λ c=> ?_
 .symm;have hu0:us=[]:=List.length_eq_zero_iff.mp (by rfl');refine qn (λ z mz k hk=> ?_) _ (s04.trans s6);rw [<- ekz] at mz;obtain ⟨y,my,rfl⟩:=Zb.mp mz;obtain ⟨u,mu,_⟩:=hall y my k hk;rw [hu0] at mu;cases mu
 symm;have hsgk: ∀z∈kz,Hs.Sg z.2.2.2.2.1.1/\Hs.Sg z.2.2.2.2.2.1.1:=λ z mz=>by
  obtain ⟨_,m1,m2⟩:=J4 (hkm z mz);obtain ⟨w1,n1,o1⟩:=hgetD m1;obtain ⟨w2,n2,o2⟩:=hgetD m2;exact ⟨hsg w1 n1 _ o1,hsg w2 n2 _ o2⟩
 refine Ho (us:=us.map λ u=>(V.ref u.1,sU u.2.1 u.2.2.2.2.2.2)) Dh (by rw [Zq];exact SqL.of epa) (λ e=>c (by rw [List.map_eq_nil_iff.mp e];rfl)) (λ v mv=> ?_) (λ v mv w mw=> ?_) λ v mv hmin=> ?_
 .obtain ⟨u,mu,rfl⟩:=Zb.mp mv;obtain ⟨h1,h2,_⟩:=hus u mu;have:=Nh (c:=u.2.1) (hsgk _ h2).1 (hsgk _ h2).2;exact ⟨.tup (SqT.of h1) (.cons (.int _) (.cons (Rc ((hkz _ h2).same s6)) .nil)),this.1,Yg this.2 (by decide)⟩
 .obtain ⟨u,mu,rfl⟩:=Zb.mp mv;obtain ⟨u',mu',rfl⟩:=Zb.mp mw;exact ⟨Hy _ _ _ _,Ni _ _ _ _⟩
 obtain ⟨u,mu,rfl⟩:=Zb.mp mv;obtain ⟨h1,h2,k,hk,ek⟩:=hus u mu;obtain ⟨g1,g2,g3⟩:=J4 (hkm _ h2);obtain ⟨w1,n1,o1⟩:=hgetD g2;obtain ⟨w2,n2,o2⟩:=hgetD g3;have fk6:=(hkz _ h2).same s6;symm;refine dG h1 ?_;symm;refine dG fk6.1 ?_;symm;refine dG h1 ?_;symm;refine ⟨wa,ds.map (aV ls),u.2.2,N,rfl,((hW.same S3).same s4).same s6,by rfl',by rfl',λ ws mws=>⟨by have:=hrow ws mws;rfl',λ w mw=>⟨hs1 ws mws w mw,by rw [hwl];exact (hok ws mws w mw).2⟩⟩,fk6,hN,g1,hs1 w1 n1 _ o1,hs1 w2 n2 _ o2,λ ta H7 t0 t1 s7 eta l0 l1=> ?_⟩;symm;have s47:=s6.trans s7;refine ⟨f,oa,fa,u.2.2.2.1,ta,h,ls,gz,J2 ls (ds.map (aV ls)),es,fz,jF u.2.2.2.2.2.2,rfl,hF.same (s04.trans s47),wf, .inr ⟨od,s47.get (s4.get eo3)⟩,λ z mz=>⟨((stO z mz).1.same s4).same s47,((stO z mz).2.same s4).same s47⟩,hnd,λ z mz y my=> ?_,hF4 s47,?_,hD,fk6.2.1.same s7,⟨k,hk⟩,⟨t0,t1,eta,l0,l1⟩,λ r H8 v0 v1 s8 er=> ?_⟩
 .obtain ⟨w,mw,rfl⟩:=Zb.mp my;obtain ⟨ws,mws,mw⟩:=hgetD mw;exact ⟨⟨_,hlk ws mws w mw⟩,hs1 ws mws w mw⟩
 .have:=cZ (l:=fz.map (·.2.1)) (m:=gz.map (·.2.1)) hF3.n λ x mx=>by
   obtain ⟨g,mg,rfl⟩:=Zb.mp mx;rcases hD.s g.2.1 g.2.2.2 (.inl ⟨g,mg,rfl,rfl⟩) with h | ⟨_,_,_,h,_⟩
   .exact h.1.1
   .exact h.1
  rw [Qr,Qr] at this;rfl'
 symm;refine dX (s8.get (s7.get h1)) ?_;symm;refine BZ (ss:=[v0,v1]) (SqT.of er) (by simp) λ m1 mm1=> ?_
 symm;refine BZ (ss:=[v0,v1]) (SqT.of er) (by simp) λ m2 mm2=> ?_
 symm;intro p hp;refine qs p _ u.2.1 m1 m2 (((s04.trans s47).trans s8).new hp) aa ⟨_,hkm _ h2,k,hk,ek⟩ λ z mz k' hk'=> ?_
 rw [<- ekz] at mz;obtain ⟨y,my,rfl⟩:=Zb.mp mz;obtain ⟨u',mu',e'⟩:=hall y my k' hk';have:=hmin _ (Zb.mpr ⟨u',mu',rfl⟩);have h9:(u.2.1:Int)<=(u'.2.1:Int):=this;rfl'
inductive sp_f31 (K:W.Frag) (vs:List V) (H:Hp) (Q:VK) (E:XK):Prop
 | mk (f ha:Addr) (h:Nat) (ls:List (Str×List Nat)) (ds:List (List (Str×Int))) (es:List Int) (h0:vs=[.ref f, .ref ha]) (h1:FnF K H f h ls) (h2:Fo.Wf h ls) (h3:HsG K H ha ds es) (h4:Ov ls ds) (h5: ∀N (S:List Sd) (fz:List Fq),(bR (ds.map (aV ls)) N).length<=N->(∀x,x∈S↔Mm.Rch (uN (ds.map (aV ls)) N) (Cr (ds.map (aV ls))) x)->(fz.map (·.2.1)).Nodup->Dj (Hw es S) (CK (J2 ls (ds.map (aV ls))) S) (gA fz) (λ _ _=>False)->((∀z∈lZ (ds.map (aV ls)) (bR (ds.map (aV ls)) N),∀k,¬gA fz (jF z) k)-> ∀H',Same H H'->Q .non H')/\ ∀H' (L:Nat),Same H H'->(∃z∈lZ (ds.map (aV ls)) (bR (ds.map (aV ls)) N),∃k,gA fz (jF z) k/\L=q9 z+k.1)->(∀z∈lZ (ds.map (aV ls)) (bR (ds.map (aV ls)) N),∀k,gA fz (jF z) k->L<=q9 z+k.1)->Q (.int (((L:Int)-1) / 2)) H'):sp_f31 K vs H Q E
def vd (K:W.Frag) (E:XK) (Eh:XK):TS:=
  (aG (aJ (aU (sp_f22 K) [] E0 (ao (aj 0) (ao (aj 1) aC))) (az 2))
  (aG (cI (aY (aH zK (aj 2) (tC V.non))) (bJ (tC V.non)) bT)
  (bJ (aH bM (aH j4 (aH (aR K) (aj 2) (tC (V.int 0))) (tC (V.int 1))) (tC (V.int 2))))))
theorem Np (h:sp_f31 K vs H Q E): ∃Eh,vd K E Eh { nx:=λ _ H'=>Q .non H',rt:=Q } (start ["font","house","told"] vs) H:=by
 obtain ⟨f,ha,h,ls,ds,es,rfl,hF,wf,hH,sz,q⟩:=h;refine ⟨E0,?_⟩;unfold vd;symm;refine ⟨f,ha,h,ls,ds,es,rfl,hF,wf,hH,sz,λ N S fz hN hS hn hD=>⟨λ h0 H1 s1=> ?_,λ r H1 L t0 t1 s1 er hex hmin=> ?_⟩⟩
 .symm;exact (q N S fz hN hS hn hD).1 h0 _ s1
 .symm;rw [Yf (show ¬V.ref r=V.non from λ z=>by cases z)];symm;refine dX er ?_;symm;exact (q N S fz hN hS hn hD).2 _ L s1 hex hmin
inductive sp_f4 (K:W.Frag) (vs:List V) (H:Hp) (Q:VK) (E:XK):Prop
 | mk (a:Addr) (ns:List Int) (k:Nat) (h0:vs=[.ref a, .int k]) (h1:SqL K H a (ns.map V.int)) (h2:Q (.int (Mm.cellAt ns k)) H):sp_f4 K vs H Q E
def Dm (K:W.Frag) (E:XK) (Eh:XK):TS:=
  (aG (cI (aY (aH K4 (aj 1) (cH (cB K) (ao (aj 0) aC)))) (bJ (aH (cA K) (aj 0) (aj 1))) bT)
  (bJ (tC (V.int 0))))
theorem Rf (h:sp_f4 K vs H Q E): ∃Eh,Dm K E Eh { nx:=λ _ H'=>Q .non H',rt:=Q } (start ["script","k"] vs) H:=by
 obtain ⟨a,ns,k,rfl,hS,q⟩:=h;refine ⟨E0,?_⟩;unfold Dm;symm;refine cG hS ?_;symm;rw [Qr];refine dW (λ c=> ?_) λ c=> ?_
 .symm;refine bU hS (aN (v:=V.int (Mm.cellAt ns k)) ?_) ?_
  .rw [Zj,Zd (by rfl'),Option.map_some,Mm.getD_some (Zd (by rfl'))]
  .exact q
 .symm;rw [Mm.getD_none (by rfl')] at q;exact q
inductive sp_f12 (K:W.Frag) (vs:List V) (H:Hp) (Q:VK) (E:XK):Prop
 | mk (i:Int) (h0:vs=[.int i]) (h1:Q (.bl true) H):sp_f12 K vs H Q E
def vf (K:W.Frag) (E:XK) (Eh:XK):TS:=
  (bJ (jA (cH (iY K) (ao (aj 0) (ao (tC (V.ty "int")) aC))) (yD (cH (iY K) (ao (aj 0) (ao (tC (V.ty "bool")) aC))))))
theorem Nq (h:sp_f12 K vs H Q E): ∃Eh,vf K E Eh { nx:=λ _ H'=>Q .non H',rt:=Q } (start ["found"] vs) H:=by
 obtain ⟨i,rfl,q⟩:=h;refine ⟨E0,?_⟩;unfold vf;symm;refine ⟨_,_,_,_,rfl, .int i,rfl,?_⟩;symm;refine ⟨_,_,_,_,rfl, .int i,rfl,?_⟩;symm;exact q
theorem Nr: ∀c∈Hs.Hk.cps.toList,Hs.Sg (tx [c]):=λ c mc=>by
 obtain ⟨k,hk,rfl⟩:=List.mem_iff_getElem.mp mc;have hl:Hs.Hk.cps.toList.length=94:=by ac_nf
 refine ⟨(k:Int),?_⟩;unfold Hs.T7;rw [show ((k:Int)%94).toNat=k by rfl',Zn,Zd hk];rfl
theorem Hz {fs:List Nat} (hj:j<cs.length) (h:(fs++cs).Nodup):((fs++[cs[j]])++(cs.take j++cs.drop (j+1))).Nodup:=by
 have e:cs=cs.take j++cs[j]::cs.drop (j+1):=by rw [<- Xp hj,Wy]
 have p:((fs++[cs[j]])++(cs.take j++cs.drop (j+1))).Perm (fs++cs):=by
  rw [Yk];refine List.Perm.append_left _ ?_
  conv=>rhs;rw [e]
  exact (List.perm_middle (a:=cs[j]) (l₁:=cs.take j) (l₂:=cs.drop (j+1))).symm
 exact p.nodup_iff.mpr h
theorem HB {fs:List Nat} (hj:j<cs.length):((fs++[cs[j]])++(cs.take j++cs.drop (j+1))).Perm (fs++cs):=by
 have e:cs=cs.take j++cs[j]::cs.drop (j+1):=by rw [<- Xp hj,Wy]
 rw [Yk];refine List.Perm.append_left _ ?_
 conv=>rhs;rw [e]
 exact (List.perm_middle (a:=cs[j]) (l₁:=cs.take j) (l₂:=cs.drop (j+1))).symm
inductive sp_f13 (K:W.Frag) (vs:List V) (H:Hp) (Q:VK) (E:XK):Prop
 | mk (c:Int) (n:Nat) (h0:vs=[.int c, .int (n:Nat)]) (h1:PySem.Builtin.Int.intBits c<=2^20) (h2:n<=94) (h3: ∀p H' (ss:List Str),Same H H'->H p=none->H' p=some (.lst (ss.map V.str))->ss.length=n->ss.Nodup->(∀s∈ss,Hs.Sg s)->Q (.ref p) H'):sp_f13 K vs H Q E
abbrev Do (K:W.Frag):TS:=
  (aG (aJ (aH bM (aj 3) (cH (cB K) (ao (aj 2) aC))) (az 3))
  (aG (dF (qz K "list" cu (aj 4) (ao (aH JF (aj 2) (aj 6)) aC)))
  (aJ (aH d9 (vJ FJ (aj 2) cJ (dM (aj 6))) (vJ FJ (aj 2) (dM (aH cC (aj 6) (tC (V.int 1)))) cJ)) (az 2))))
abbrev Dq (K:W.Frag):TS:=
  (aG (cI (aY (aH qw (aH bN (aj 0) (tC (V.int 2))) (tC (V.int 1)))) (aJ (aH cC (aH p7 (aj 3) (aH Io (tC (V.int 48271)) (tC (V.int 32)))) (tC (V.int 48271))) (az 3)) bT)
  (aG (aJ (cR aC) (az 4))
  (aG (eY (iz (ao (aj 1) aC)) (az 5) (aG (aJ (aH bN (aj 3) (cH (cB K) (ao (aj 2) aC))) (az 6))
  (Do K)))
  (bJ (aj 4)))))
def vg (K:W.Frag) (E:XK) (Eh:XK):TS:=
  (aG (aJ (tC (V.str (Str.ofString " !\"#$&'()*+,-./0123456789:;<=>?@ABCDEFGHIJKLMNOPQRSTUVWXYZ[\\]^_`"))) (az 2))
  (aG (aJ (aH d9 (aj 2) (tC (V.str (Str.ofString "abcdefghijklmnopqrstuvwxyz{|}~")))) (az 2))
  (aG (aJ (aH bM (aj 0) (tC (V.int 2))) (az 3))
  (Dq K))))
theorem Nt (h:sp_f13 K vs H Q E): ∃Eh,vg K E Eh { nx:=λ _ H'=>Q .non H',rt:=Q } (start ["cell","many","some","number","found","k","at"] vs) H:=by
 obtain ⟨c,n,rfl,hb,hn,q⟩:=h;refine ⟨E0,?_⟩;unfold vg;have hl:Hs.Hk.cps.toList.length=94:=by ac_nf
 have hnd:Hs.Hk.cps.toList.Nodup:=by ac_nf
 symm;refine jo (by decide) ?_;walk_at "gj";walk_at "ns";with_reducible refine jq (λ Z' H'=>H'=H/\ ∃w:Int,Z'=[some (.int c),some (.int (n:Nat)),some (.str Hs.Hk),some (.int w),none,none,none]) ?_ ?_
 .rintro Z' _ ⟨rfl,w,rfl⟩;rename_i H;symm;intro fo hfo;have hfr: ∀p∈[fo],H p=none:=λ p hp=>by rw [Za.mp hp];exact hfo
  symm;refine rQ n (Yh _) (by rfl') (by rfl') (λ i Z H'=>Sb [fo] H H'/\ ∃ (fs cs:List Nat) (w:Int) (o5 o6:Option V),H' fo=some (.lst (fs.map λ c=>V.str (tx [c])))/\fs.length=i/\cs.length+i=94/\(fs++cs).Nodup/\(∀c∈fs++cs,Hs.Sg (tx [c]))/\Z=[some (.int c),some (.int (n:Nat)),some (.str (tx cs)),some (.int w),some (.ref fo),o5,o6]) ⟨Sb.of (aB hfo _),[],Hs.Hk.cps.toList,w,_,_,aa,rfl,hl,hnd,Nr,rfl⟩ ?_ ?_
  .rintro i Z H' hi ⟨sb,fs,cs,w,o5,o6,efo,hfl,hcl,hnd',hsg,rfl⟩;have hcp:0<cs.length:=by rfl'
   obtain ⟨j,ej,hj⟩:=Mm.jc w cs.length hcp;symm;refine Br (by rw [gf];rfl') ?_;rw [gf];refine BJ hcp ej ?_;symm;refine Br (by rw [gf];rfl') ?_;rw [gf];symm;walk_at "ns";refine dO (SqL.of efo) ?_;symm;refine QL (c:=cs[j]) (by rw [gf];rfl') (aN (Zd hj)) ?_;symm;refine fD efo (by rw [Qr];rfl') ?_;symm;walk_at "ns";refine IV (by rw [gf];rfl') ?_;rw [QR (Xw hj)];symm;refine IV (by rw [gf];rfl') ?_;rw [show (j:Int)+1=((j+1:Nat):Int) by rfl',Hd hj];symm;refine jo (by rw [gf,gf,Yd,Yx];rfl') ?_;symm;walk_at "ns";refine ⟨sb.set (by simp),fs++[cs[j]],cs.take j++cs.drop (j+1),_,_,_,by rw [aa,Zh];rfl,by simp [hfl],by rw [Zg,Yd,Yx];rfl',Hz hj hnd',λ x mx=>hsg x ?_,by rw [<- Lw]⟩;exact (HB (fs:=fs) hj).mem_iff.mp mx
  .rintro Z H' ⟨sb,fs,cs,w,o5,o6,efo,hfl,hcl,hnd',hsg,rfl⟩;symm;refine q fo H' (fs.map λ c=>tx [c]) (sb.off hfr) hfo (by rw [efo,Zq];rfl) (by rw [Qr];exact hfl) ?_ λ s ms=> ?_
   .exact List.pairwise_map.mpr ((Xc.mp hnd').1.imp λ h e=>h (by have:=Lx.mp e;simpa using this))
   .obtain ⟨c',mc,rfl⟩:=Zb.mp ms;exact hsg c' (Zz _ mc)
 .intro N hN;symm;refine dW (λ d1=> ?_) λ d1=> ?_
  .symm;refine By (rZ (k:=2) (by decide) hb) (n:=1000) (by ac_nf) (by decide) ?_;symm;exact hN _ _ ⟨rfl,_,rfl⟩
  .symm;exact hN _ _ ⟨rfl,_,rfl⟩
def LtL (H:Hp) (p:Addr) (h:Nat) (zs:List (Addr×List Nat)):Prop:=H p=some (.lst (zs.map λ z=>V.ref z.1))/\ ∀z∈zs,H z.1=some (.tup (nv z.2))/\1<=z.2.length/\z.2.length<=8/\ ∀x∈z.2,x<2^h
theorem LtL.same {h:Nat} {zs:List (Addr×List Nat)} (a:LtL H p h zs) (s:Same H H'):LtL H' p h zs:=⟨s.get a.1,λ z m=>⟨s.get (a.2 z m).1,(a.2 z m).2⟩⟩
inductive sp_f3 (K:W.Frag) (vs:List V) (H:Hp) (Q:VK) (E:XK):Prop
 | mk (a:Addr) (ns:List Int) (n m h:Nat) (al:Bool) (h0:vs=[.ref a, .int (n:Nat), .int (m:Nat), .int (h:Nat), .bl al]) (h1:SqL K H a (ns.map V.int)) (h2:(∀i∈ns,PySem.Builtin.Int.intBits i<=2^20)) (h3:n<=40) (h4:(1<=m/\m<=8)) (h5:(1<=h/\h<=60)) (h6: ∀p H' (zs:List (Addr×List Nat)),Same H H'->H p=none->LtL H' p h zs->zs.length=n->Q (.ref p) H'):sp_f3 K vs H Q E
abbrev HD (K:W.Frag):TS:=
  (aG (aJ (cH (cU K) (ao (oV [none,some 9,some 3] (iz (ao (aj 8) aC)) (az 0) eZ (aH bN (aH jR (aj 1) (aH vR (tC (V.int 1)) (aH kZ (aj 2) (aj 0)))) (aH vR (tC (V.int 1)) (aj 2)))) aC)) (az 10))
  (aG (cI (jG (qK K (aj 4)) (aY (aH qw (aH bN (aj 6) (tC (V.int 2))) (tC (V.int 1))))) (aJ (aH (cA K) (aj 5) (aH j4 (aj 6) (tC (V.int 1)))) (az 10)) bT)
  (dF (qz K "list" cu (aj 5) (ao (aj 10) aC)))))
abbrev HF (K:W.Frag):TS:=
  (aG (aJ (aH cC (tC (V.int 1)) (aH bN (aj 7) (aj 2))) (az 8))
  (aG (aJ (aH bN (aH p7 (aH cC (aH bM (aj 7) (aj 2)) (aj 6)) (aH Io (tC (V.int 48271)) (tC (V.int 32)))) (aH vR (tC (V.int 1)) (aH kZ (aj 3) (aj 8)))) (az 9))
  (HD K)))
def Dr (K:W.Frag) (E:XK) (Eh:XK):TS:=
  (aG (aJ (cR aC) (az 5))
  (aG (eY (iz (ao (aj 1) aC)) (az 6) (aG (aJ (aU (sp_f4 K) [] E0 (ao (aj 0) (ao (aH cC (tC (V.int 5)) (aj 6)) aC))) (az 7))
  (HF K)))
  (bJ (aj 5))))
theorem Rg (h:sp_f3 K vs H Q E): ∃Eh,Dr K E Eh { nx:=λ _ H'=>Q .non H',rt:=Q } (start ["script","many","most","height","alike","letters","k","cell","wide","number","columns"] vs) H:=by
 obtain ⟨a,ns,n,m,h,al,rfl,hS,hb,hn,⟨hm1,hm2⟩,⟨hh1,hh2⟩,q⟩:=h;refine ⟨E0,?_⟩;unfold Dr;symm;intro p hp;have hfr: ∀p'∈[p],H p'=none:=λ p' hp'=>by rw [Za.mp hp'];exact hp
 symm;refine rQ n (Yh _) (by rfl') (by rfl') (λ i Z H'=> ∃zs:List (Addr×List Nat),zs.length=i/\Sb [p] H H'/\LtL H' p h zs/\ ∃o1 o2 o3 o4 o5,Z=[some (.ref a),some (.int (n:Nat)),some (.int (m:Nat)),some (.int (h:Nat)),some (.bl al),some (.ref p),o1,o2,o3,o4,o5]) ⟨[],rfl,Sb.of (aB hp _),⟨aa,by simp⟩,_,_,_,_,_,rfl⟩ ?_ ?_
 .rintro i Z H' hi ⟨zs,hzl,sb,hL,o1,o2,o3,o4,o5,rfl⟩;have hcb:PySem.Builtin.Int.intBits (Mm.cellAt ns (5+i))<=2^20:=by
   by_cases c:5+i<ns.length
   .rw [Mm.getD_some (Zd c)];exact hb _ (Yy c)
   .rw [Mm.getD_none (by rfl')];decide
  symm;rw [show (5:Int)+(i:Int)=((5+i:Nat):Int) by rfl'];refine ⟨a,ns,5+i,rfl,sb.seq hfr hS,?_⟩;generalize Mm.cellAt ns (5+i)=cell at hcb;obtain ⟨w,ew,hw⟩:=Mm.jc cell m (by rfl');symm;rw [ew,show 1+(w:Int)=((1+w:Nat):Int) by rfl'];walk_at "ns";refine By (PyProof.Rows.bits_add (rZ (by rfl') hcb) (n:=2^20) (uA (by rfl'))) (n:=1000) (by ac_nf) (by decide) ?_;symm;obtain ⟨ex,hex⟩: ∃ex:Nat,ex=h*(1+w):=⟨_,rfl⟩;have hex2:ex<=480:=by rw [hex];exact Yg (Nat.mul_le_mul hh2 (show 1+w<=8 by rfl')) (by decide)
  rw [show (h:Int)*((1+w:Nat):Int)=(ex:Int) by rw [hex,Int.natCast_mul]];clear hex;symm;walk_at "ns";generalize (cell / ↑m+ ↑i)*48271^Int.toNat 32%(1*2^(ex:Int).toNat)=num;have hpw:(0:Int)<2^h:=Int.pow_pos (by decide);have hlt: ∀y:Int,(y%2^h).toNat<2^h:=λ y=>by
   have h0:=Int.emod_nonneg y (Int.ne_of_gt hpw);have h1:=Int.emod_lt_of_pos y hpw;rw [<- Bx.zB] at h0 h1 ⊢;rfl'
  refine QJ (1+w) (Yh _) (by rfl') (by rfl') (λ j=>V.int (((num / 2^(h*j))%2^h).toNat:Nat)) (λ j hj A kA=> ?_) λ pl hpl=> ?_
  .symm;obtain ⟨ex,hex⟩: ∃ex:Nat,ex=h*j:=⟨_,rfl⟩;have hex2:ex<=480:=by rw [hex];exact Yg (Nat.mul_le_mul hh2 (show j<=8 by rfl')) (by decide)
   rw [show (h:Int)*(j:Int)=(ex:Int) by rw [hex,Int.natCast_mul]];rw [<- hex] at kA;clear hex;symm;refine wD (by rfl') ?_;symm;rw [Int.one_mul,Yh];rw [show ((num / 2^ex%2^h).toNat:Int)=num / 2^ex%2^h from Int.toNat_of_nonneg (Int.emod_nonneg _ (Int.ne_of_gt hpw))] at kA;exact kA
  symm;refine gh (SqL.of aa) λ ca hca=> ?_
  walk_at "gj";walk_at "ns";have S1:Same H' (upd (upd H' pl (HO.lst ((List.range (1+w)).map λ j=>V.int (((num / 2^(h*j))%2^h).toNat:Nat)))) ca (HO.tup ((List.range (1+w)).map λ j=>V.int (((num / 2^(h*j))%2^h).toNat:Nat)))):=(aB hpl _).new hca;with_reducible refine jq (λ Z' H2=>Same H' H2/\ ∃ (cb:Addr) (co:List Nat),H2 cb=some (.tup (nv co))/\(1<=co.length/\co.length<=8/\ ∀x∈co,x<2^h)/\Z'=[some (.ref a),some (.int (n:Nat)),some (.int (m:Nat)),some (.int (h:Nat)),some (.bl al),some (.ref p),some (.int (i:Nat)),some (.int cell),some (.int ((1+w:Nat):Int)),some (.int num),some (.ref cb)]) ?_ ?_
  .rintro Z' H2 ⟨s2,cb,co,ecb,hco,rfl⟩;have L2:=hL.same s2;symm;refine dO (SqL.of L2.1) ?_;symm;refine fD L2.1 (by rw [Qr];rfl') ?_;symm;refine ⟨zs++[(cb,co)],by simp [hzl],(sb.same s2).set (by simp),⟨by rw [aa,Zh];rfl,λ z mz=> ?_⟩,_,_,_,_,_,rfl⟩;rcases Zi.mp mz with mz | mz
   .exact ⟨by rw [au (bx (L2.2 z mz).1 L2.1 (by intro q;cases q))];exact (L2.2 z mz).1,(L2.2 z mz).2⟩
   .rw [Za.mp mz];exact ⟨by rw [au (bx ecb L2.1 (by intro q;cases q))];exact ecb,hco⟩
  .intro N hN;have keep:=hN [some (.ref a),some (.int (n:Nat)),some (.int (m:Nat)),some (.int (h:Nat)),some (.bl al),some (.ref p),some (.int (i:Nat)),some (.int cell),some (.int ((1+w:Nat):Int)),some (.int num),some (.ref ca)] _ ⟨S1,ca,(List.range (1+w)).map λ j=>((num / 2^(h*j))%2^h).toNat,by rw [aa,nv,Zq];rfl,⟨by simp,by simp;rfl',λ x mx=>by obtain ⟨j,_,rfl⟩:=Zb.mp mx;exact hlt _⟩,rfl⟩
   cases al with
   | false=>
    symm;exact keep
   | true=>
    symm;refine dW (λ d=> ?_) λ d=> ?_
    .obtain ⟨j,rfl⟩: ∃j,i=j+1:=⟨i-1,by rfl'⟩;obtain ⟨z,hz⟩: ∃z,zs[j]? =some z:=⟨_,Zd (by rfl')⟩;symm;rw [show ((j+1:Nat):Int)-1=(j:Int) by rfl'];refine bU (SqL.of (S1.get hL.1)) (aN (j:=j) (v:= .ref z.1) (by rw [Zj,hz];rfl)) ?_;symm;obtain ⟨z1,z2⟩:=hL.2 z (Ze hz);exact hN _ _ ⟨S1,z.1,z.2,S1.get z1,z2,rfl⟩
    .symm;exact keep
 .rintro Z H' ⟨zs,hzl,sb,hL,o1,o2,o3,o4,o5,rfl⟩;symm;exact q p H' zs (sb.off hfr) hp hL hzl
theorem wN {K:W.Frag} {a:Addr} {xs:List V} {i:Int} (e:SqL K H a xs) (h0:0<=i) (h1:i<(xs.length:Int)) (h: ∀v∈xs,Q v H):cA K (.ref a) (.int i) H Q:=by
 obtain ⟨v,mv,ev⟩:=Hg h0 h1;exact bU e ev (h v mv)
def Rh (kd rm my ms ht:Nat):Prop:=kd<=3/\(1<=rm/\rm<=40)/\(1<=my/\my<=16)/\(1<=ms/\ms<=8)/\(1<=ht/\ht<=60)/\(rm<=8\/my<=2)
inductive sp_f14 (K:W.Frag) (vs:List V) (H:Hp) (Q:VK) (E:XK):Prop
 | mk (a:Addr) (ns:List Int) (h0:vs=[.ref a]) (h1:SqL K H a (ns.map V.int)) (h2: ∀r H' (kd rm my ms ht:Nat),Same H H'->H' r=some (.tup [.int (kd:Nat), .int (rm:Nat), .int (my:Nat), .int (ms:Nat), .int (ht:Nat)])->Rh kd rm my ms ht->Q (.ref r) H'):sp_f14 K vs H Q E
abbrev Ds:TS:=
  (aG (aJ (aH cC (tC (V.int 5)) (aH bN (aH bM (aj 1) (tC (V.int 1296))) (tC (V.int 2)))) (az 4))
  (aG (aJ (cH jl (ao (aj 6) (ao (tC (V.int 8)) aC))) (az 6))
  (bJ (cO (ao (aj 2) (ao (aj 3) (ao (aj 4) (ao (aj 7) (ao (aj 6) aC)))))))))
abbrev Dt (K:W.Frag):TS:=
  (aG (aJ (aH cC (tC (V.int 4)) (aH bN (aH bM (aj 1) (tC (V.int 24))) (aH (cA K) (cR (ao (tC (V.int 9)) (ao (tC (V.int 5)) (ao (tC (V.int 30)) aC)))) (aH cC (aH j4 (aj 2) (tC (V.int 2))) (cH Ir (ao (jA (aH jK (aj 2) (tC (V.int 2))) (aH qw (aj 7) (tC (V.int 1)))) aC)))))) (az 3))
  (cI (jG (aY (aH qw (aj 2) (tC (V.int 2)))) (aY (aH qw (aH bN (aH bM (aj 1) (tC (V.int 216))) (tC (V.int 2))) (tC (V.int 1))))) (aG (aJ (aH cC (tC (V.int 6)) (aH bN (aH bM (aj 1) (tC (V.int 432))) (tC (V.int 3)))) (az 3))
  (Ds)) bT))
abbrev Du:TS:=
  (aG (eF (jG (aY (aH jK (aj 4) (tC (V.int 2)))) (aY (aH jK (aH kZ (aH kZ (aH kZ (aj 3) (aj 3)) (aH cC (tC (V.int 1)) (aH kZ (aj 4) (aj 7)))) (aj 4)) (tC (V.int 400))))) (aJ (aH j4 (aj 4) (tC (V.int 1))) (az 4)))
  (bJ (cO (ao (aj 2) (ao (aj 3) (ao (aj 4) (ao (aj 7) (ao (aj 6) aC))))))))
abbrev Dv (K:W.Frag):TS:=
  (aG (cI (jG (aY (aH jK (aj 2) (tC (V.int 1)))) (aY (aH qw (aH bN (aH bM (aj 1) (tC (V.int 12))) (tC (V.int 2))) (tC (V.int 1))))) (aG (aJ (tC (V.int 2)) (az 4))
  (aG (aJ (cH jl (ao (aj 7) (ao (aH j4 (aj 2) (tC (V.int 1))) aC))) (az 7))
  (Dt K))) bT)
  (Du))
abbrev Dw (K:W.Frag):TS:=
  (aG (aJ (cH jl (ao (aH (cA K) (cR (ao (tC (V.int 1)) (ao (tC (V.int 2)) (ao (tC (V.int 3)) (ao (tC (V.int 5)) (ao (tC (V.int 8)) aC)))))) (aH bN (aU (sp_f4 K) [] E0 (ao (aj 0) (ao (tC (V.int 2)) aC))) (tC (V.int 5)))) (ao (aH bM (tC (V.int 80)) (aj 6)) aC))) (az 7))
  (Dv K))
abbrev Dy (K:W.Frag):TS:=
  (aG (aJ (aU (sp_f4 K) [] E0 (ao (aj 0) (ao (tC (V.int 4)) aC))) (az 5))
  (aG (aJ (aH cC (tC (V.int 1)) (aH bN (aH bM (aj 5) (tC (V.int 4))) (aH (cA K) (cR (ao (tC (V.int 5)) (ao (tC (V.int 7)) (ao (tC (V.int 16)) (ao (tC (V.int 60)) aC))))) (aH bN (aj 5) (tC (V.int 4)))))) (az 6))
  (Dw K)))
abbrev DG (K:W.Frag):TS:=
  (aG (aJ (aH cC (tC (V.int 1)) (aH bN (aH bM (aj 1) (tC (V.int 4))) (tC (V.int 3)))) (az 3))
  (aG (aJ (aH cC (tC (V.int 1)) (aH bN (aU (sp_f4 K) [] E0 (ao (aj 0) (ao (tC (V.int 1)) aC))) (tC (V.int 16)))) (az 4))
  (Dy K)))
def vh (K:W.Frag) (E:XK) (Eh:XK):TS:=
  (aG (aJ (aU (sp_f4 K) [] E0 (ao (aj 0) (ao (tC (V.int 0)) aC))) (az 1))
  (aG (aJ (aH bN (aj 1) (tC (V.int 4))) (az 2))
  (DG K)))
theorem Nu (h:sp_f14 K vs H Q E): ∃Eh,vh K E Eh { nx:=λ _ H'=>Q .non H',rt:=Q } (start ["script","head","kind","rooms","many","tall","height","most"] vs) H:=by
 obtain ⟨a,ns,rfl,hS,q⟩:=h;refine ⟨E0,?_⟩;unfold vh;have md: ∀ (x:Int) (v:Int),0<v-> ∃k:Nat,x%v=(k:Int)/\(k:Int)<v:=λ x v h0=>by
  have h1:=Int.emod_nonneg x (Int.ne_of_gt h0);have h2:=Int.emod_lt_of_pos x h0;exact ⟨(x%v).toNat,by rfl',by rfl'⟩
 symm;refine ⟨a,ns,0,rfl,hS,?_⟩;symm;generalize Mm.cellAt ns 0=head;obtain ⟨kd,ekd,hkd⟩:=md head 4 (by decide);obtain ⟨rm,erm,hrm⟩:=md (head / 4) 3 (by decide);rw [ekd,erm];refine ⟨a,ns,1,rfl,hS,?_⟩;symm;obtain ⟨my,emy,hmy⟩:=md (Mm.cellAt ns 1) 16 (by decide);rw [emy];refine ⟨a,ns,4,rfl,hS,?_⟩;symm;generalize Mm.cellAt ns 4=tall;intro p1 hp1;symm;refine wN (SqL.of aa) (Int.emod_nonneg _ (by decide)) (by show tall%4<4;exact Int.emod_lt_of_pos _ (by decide)) λ v mv=> ?_
 obtain ⟨vi,rfl,hvi⟩: ∃vi:Int,v= .int vi/\(0<vi/\vi<=60):=by
  simp only [Zm,Yq,Xz] at mv;rcases mv with rfl | rfl | rfl | rfl<;>exact ⟨_,rfl,by decide⟩
 obtain ⟨ht,eht,hht⟩:=md (tall / 4) vi hvi.1;symm;rw [eht,show 1+(ht:Int)=((1+ht:Nat):Int) by rfl'];have S1:Same H (upd H p1 (HO.lst [V.int 5,V.int 7,V.int 16,V.int 60])):=aB hp1 _;generalize upd H p1 (HO.lst [V.int 5,V.int 7,V.int 16,V.int 60])=H1 at S1;walk_at "ns";intro p2 hp2;symm;refine ⟨a,ns,2,rfl,(S1.new hp2).seq hS,?_⟩;symm;generalize Mm.cellAt ns 2=mc;refine wN (SqL.of aa) (Int.emod_nonneg _ (by decide)) (by show mc%5<5;exact Int.emod_lt_of_pos _ (by decide)) λ v mv=> ?_
 obtain ⟨vj,rfl,hvj⟩: ∃vi:Int,v= .int vi/\(1<=vi/\vi<=8):=by
  simp only [Zm,Yq,Xz] at mv;rcases mv with rfl | rfl | rfl | rfl | rfl<;>exact ⟨_,rfl,by decide⟩
 have hd1:1<=(80:Int) / ((1+ht:Nat):Int):=Int.le_ediv_of_mul_le (by rfl') (by rfl');walk_at "gj";generalize (80:Int) / ((1+ht:Nat):Int)=dv at hd1 ⊢;have S2:Same H (upd H1 p2 (HO.lst [V.int 1,V.int 2,V.int 3,V.int 5,V.int 8])):=S1.new hp2;generalize upd H1 p2 (HO.lst [V.int 1,V.int 2,V.int 3,V.int 5,V.int 8])=H2 at S2;obtain ⟨ms,ems,hms1,hms2⟩: ∃ms:Nat,(if dv<vj then dv else vj)=(ms:Int)/\1<=ms/\ms<=8:=⟨(if dv<vj then dv else vj).toNat,by split<;>rfl',by split<;>rfl',by split<;>rfl'⟩;rw [ems];walk_at "ns";with_reducible refine jq (λ Z' H'=>Same H H'/\ ∃rm my ms ht:Nat,Rh kd rm my ms ht/\Z'=[some (.ref a),some (.int head),some (.int (kd:Nat)),some (.int (rm:Nat)),some (.int (my:Nat)),some (.int tall),some (.int (ht:Nat)),some (.int (ms:Nat))]) ?_ ?_
 .rintro Z' H' ⟨S',rm,my,ms,ht,hO,rfl⟩;symm;refine jV (λ Z H1=>H1=H'/\ ∃my:Nat,Rh kd rm my ms ht/\Z=[some (.ref a),some (.int head),some (.int (kd:Nat)),some (.int (rm:Nat)),some (.int (my:Nat)),some (.int tall),some (.int (ht:Nat)),some (.int (ms:Nat))]) (λ Z _=>match Z with | [_,_,_,_,some (.int k),_,_,_]=>k.toNat | _=>0) ⟨rfl,my,hO,rfl⟩ ?_ ?_
  .rintro Z _ ⟨rfl,my,hO,rfl⟩;rename_i H';obtain ⟨h1,h2,h3,h4,h5,h6⟩:=id hO;symm;refine dW (λ c1=> ?_) λ c1=> ?_
   .symm;have m2:(my:Int)*(ms:Int)<=128:=by have:=Nat.mul_le_mul h3.2 h4.2;rw [<- Int.natCast_mul];rfl'
    have m3:0<=(my:Int)*(ms:Int):=by rw [<- Int.natCast_mul];rfl'
    refine ⟨_,_,rfl,rfl, .inr ⟨by rfl',by rfl'⟩,?_⟩;symm;refine dW (λ c2=> ?_) λ c2=> ?_
    .symm;refine ⟨⟨rfl,my-1,⟨h1,h2,⟨by rfl',by rfl'⟩,h4,h5, .inl (by rfl')⟩,by rw [show ((my-1:Nat):Int)=(my:Int)-1 by rfl'];rfl⟩,?_⟩;show ((my:Int)-1).toNat<((my:Int)).toNat;rfl'
    .symm;intro r hr;exact q r _ kd rm my ms ht (S'.new hr) aa hO
   .symm;intro r hr;exact q r _ kd rm my ms ht (S'.new hr) aa hO
  .exact Mp (pP (jE (uC _) (jt _) (Mj _))) (pP (jE (uC _) (jE (wF _ _) (jE (wF _ _) (jE (wF _ _) (jt _) (jt _)) (jE (uC _) (Mj _) (jE (wF _ _) (jt _) (jt _)))) (jt _)) (Mj _)))
 .intro N hN;symm;refine GC (λ c1=> ?_) λ c1=> ?_
  .rw [Xo,decide_eq_true_eq,decide_eq_true_eq] at c1;obtain ⟨m7,em7,hm7,hm8⟩: ∃m7:Nat,(if (kd:Int)-1<(ms:Int) then (kd:Int)-1 else (ms:Int))=(m7:Int)/\1<=m7/\m7<=8:=⟨(if (kd:Int)-1<(ms:Int) then (kd:Int)-1 else (ms:Int)).toNat,by split<;>rfl',by split<;>rfl',by split<;>rfl'⟩;symm;rw [em7];walk_at "ns";intro p3 hp3;have S3:Same H (upd H2 p3 (HO.lst [V.int 9,V.int 5,V.int 30])):=S2.new hp3;symm;refine Lr ?_;obtain ⟨ix,eix,hix⟩: ∃ix:Int,((kd:Int)-2+if (decide (2<(kd:Int))&&decide ((m7:Int)=1))=true then 1 else 0)=ix/\0<=ix/\ix<3:=⟨_,rfl,by split<;>rfl',by split<;>rfl'⟩;symm;rw [eix];refine wN (SqL.of aa) hix.1 (by show ix<3;exact hix.2) λ v mv=> ?_
   obtain ⟨vk,rfl,hvk⟩: ∃vi:Int,v= .int vi/\(0<vi/\vi<=30):=by
    simp only [Zm,Yq,Xz] at mv;rcases mv with rfl | rfl | rfl<;>exact ⟨_,rfl,by decide⟩
   obtain ⟨k3,ek3,hk3⟩:=md (head / 24) vk hvk.1;generalize upd H2 p3 (HO.lst [V.int 9,V.int 5,V.int 30])=H3 at S3 ⊢;symm;rw [ek3];refine GC (λ c2=> ?_) λ c2=> ?_
   .symm;obtain ⟨k4,ek4,hk4⟩:=md (head / 432) 3 (by decide);obtain ⟨k5,ek5,hk5⟩:=md (head / 1296) 2 (by decide);obtain ⟨h9,eh9,h91,h92⟩: ∃h9:Nat,(if (8:Int)<((1+ht:Nat):Int) then (8:Int) else ((1+ht:Nat):Int))=(h9:Int)/\1<=h9/\h9<=8:=⟨(if (8:Int)<((1+ht:Nat):Int) then (8:Int) else ((1+ht:Nat):Int)).toNat,by split<;>rfl',by split<;>rfl',by split<;>rfl'⟩;rw [ek4,ek5,eh9,show 6+(k4:Int)=((6+k4:Nat):Int) by rfl',show 5+(k5:Int)=((5+k5:Nat):Int) by rfl'];intro r hr;exact q r _ kd (6+k4) (5+k5) m7 h9 (S3.new hr) aa ⟨by rfl',⟨by rfl',by rfl'⟩,⟨by rfl',by rfl'⟩,⟨by rfl',by rfl'⟩,⟨by rfl',by rfl'⟩, .inl (by rfl')⟩
   .symm;rw [show 4+(k3:Int)=((4+k3:Nat):Int) by rfl'];exact hN _ _ ⟨S3,4+k3,2,m7,1+ht,⟨by rfl',⟨by rfl',by rfl'⟩,⟨by rfl',by rfl'⟩,⟨by rfl',by rfl'⟩,⟨by rfl',by rfl'⟩, .inr (by rfl')⟩,rfl⟩
  .symm;rw [show 1+(rm:Int)=((1+rm:Nat):Int) by rfl',show 1+(my:Int)=((1+my:Nat):Int) by rfl'];exact hN _ _ ⟨S2,1+rm,1+my,ms,1+ht,⟨by rfl',⟨by rfl',by rfl'⟩,⟨by rfl',by rfl'⟩,⟨hms1,hms2⟩,⟨by rfl',by rfl'⟩, .inl (by rfl')⟩,rfl⟩
inductive sp_f15 (K:W.Frag) (vs:List V) (H:Hp) (Q:VK) (E:XK):Prop
 | mk (a sh sg:Addr) (ns:List Int) (kd rm my ms ht:Nat) (ss:List Str) (h0:vs=[.ref a, .ref sh, .ref sg]) (h1:SqL K H a (ns.map V.int)) (h2:(∀i∈ns,PySem.Builtin.Int.intBits i<=2^20)) (h3:H sh=some (.tup [.int (kd:Nat), .int (rm:Nat), .int (my:Nat), .int (ms:Nat), .int (ht:Nat)])) (h4:Rh kd rm my ms ht) (h5:SqL K H sg (ss.map V.str)) (h6:ss.length=my+2) (h7:ss.Nodup) (h8:(∀s∈ss,Hs.Sg s)) (h9: ∀f H' ls,Same H H'->FnF K H' f ht ls->Fo.Wf ht ls->ls.length=my->Q (.ref f) H'):sp_f15 K vs H Q E
abbrev DK (K:W.Frag):TS:=
  (aG (aJ (aU (sp_f3 K) [] E0 (ao (aj 0) (ao (aH (aR K) (aj 1) (tC (V.int 2))) (ao (aH (aR K) (aj 1) (tC (V.int 3))) (ao (aH (aR K) (aj 1) (tC (V.int 4))) (ao (aj 3) aC)))))) (az 4))
  (bJ (cO (ao (aH (aR K) (aj 1) (tC (V.int 4))) (ao (cH (vV K) (ao (cH (fY K) (ao (oV [none,some 2,some 4] (iz (ao (aH (aR K) (aj 1) (tC (V.int 2))) aC)) (az 0) eZ (cO (ao (aH (cA K) (aj 1) (aj 0)) (ao (aH (cA K) (aj 2) (aj 0)) aC)))) aC)) aC)) aC)))))
def vm (K:W.Frag) (E:XK) (Eh:XK):TS:=
  (aG (aJ (aH qw (aH bN (aH bM (aU (sp_f4 K) [] E0 (ao (aj 0) (ao (tC (V.int 2)) aC))) (tC (V.int 5))) (tC (V.int 5))) (tC (V.int 1))) (az 3))
  (DK K))
theorem Nv (h:sp_f15 K vs H Q E): ∃Eh,vm K E Eh { nx:=λ _ H'=>Q .non H',rt:=Q } (start ["script","shape","signs","alike","letters"] vs) H:=by
 obtain ⟨a,sh,sg,ns,kd,rm,my,ms,h,ss,rfl,hS,hb,esh,hO,hG,hsl,hnd,hsg,q⟩:=h;refine ⟨E0,?_⟩;unfold vm;obtain ⟨o1,o2,o3,o4,o5,o6⟩:=id hO;symm;refine ⟨a,ns,2,rfl,hS,?_⟩;symm;refine iw esh ?_;symm;refine eV (SqT.of esh) (aN (j:=3) (v:= .int (ms:Nat)) rfl) ?_;symm;refine eV (SqT.of esh) (aN (j:=4) (v:= .int (h:Nat)) rfl) ?_;symm;refine ⟨a,ns,my,ms,h,_,rfl,hS,hb,by rfl',o4,o5,λ lp H3 zs s3 hlp hL hzl=> ?_⟩;symm;refine eV (SqT.of (s3.get esh)) (aN (j:=4) (v:= .int (h:Nat)) rfl) ?_;symm;refine iw (s3.get esh) ?_;symm;walk_at "ns";refine Ln my (Yh _) (by rfl') (by rfl') (λ k ys H'=>Same H3 H'/\ ∃us:List Lz,ys=us.map (λ z:Lz=>V.ref z.1)/\us.map (λ z:Lz=>z.2.1)=ss.take k/\ ∀z∈us,H' z.1=some (.tup [.str z.2.1, .ref z.2.2.1])/\H' z.2.2.1=some (.tup (nv z.2.2.2))/\(1<=z.2.2.2.length/\z.2.2.2.length<=8)/\ ∀x∈z.2.2.2,x<2^h) ⟨Same.refl _,[],rfl,rfl,by simp⟩ ?_ ?_ ?_
 .rintro k ys H' ⟨_,us,rfl,eu,_⟩;have:=Yt List.length eu;rw [Qr,Yd] at this;rw [Qr];rfl'
 .rintro k ys H' hk ⟨s',us,rfl,eu,hu⟩;obtain ⟨s,hs⟩: ∃s,ss[k]? =some s:=⟨_,Zd (by rfl')⟩;obtain ⟨z,hz⟩: ∃z,zs[k]? =some z:=⟨_,Zd (by rfl')⟩;obtain ⟨w1,w2,w3,w4⟩:=hL.2 z (Ze hz);symm;refine bU (s'.seq (s3.seq hG)) (aN (j:=k) (v:= .str s) (by rw [Zj,hs];rfl)) ?_;symm;refine bU (SqL.of (s'.get hL.1)) (aN (j:=k) (v:= .ref z.1) (by rw [Zj,hz];rfl)) ?_;symm;intro tp htp;refine ⟨s'.new htp,us++[(tp,s,z.1,z.2)],by rw [Zh];rfl,by rw [Zh,eu,Ys,hs];rfl,λ y my=> ?_⟩;rcases Zi.mp my with my | my
  .exact ⟨aA htp (hu y my).1,aA htp (hu y my).2.1,(hu y my).2.2⟩
  .rw [Za.mp my];exact ⟨aa,aA htp (s'.get w1),⟨w2,w3⟩,w4⟩
 rintro ys H4 ⟨s4,us,rfl,eu,hu⟩ p hp;have hul:us.length=my:=by
  have:=Yt List.length eu;rw [Qr,Yd] at this;rfl'
 symm;refine rT (zs:=us.map λ z:Lz=>(z.1,z.2.1,[V.ref z.2.2.1])) (SqL.of (by rw [aa,Zq];rfl)) (λ z mz=> ?_) (by rw [Zq];show (us.map λ z:Lz=>z.2.1).Nodup;rw [eu];exact List.Nodup.sublist (List.take_sublist _ _) hnd) (by rw [Qr];rfl') λ r2 vs hpu hsu hr2=> ?_
 .obtain ⟨y,my,rfl⟩:=Zb.mp mz;exact SqT.of (aA hp (hu y my).1)
 obtain ⟨vs',pv,rfl⟩:=jD hpu;rw [Zq] at hsu ⊢;symm;refine M6 (SqL.of aa) λ l ob hob hl=> ?_
 symm;intro f hf;have hvl:vs'.length=my:=by rw [pv.length_eq,hul]
 have hv: ∀z∈vs',H4 z.1=some (.tup [.str z.2.1, .ref z.2.2.1])/\H4 z.2.2.1=some (.tup (nv z.2.2.2))/\(1<=z.2.2.2.length/\z.2.2.2.length<=8)/\ ∀x∈z.2.2.2,x<2^h:=λ z mz=>hu z (pv.mem_iff.mp mz)
 obtain ⟨H5,eH5⟩: ∃H5,H5=upd (upd (upd (upd H4 p (HO.lst (us.map λ z:Lz=>V.ref z.1))) r2 (HO.lst (vs'.map ((λ z:Addr×Str×List V=>V.ref z.1)∘λ z:Lz=>(z.1,z.2.1,[V.ref z.2.2.1]))))) l (HO.frz ob (HO.tup (vs'.map ((λ z:Addr×Str×List V=>V.ref z.1)∘λ z:Lz=>(z.1,z.2.1,[V.ref z.2.2.1])))))) f (HO.tup [V.int (h:Nat),V.ref l]):=⟨_,rfl⟩;have S5:Same H4 H5:=by rw [eH5];exact (((aB hp _).new hr2).new hl).new hf
 have hF:FnF K H5 f h (vs'.map λ z:Lz=>(z.2.1,z.2.2.2)):=⟨l,ob,vs',by rw [eH5];exact aa,rfl,hob,by rw [eH5];exact aA hf aa,λ z mz=>⟨S5.get (hv z mz).1,S5.get (hv z mz).2.1⟩⟩;have wf:Fo.Wf h (vs'.map λ z:Lz=>(z.2.1,z.2.2.2)):=by
  refine ⟨by rw [Qr];rfl',by rw [Qr];rfl',?_,λ y my=> ?_,λ y my=> ?_,λ y my=> ?_⟩
  .rw [Zq];exact hsu
  .obtain ⟨z,mz,rfl⟩:=Zb.mp my;have:z.2.1∈us.map (λ z:Lz=>z.2.1):=Zb.mpr ⟨z,pv.mem_iff.mp mz,rfl⟩;rw [eu] at this;exact hsg _ (List.mem_of_mem_take this)
  .obtain ⟨z,mz,rfl⟩:=Zb.mp my;exact (hv z mz).2.2.1
  .obtain ⟨z,mz,rfl⟩:=Zb.mp my;exact (hv z mz).2.2.2
 rw [<- eH5];exact q f H5 _ ((s3.trans s4).trans S5) hF wf (by rw [Qr];exact hvl)
def RwJ (many:Nat) (ss:List Str) (r:List Dz):Prop:=(r.map (·.2.1)).Nodup/\ ∀z∈r,z.2.1∈ss/\0<=z.2.2/\z.2.2<many
theorem RwJ.len {many:Nat} {ss:List Str} {r:List Dz} (h:RwJ many ss r):r.length<=ss.length:=by
 have:=cZ (l:=r.map (·.2.1)) (m:=ss) h.1 λ x mx=>by
  obtain ⟨z,mz,rfl⟩:=Zb.mp mx;exact (h.2 z mz).1
 rw [Qr] at this;exact this
inductive sp_f8 (K:W.Frag) (vs:List V) (H:Hp) (Q:VK) (E:XK):Prop
 | mk (a sg:Addr) (cs:List Int) (many:Nat) (ss:List Str) (h0:vs=[.ref a, .int many, .ref sg]) (h1:SqL K H a (cs.map V.int)) (h2:cs.length<=63) (h3:(1<=many/\many<=40)) (h4:SqL K H sg (ss.map V.str)) (h5:(1<=ss.length/\ss.length<=42)) (h6: ∀r H' ds es,Same H H'->HsT K H' r ds es->ds.length=many->(∀ps∈ds,ps.length<=ss.length/\ ∀q∈ps,0<=q.2/\q.2<many)->Q (.ref r) H'):sp_f8 K vs H Q E
abbrev HH (K:W.Frag):TS:=
  (aG (aJ (aH bN (aH bM (aH bM (aj 8) (aj 1)) (tC (V.int 3))) (aj 1)) (az 9))
  (cI (jG (aY (aH qw (aH bN (aH bM (aj 8) (aj 1)) (tC (V.int 3))) (tC (V.int 0)))) (aY (aH (yt K true) (aj 9) (aj 4)))) (dF (qz K "list" cu (aj 4) (ao (aj 9) aC))) bT))
abbrev HJ (K:W.Frag):TS:=
  (aG (cI (aY (aH (yt K true) (aj 7) (oV [none] (cQ K (aH (cA K) (aj 3) (aj 6))) (az 0) eZ (aH (aR K) (aj 0) (tC (V.int 0)))))) (dF (qz K "list" cu (aH (cA K) (aj 3) (aj 6)) (ao (cO (ao (aj 7) (ao (aH bN (aj 8) (aj 1)) aC))) aC))) bT)
  (HH K))
abbrev HN (K:W.Frag):TS:=
  (aG (aJ (aH bN (aj 5) (aj 1)) (az 6))
  (aG (aJ (aH (cA K) (aj 2) (aH bN (aH bM (aj 5) (aj 1)) (cH (cB K) (ao (aj 2) aC)))) (az 7))
  (aG (aJ (aH bM (aH bM (aj 5) (aj 1)) (cH (cB K) (ao (aj 2) aC))) (az 8))
  (HJ K))))
abbrev HQ (K:W.Frag):TS:=
  (aG (eY (cQ K (aj 0)) (az 5) (HN K))
  (bJ (cO (ao (cH (cU K) (ao (oV [none] (cQ K (aj 3)) (az 0) eZ (cH (cU K) (ao (cH (fY K) (ao (aj 0) aC)) aC))) aC)) (ao (cH (cU K) (ao (cH (oY K) (ao (aj 4) aC)) aC)) aC)))))
def DN (K:W.Frag) (E:XK) (Eh:XK):TS:=
  (aG (aJ (oV [none] (iz (ao (aj 1) aC)) (az 0) eZ (cR aC)) (az 3))
  (aG (aJ (cR aC) (az 4))
  (HQ K)))
theorem Ri (h:sp_f8 K vs H Q E): ∃Eh,DN K E Eh { nx:=λ _ H'=>Q .non H',rt:=Q } (start ["cells","many","signs","doors","ends","cell","room","sign","rest","last"] vs) H:=by
 obtain ⟨a,sg,cs,many,ss,rfl,hS,h63,⟨hm1,hm2⟩,hG,⟨hs1,hs2⟩,q⟩:=h;refine ⟨E0,?_⟩;unfold DN;symm;refine M4 many (Yh _) (by rfl') (by rfl') (λ i H' hi A kA=> ?_) λ d H1 as s1 hd0 hal hand hdas hae hd1=> ?_
 .symm;intro p hp;exact kA p hp
 symm;intro e he;symm;have he1:H e=none:=s1.free he;have hde:d≠e:=aO hd1 he;have hea:e∉as:=λ m=>by rw [(hae e m).2] at he;cases he
 have hfr: ∀p∈d::e::as,H p=none:=by
  intro p hp;rcases Zm.mp hp with rfl | hp
  .exact hd0
  rcases Zm.mp hp with rfl | hp
  .exact he1
  .exact (hae p hp).1
 have S0:Same H (upd H1 e (.lst [])):=s1.new he;walk_at "ns";refine jC V.int (zs:=cs) (S0.seq hS) (λ i Z H'=> ∃ (rows:List (Addr×List Dz)) (ends:List Int),Rws H' rows/\rows.map (·.1)=as/\(∀row∈rows,RwJ many ss row.2)/\Sb (d::e::as) H H'/\H' d=some (.lst (as.map V.ref))/\H' e=some (.lst (ends.map V.int))/\ends.Nodup/\ends.length<=i/\ ∃o1 o2 o3 o4 o5,Z=[some (.ref a),some (.int (many:Nat)),some (.ref sg),some (.ref d),some (.ref e),o1,o2,o3,o4,o5]) ?_ ?_ ?_ ?_
 .refine ⟨as.map λ b=>(b,[]),[],⟨by rw [Zq];simpa [Function.comp_def] using hand,λ row hr=> ?_⟩,by rw [Zq];simp [Function.comp_def],λ row hr=> ?_,Sb.of S0,aA he hd1,aa,by simp,by simp,none,none,none,none,none,rfl⟩
  .obtain ⟨b,hb,rfl⟩:=Zb.mp hr;exact ⟨aA he (hae b hb).2,by simp⟩
  .obtain ⟨b,hb,rfl⟩:=Zb.mp hr;exact ⟨by simp,by simp⟩
 .rintro i Z H' ⟨rows,ends,hR,e1,hok,sb,hd',he',hnd,hel,o1,o2,o3,o4,o5,rfl⟩;exact sb.seq hfr hS
 .rintro i c Z H' hc ⟨rows,ends,hR,e1,hok,sb,hd',he',hnd,hel,o1,o2,o3,o4,o5,rfl⟩;have hic:i<cs.length:=(Zo.mp hc).1;have hG':=sb.seq hfr hG;obtain ⟨j,ej,hj⟩:=Mm.jc c many (by rfl');have hrl:rows.length=many:=by rw [<- hal,<- e1,Qr]
  have hjr:j<rows.length:=by rfl'
  have hjm:rows[j]∈rows:=Yy hjr;have haj:xm (as.map V.ref) (j:Int)=some (.ref rows[j].1):=by
   refine aN ?_;rw [<- e1,Zq,Zj,Zd hjr];rfl
  obtain ⟨u,eu,hu⟩:=Mm.jc (c / many) ss.length (by rfl');obtain ⟨s,hs⟩: ∃s,ss[u]? =some s:=⟨_,Zd hu⟩;have hsm:=Ze hs;symm;rw [ej];refine cG hG' ?_;rw [Qr];refine BJ (by rfl') eu ?_;refine bU hG' (aN (j:=u) (v:= .str s) (by rw [Zj,hs];rfl)) ?_;symm;refine cG hG' ?_;rw [Qr];walk_at "gj";walk_at "ns";have rs1:0<=c / (many:Int) / (ss.length:Int)%(many:Int):=Int.emod_nonneg _ (by rfl');have rs2:c / (many:Int) / (ss.length:Int)%(many:Int)<many:=Int.emod_lt_of_pos _ (by rfl');generalize c / (many:Int) / (ss.length:Int)=rest at rs1 rs2;with_reducible refine jq (λ Z' H'=> ∃ (rows:List (Addr×List Dz)),Rws H' rows/\rows.map (·.1)=as/\(∀row∈rows,RwJ many ss row.2)/\Sb (d::e::as) H H'/\H' d=some (.lst (as.map V.ref))/\H' e=some (.lst (ends.map V.int))/\Z'=[some (.ref a),some (.int (many:Nat)),some (.ref sg),some (.ref d),some (.ref e),some (.int c),some (.int (j:Int)),some (.str s),some (.int rest),o5]) ?_ ?_
  .rintro Z' H2 ⟨rows,hR,e1,hok,sb,hd',he',rfl⟩;symm;generalize rest / (many:Int) / 3%(many:Int)=last;refine dW (λ c1=> ?_) λ c1=> ?_
   .symm;refine wB (.inl (SqL.of he')) rfl (gO _) ?_;rw [je];symm;refine nQ (λ c2=> ?_) λ c2=> ?_
    .symm;refine dO (SqL.of he') ?_;symm;refine fD he' (by rw [Qr];rfl') ?_;symm;refine ⟨rows,ends++[last],hR.setO he' (by rw [e1];exact hea),e1,hok,sb.set (by simp),by rw [au hde];exact hd',by rw [aa,Zh];rfl,?_,by simp;rfl',_,_,_,_,_,rfl⟩;rw [Xc];refine ⟨hnd,by simp,λ x m y my ee=>c2 ?_⟩;rw [Za.mp my] at ee;rw [<- ee];exact m
    .symm;exact ⟨rows,ends,hR,e1,hok,sb,hd',he',hnd,by rfl',_,_,_,_,_,rfl⟩
   .symm;exact ⟨rows,ends,hR,e1,hok,sb,hd',he',hnd,by rfl',_,_,_,_,_,rfl⟩
  .intro N hN;symm;refine bU (SqL.of hd') haj ?_;have hrow:=hR.2 _ hjm;have hrk:=hok _ hjm;have hrn:=hrk.len;refine wA (λ z:Dz=>V.ref z.1) (SqL.of hrow.1) (by rfl') (λ z=>V.str z.2.1) (λ k z hz A kA=> ?_) λ p hp=> ?_
   .have tz:=hrow.2 z (Ze hz);symm;exact eV (SqT.of tz) (aN (j:=0) (v:= .str z.2.1) rfl) kA
   .symm;refine wB (xs:=(rows[j].2.map (·.2.1)).map V.str) (.inl (SqL.of (by rw [aa,Zq];rfl))) rfl (yh _) ?_;rw [Hj];symm;refine nQ (λ c2=> ?_) λ c2=> ?_
    .symm;refine bU (SqL.of (aA hp hd')) haj ?_;symm;refine dO (SqL.of (aA hp hrow.1)) ?_;symm;intro t ht;symm;refine fD (aA ht (aA hp hrow.1)) (by rw [Qr];rfl') ?_;symm;have hR2:=((hR.same (aB hp (HO.lst (rows[j].2.map λ z=>V.str z.2.1)))).same (aB ht (HO.tup [V.str s,V.int (rest%(many:Int))]))).app (t:=t) hjr aa;have ndj:d≠rows[j].1:=λ z=>hdas (by rw [z,<- e1];exact Zb.mpr ⟨_,hjm,rfl⟩)
     have nej:e≠rows[j].1:=λ z=>hea (by rw [z,<- e1];exact Zb.mpr ⟨_,hjm,rfl⟩)
     refine hN _ _ ⟨rows.set j (rows[j].1,rows[j].2++[(t,s,rest%(many:Int))]),?_,(wC hjr _).trans e1,λ row hr=> ?_,((sb.new hp).new ht).set (Zv _ (Zv _ (by rw [<- e1];exact Zb.mpr ⟨_,hjm,rfl⟩))),?_,?_,rfl⟩
     .rw [Zh] at hR2;exact hR2
     .rcases List.mem_or_eq_of_mem_set hr with m | rfl
      .exact hok row m
      .obtain ⟨k1,k3⟩:=hrk;refine ⟨?_,λ z hz=> ?_⟩
       .rw [Zh,Xc];refine ⟨k1,by simp,λ x m y my ee=>c2 ?_⟩;rw [Zl,Xq,Za] at my;have my':y=s:=my;rw [<- my',<- ee];exact m
       .rcases Zi.mp hz with m | m
        .exact k3 z m
        .rw [Za.mp m];exact ⟨hsm,rs1,rs2⟩
     .rw [au ndj];exact aA ht (aA hp hd')
     .rw [au nej];exact aA ht (aA hp he')
    .symm;exact hN _ _ ⟨rows,hR.same (aB hp _),e1,hok,sb.new hp,aA hp hd',aA hp he',rfl⟩
 rintro Z H2 ⟨rows,ends,hR,e1,hok,sb,hd',he',hnd,hel,o1,o2,o3,o4,o5,rfl⟩;have hrl:rows.length=many:=by rw [<- hal,<- e1,Qr]
 have S2:Same H H2:=sb.off hfr;symm;refine Bp V.ref (zs:=as) (SqL.of hd') (by rfl') (λ k ys H'=> ∃ts:List (Addr×List (Str×Int)),ys=ts.map (λ t=>V.ref t.1)/\ts.length=k/\Same H2 H'/\ ∀t∈ts,DrT K H' t.1 t.2/\t.2.length<=ss.length/\ ∀q∈t.2,0<=q.2/\q.2<many) ⟨[],rfl,rfl,Same.refl _,by simp⟩ ?_ ?_ ?_ ?_
 .rintro k ys H' ⟨ts,rfl,_,s',_⟩;exact SqL.of (s'.get hd')
 .rintro k ys H' ⟨ts,rfl,rfl,_⟩;simp
 .rintro k b ys H' hb ⟨ts,rfl,hk,s',ht⟩;have hkl:k<rows.length:=by
   have:=(Zo.mp hb).1;rfl'
  have hkm:rows[k]∈rows:=Yy hkl;have eb:b=rows[k].1:=by
   rw [<- e1,Zj,Zd hkl] at hb
   cases hb;rfl
  subst eb;have hrow:=(hR.same s').2 _ hkm;have hkn:=(hok _ hkm).len;obtain ⟨k1,k3⟩:=hok _ hkm;symm;refine rY (zs:=rows[k].2) (SqL.of hrow.1) (λ z m=>SqT.of (hrow.2 z m)) k1 (by rfl') λ r ws hp hs hr=> ?_
  symm;refine gh (SqL.of aa) λ l hl=> ?_
  refine ⟨ts++[(l,ws.map (·.2))],by simp,by simp [hk],(s'.new hr).new hl,λ t mt=> ?_⟩;rcases Zi.mp mt with mt | mt
  .exact ⟨(ht t mt).1.same ((aB hr _).new hl),(ht t mt).2⟩
  .rw [Za.mp mt];refine ⟨⟨ws,rfl,aa,λ z m=>aA hl (aA hr (hrow.2 z (hp.mem_iff.mp m)))⟩,by show (ws.map (·.2)).length<=ss.length;rw [Qr,hp.length_eq];rfl',λ q mq=> ?_⟩;obtain ⟨z,mz,rfl⟩:=Zb.mp mq;exact (k3 z (hp.mem_iff.mp mz)).2
 rintro ys H3 ⟨ts,rfl,hk,s3,ht⟩ p hp;have s4:Same H2 (upd H3 p (.lst (ts.map λ t=>V.ref t.1))):=s3.new hp;have e4:upd H3 p (.lst (ts.map λ t=>V.ref t.1)) p=some (.lst (ts.map λ t=>V.ref t.1)):=aa;replace ht: ∀t∈ts,DrT K (upd H3 p (.lst (ts.map λ t=>V.ref t.1))) t.1 t.2/\t.2.length<=ss.length/\ ∀q∈t.2,0<=q.2/\q.2<many:=λ t m=>⟨(ht t m).1.same (aB hp _),(ht t m).2⟩
 generalize upd H3 p (.lst (ts.map λ t=>V.ref t.1))=H4 at s4 e4 ht;symm;refine gh (SqL.of e4) λ td htd=> ?_
 symm;refine Hi (ns:=ends) (SqL.of (aA htd (s4.get he'))) (by rfl') λ r ns hpn hsn hr=> ?_
 symm;refine gh (SqL.of aa) λ te hte=> ?_
 symm;intro h hh;have T:=Same.new (o:=HO.tup [V.ref td,V.ref te]) (Same.new (o:=HO.tup (ns.map V.int)) (Same.new (o:=HO.lst (ns.map V.int)) (aB htd (HO.tup (ts.map λ t=>V.ref t.1))) hr) hte) hh;refine q h _ (ts.map (·.2)) ns (S2.trans (s4.trans T)) ⟨td,te,ts,aa,rfl,aA hh (aA hte (aA hr aa)),λ t mt=>(ht t mt).1.same T,aA hh aa⟩ (by rw [Qr];rfl') λ ps mps=> ?_
 obtain ⟨t,mt,rfl⟩:=Zb.mp mps;exact (ht t mt).2
theorem wO {K:W.Frag} {a:Addr} {ps:List (Str×Int)} {o:HO} (h:DrT K H a ps) (e:H q=some (.lst ys)):DrT K (upd H q o) a ps:=by
 obtain ⟨zs,h1,h2,h3⟩:=h;exact ⟨zs,h1,cX h2 e,λ z mz=>cX (h3 z mz) e⟩
inductive sp_f7 (K:W.Frag) (vs:List V) (H:Hp) (Q:VK) (E:XK):Prop
 | mk (a sh sg:Addr) (ns:List Int) (kd rm my ms ht:Nat) (ss:List Str) (h0:vs=[.ref a, .ref sh, .ref sg]) (h1:SqL K H a (ns.map V.int)) (h2:ns.length<=63) (h3:H sh=some (.tup [.int (kd:Nat), .int (rm:Nat), .int (my:Nat), .int (ms:Nat), .int (ht:Nat)])) (h4:Rh kd rm my ms ht) (h5:SqL K H sg (ss.map V.str)) (h6:ss.length=my+2) (h7:ss.Nodup) (h8: ∀r H' ds es,Same H H'->HsT K H' r ds es->0<ds.length->ds.length<=rm+1->(∀ps∈ds,ps.length<=18/\ ∀q∈ps,0<=q.2/\q.2<ds.length)->Q (.ref r) H'):sp_f7 K vs H Q E
abbrev HR (K:W.Frag):TS:=
  (aG (eY (iz (ao (aj 5) aC)) (az 9) (cI (aY (aH qw (aj 3) (tC (V.int 2)))) (dF (qz K "list" cu (aj 8) (ao (cO (ao (aH (cA K) (aj 2) (aj 9)) (ao (aH bN (aH cC (aH cC (aj 7) (aj 9)) (tC (V.int 1))) (aj 4)) aC))) aC))) (cI (aY (aH qw (aH bN (aH jR (aU (sp_f4 K) [] E0 (ao (aj 0) (ao (aH cC (tC (V.int 21)) (aj 7)) aC))) (aH vR (tC (V.int 1)) (aj 9))) (tC (V.int 2))) (tC (V.int 0)))) (dF (qz K "list" cu (aj 8) (ao (cO (ao (aH (cA K) (aj 2) (aj 9)) (ao (aH cC (aj 7) (tC (V.int 1))) aC))) aC))) bT)))
  (dF (qz K "list" cu (aj 6) (ao (cH (cU K) (ao (cH (fY K) (ao (aj 8) aC)) aC)) aC))))
abbrev HW (K:W.Frag):TS:=
  (aG (cI (aY (aH qw (aj 3) (tC (V.int 2)))) (bJ (cO (ao (cH (cU K) (ao (aj 6) aC)) (ao (cO (ao (tC (V.int 0)) aC)) aC)))) bT)
  (bJ (cO (ao (cH (cU K) (ao (aH Pn (aj 6) (cR (ao (cO aC) aC))) aC)) (ao (cO (ao (aj 4) aC)) aC)))))
abbrev HX (K:W.Frag):TS:=
  (aG (cI (aY (aH K4 (aj 3) (tC (V.int 2)))) (bJ (aU (sp_f8 K) [] E0 (ao (vJ (qy K) (aj 0) (dM (tC (V.int 5))) (dM (tC (V.int 65)))) (ao (aj 4) (ao (aj 2) aC))))) bT)
  (aG (aJ (cR aC) (az 6))
  (aG (eY (iz (ao (aj 4) aC)) (az 7) (aG (aJ (cR aC) (az 8))
  (HR K)))
  (HW K))))
def DP (K:W.Frag) (E:XK) (Eh:XK):TS:=
  (aG (aJ (vJ (JD K) (aj 1) cJ (dM (tC (V.int 3)))) (ji K 3 (bY (az 3) (bY (az 4) (bY (az 5) jH)))))
  (HX K))
theorem Rj (h:sp_f7 K vs H Q E): ∃Eh,DP K E Eh { nx:=λ _ H'=>Q .non H',rt:=Q } (start ["script","shape","signs","kind","rooms","many","doors","room","pairs","k"] vs) H:=by
 obtain ⟨a,sh,sg,ns,kd,rm,my,ms,ht,ss,rfl,hS,h63,esh,hO,hG,hsl,hnd,q⟩:=h;refine ⟨E0,?_⟩;unfold DP;obtain ⟨o1,o2,o3,o4,o5,o6⟩:=id hO;have c5:dU (ns.map V.int) (some 5) (some 65)=(ns.drop 5).map V.int:=by
  rw [ww (by decide) (by decide),Xb (by rw [Qr];exact Yg h63 (by decide)),<- List.map_drop];rfl
 symm;refine ⟨sh,_,rfl,SqT.of esh,by show ¬ (HT.cP 5 0 none=0/\HT.cP 5 5 (some 3)=5);decide,λ p1 hp1=> ?_⟩;have s1:Same H (upd H p1 (HO.tup (dU [.int (kd:Nat), .int (rm:Nat), .int (my:Nat), .int (ms:Nat), .int (ht:Nat)] none (some 3)))):=aB hp1 _;have ep1:upd H p1 (HO.tup (dU [.int (kd:Nat), .int (rm:Nat), .int (my:Nat), .int (ms:Nat), .int (ht:Nat)] none (some 3))) p1=some (.tup [.int (kd:Nat), .int (rm:Nat), .int (my:Nat)]):=aa;generalize upd H p1 (HO.tup (dU [.int (kd:Nat), .int (rm:Nat), .int (my:Nat), .int (ms:Nat), .int (ht:Nat)] none (some 3)))=H1 at s1 ep1 ⊢;refine f9 (SqT.of ep1) rfl ?_;replace hS:=s1.seq hS;replace hG:=s1.seq hG;walk_at "ns";symm;refine dW (λ c1=> ?_) λ c1=> ?_
 .symm;refine rR hS λ p2 hp2=> ?_
  rw [c5];symm;refine ⟨p2,sg,ns.drop 5,rm,ss,rfl,SqL.of aa,by rw [Yx];rfl',⟨by rfl',by rfl'⟩,(aB hp2 _).seq hG,⟨by rfl',by rfl'⟩,λ r H' ds es s2 hH hdl hds=> ?_⟩;exact q r H' ds es (s1.trans ((aB hp2 _).trans s2)) hH (by rfl') (by rfl') λ ps mps=>⟨by have:=(hds ps mps).1;rfl',by rw [hdl];exact (hds ps mps).2⟩
 symm;intro dr hdr;symm;walk_at "ns";obtain ⟨bd,hbd⟩: ∃bd:Nat,bd=if kd=2 then rm else rm+1:=⟨_,rfl⟩
 refine rQ rm (Yh _) (by rfl') (by rfl') (λ i Z H'=>Sb [dr] H1 H'/\ ∃ (ts:List (Addr×List (Str×Int))) (o7 o8 o9:Option V),H' dr=some (.lst (ts.map λ t=>V.ref t.1))/\ts.length=i/\(∀t∈ts,DrT K H' t.1 t.2/\t.2.length<=18/\ ∀q∈t.2,0<=q.2/\q.2<bd)/\Z=[some (.ref a),some (.ref sh),some (.ref sg),some (.int (kd:Nat)),some (.int (rm:Nat)),some (.int (my:Nat)),some (.ref dr),o7,o8,o9]) ⟨Sb.of (aB hdr _),[],_,_,_,aa,rfl,by simp,rfl⟩ ?_ ?_
 .rintro i Z H' hi ⟨sb,ts,o7,o8,o9,edr,htl,ht',rfl⟩;symm;intro pl hpl;have ndp:dr≠pl:=aO edr hpl;have S0:Same H1 H':=sb.off λ p mp=>by rw [Za.mp mp];exact hdr
  have hpl1:H1 pl=none:=S0.free hpl;have hfr: ∀p∈[dr,pl],H1 p=none:=λ p mp=>by
   simp only [Zm,Yq,Xz] at mp;rcases mp with rfl | rfl
   .exact hdr
   .exact hpl1
  have sbn:=sb.new (o:=HO.lst []) hpl;symm;walk_at "ns";refine rQ my (Yh _) (by rfl') (by rfl') (λ k Z H2=>Sb [dr,pl] H1 H2/\Same H' H2/\ ∃ (zs:List Dz) (o9:Option V),H2 pl=some (.lst (zs.map λ z:Dz=>V.ref z.1))/\(zs.map (·.2.1)).Sublist (ss.take k)/\(∀z∈zs,H2 z.1=some (.tup [.str z.2.1, .int z.2.2])/\0<=z.2.2/\z.2.2<bd)/\Z=[some (.ref a),some (.ref sh),some (.ref sg),some (.int (kd:Nat)),some (.int (rm:Nat)),some (.int (my:Nat)),some (.ref dr),some (.int (i:Nat)),some (.ref pl),o9]) ⟨sbn.more (by simp),aB hpl _,[],_,aa,by simp,by simp,rfl⟩ ?_ ?_
  .rintro k Z H2 hk ⟨sb2,s2,zs,o9,epl,hsub,hz,rfl⟩;have S2:=sb2.off hfr;obtain ⟨s,hs⟩: ∃s,ss[k]? =some s:=⟨_,Zd (by rfl')⟩;have etk:ss.take (k+1)=ss.take k++[s]:=by rw [Ys,hs];rfl
   have hzl:zs.length<=k:=by
    have:=hsub.length_le;rw [Qr,Yd] at this;rfl'
   have add: ∀ (x:Int),0<=x->x<bd-> ∀t,H2 t=none->Sb [dr,pl] H1 (upd (upd H2 t (HO.tup [.str s, .int x])) pl (HO.lst (zs.map (λ z:Dz=>V.ref z.1)++[V.ref t])))/\Same H' (upd (upd H2 t (HO.tup [.str s, .int x])) pl (HO.lst (zs.map (λ z:Dz=>V.ref z.1)++[V.ref t])))/\ ∃ (zs':List Dz) (o9:Option V),upd (upd H2 t (HO.tup [.str s, .int x])) pl (HO.lst (zs.map (λ z:Dz=>V.ref z.1)++[V.ref t])) pl=some (.lst (zs'.map λ z:Dz=>V.ref z.1))/\(zs'.map (·.2.1)).Sublist (ss.take (k+1))/\(∀z∈zs',upd (upd H2 t (HO.tup [.str s, .int x])) pl (HO.lst (zs.map (λ z:Dz=>V.ref z.1)++[V.ref t])) z.1=some (.tup [.str z.2.1, .int z.2.2])/\0<=z.2.2/\z.2.2<bd)/\[some (.ref a),some (.ref sh),some (.ref sg),some (.int (kd:Nat)),some (.int (rm:Nat)),some (.int (my:Nat)),some (.ref dr),some (.int (i:Nat)),some (.ref pl),some (.int (k:Nat))]=[some (.ref a),some (.ref sh),some (.ref sg),some (.int (kd:Nat)),some (.int (rm:Nat)),some (.int (my:Nat)),some (.ref dr),some (.int (i:Nat)),some (.ref pl),o9]:=λ x x0 x1 t ht=>by
    refine ⟨(sb2.new ht).set (by simp),λ b o e=> ?_,zs++[(t,s,x)],_,by rw [aa,Zh];rfl,by rw [Zh,etk];exact hsub.append (List.Sublist.refl _),λ z mz=> ?_,rfl⟩
    .rw [au λ z=>by rw [z,hpl] at e;cases e];exact (s2.new ht) b o e
    .rcases Zi.mp mz with mz | mz
     .exact ⟨cX (aA ht (hz z mz).1) (aA ht epl),(hz z mz).2⟩
     .rw [Za.mp mz];exact ⟨cX aa (aA ht epl),x0,x1⟩
   have stay: ∀k'≥k,(zs.map (·.2.1)).Sublist (ss.take k'):=λ k' hk'=>hsub.trans (List.take_sublist_take_left hk')
   symm;refine dW (λ c2=> ?_) λ c2=> ?_
   .symm;refine dO (SqL.of epl) ?_;symm;refine bU (S2.seq hG) (aN (j:=k) (v:= .str s) (by rw [Zj,hs];rfl)) ?_;symm;intro t ht;symm;refine fD (aA ht epl) (by rw [Qr];rfl') ?_;symm;exact add _ (Int.emod_nonneg _ (by rfl')) (by rw [hbd,if_pos (by rfl')];exact Int.emod_lt_of_pos _ (by rfl')) t ht
   .symm;rw [show (21:Int)+(i:Int)=((21+i:Nat):Int) by rfl'];refine ⟨a,ns,21+i,rfl,S2.seq hS,?_⟩;symm;refine wD (by rfl') ?_;symm;refine dW (λ c3=> ?_) λ c3=> ?_
    .symm;refine dO (SqL.of epl) ?_;symm;refine bU (S2.seq hG) (aN (j:=k) (v:= .str s) (by rw [Zj,hs];rfl)) ?_;symm;intro t ht;symm;refine fD (aA ht epl) (by rw [Qr];rfl') ?_;symm;exact add _ (by rfl') (by rw [hbd,if_neg (by rfl')];rfl') t ht
    .symm;exact ⟨sb2,s2,zs,_,epl,stay _ (Nat.le_succ k),hz,rfl⟩
  .rintro Z H2 ⟨sb2,s2,zs,o9,epl,hsub,hz,rfl⟩;have hzl:zs.length<=my:=by
    have:=hsub.length_le;rw [Qr,Yd] at this;rfl'
   symm;refine dO (SqL.of (s2.get edr)) ?_;symm;refine rY (zs:=zs) (SqL.of epl) (λ z m=>SqT.of (hz z m).1) (List.Nodup.sublist (hsub.trans (List.take_sublist _ _)) hnd) (by rfl') λ r ws hp hs hr=> ?_
   symm;refine gh (SqL.of aa) λ l hl=> ?_
   have s3:=(aB hr (HO.lst (ws.map λ z:Dz=>V.ref z.1))).new (o:=HO.tup (ws.map λ z:Dz=>V.ref z.1)) hl;have hD:DrT K (upd (upd H2 r (HO.lst (ws.map λ z:Dz=>V.ref z.1))) l (HO.tup (ws.map λ z:Dz=>V.ref z.1))) l (ws.map (·.2)):=⟨ws,rfl,aa,λ z m=>s3.get (hz z (hp.mem_iff.mp m)).1⟩;generalize upd (upd H2 r (HO.lst (ws.map λ z:Dz=>V.ref z.1))) l (HO.tup (ws.map λ z:Dz=>V.ref z.1))=H3 at s3 hD ⊢;symm;have edr3:=s3.get (s2.get edr);refine fD edr3 (by rw [Qr];rfl') ?_;symm;refine ⟨λ b o n e=> ?_,ts++[(l,ws.map (·.2))],_,_,_,by rw [aa,Zh];rfl,by rw [Zg,Yn,htl],λ t mt=> ?_,rfl⟩
   .rw [au λ z=>n (by rw [z];simp)];exact s3 b o (s2 b o (S0 b o e))
   .rcases Zi.mp mt with mt | mt
    .exact ⟨wO (((ht' t mt).1.same s2).same s3) edr3,(ht' t mt).2⟩
    .rw [Za.mp mt];refine ⟨wO hD edr3,by show (ws.map (·.2)).length<=18;rw [Qr,hp.length_eq];rfl',λ q mq=> ?_⟩;obtain ⟨z,mz,rfl⟩:=Zb.mp mq;exact (hz z (hp.mem_iff.mp mz)).2
 .rintro Z H' ⟨sb,ts,o7,o8,o9,edr,htl,ht',rfl⟩;have S0:Same H1 H':=sb.off λ p mp=>by rw [Za.mp mp];exact hdr
  symm;refine dW (λ c2=> ?_) λ c2=> ?_
  .symm;refine gh (SqL.of edr) λ td htd=> ?_
   symm;intro te hte;symm;intro r hr;have T:=Same.new (o:=HO.tup [V.ref td,V.ref te]) (Same.new (o:=HO.tup [V.int 0]) (aB htd (HO.tup (ts.map λ t=>V.ref t.1))) hte) hr;rw [hbd,if_pos (by rfl')] at ht';refine q r _ (ts.map (·.2)) [0] (s1.trans (S0.trans T)) ⟨td,te,ts,aa,rfl,aA hr (aA hte aa),λ t mt=>(ht' t mt).1.same T,aA hr aa⟩ (by rw [Qr];rfl') (by rw [Qr];rfl') λ ps mps=> ?_
   obtain ⟨t,mt,rfl⟩:=Zb.mp mps;refine ⟨(ht' t mt).2.1,λ y my'=> ?_⟩;have:=(ht' t mt).2.2 y my';rw [Qr,htl];exact this
  .symm;intro et het;symm;intro el hel;have e2:upd (upd H' et (HO.tup [])) el (HO.lst [V.ref et]) dr=some (.lst (ts.map λ t=>V.ref t.1)):=aA hel (aA het edr);refine ⟨dr,el,_,_,rfl,rfl,e2,aa,by rw [Qr,htl];exact small (by simp;rfl'),λ cl hcl=> ?_⟩;have T1:=Same.new (o:=HO.lst (ts.map (λ t=>V.ref t.1)++[V.ref et])) (Same.new (o:=HO.lst [V.ref et]) (aB het (HO.tup [])) hel) hcl;have eet:upd (upd (upd H' et (HO.tup [])) el (HO.lst [V.ref et])) cl (HO.lst (ts.map (λ t=>V.ref t.1)++[V.ref et])) et=some (.tup []):=aA hcl (aA hel aa);have ecl:upd (upd (upd H' et (HO.tup [])) el (HO.lst [V.ref et])) cl (HO.lst (ts.map (λ t=>V.ref t.1)++[V.ref et])) cl=some (.lst ((ts++[((et,[]):Addr×List (Str×Int))]).map λ t=>V.ref t.1)):=by rw [aa,Zh];rfl
   generalize upd (upd (upd H' et (HO.tup [])) el (HO.lst [V.ref et])) cl (HO.lst (ts.map (λ t=>V.ref t.1)++[V.ref et]))=H5 at T1 eet ecl ⊢;symm;refine gh (SqL.of ecl) λ td htd=> ?_
   symm;intro te hte;symm;intro r hr;have T:=Same.new (o:=HO.tup [V.ref td,V.ref te]) (Same.new (o:=HO.tup [V.int (rm:Nat)]) (aB htd (HO.tup ((ts++[((et,[]):Addr×List (Str×Int))]).map λ t=>V.ref t.1))) hte) hr;rw [hbd,if_neg (by rfl')] at ht';refine q r _ ((ts++[((et,[]):Addr×List (Str×Int))]).map (·.2)) [(rm:Int)] (s1.trans (S0.trans (T1.trans T))) ⟨td,te,ts++[((et,[]):Addr×List (Str×Int))],aa,rfl,aA hr (aA hte aa),λ t mt=> ?_,aA hr aa⟩ (by rw [Qr,Zg,Yn];rfl') (by rw [Qr,Zg,Yn];rfl') λ ps mps=> ?_
   .rcases Zi.mp mt with mt | mt
    .exact ((ht' t mt).1.same T1).same T
    .rw [Za.mp mt];exact ⟨[],rfl,T.get eet,λ z m=>(by cases m)⟩
   .rw [Qr,Zg,Yn,htl];obtain ⟨t,mt,rfl⟩:=Zb.mp mps;rcases Zi.mp mt with mt | mt
    .exact ⟨(ht' t mt).2.1,λ y my'=>(ht' t mt).2.2 y my'⟩
    .rw [Za.mp mt];exact ⟨Nat.zero_le _,λ y my'=>(by cases my')⟩
inductive sp_f10 (K:W.Frag) (vs:List V) (H:Hp) (Q:VK) (E:XK):Prop
 | mk (a b:Addr) (xs ys:List Nat) (h0:vs=[.ref a, .ref b]) (h1:SqL K H a (nv xs)) (h2:SqL K H b (nv ys)) (h3:xs.length<=100000) (h4:ys.length<=100000) (h5:Q (.int (Mm.dH (xs.take (min xs.length ys.length)) (ys.take (min xs.length ys.length)):Nat)) H):sp_f10 K vs H Q E
abbrev DQ (K:W.Frag):TS:=
  (aG (eY (iz (ao (cH jl (ao (cH (cB K) (ao (aj 0) aC)) (ao (cH (cB K) (ao (aj 1) aC)) aC))) aC)) (az 3) (aG (aJ (aH Ip (aH (cA K) (aj 0) (aj 3)) (aH (cA K) (aj 1) (aj 3))) (az 4))
  (eF (aY (aH jK (aj 4) (tC (V.int 0)))) (aG (aJ (aH cC (aj 2) (aH bN (aj 4) (tC (V.int 2)))) (az 2))
  (aJ (aH bM (aj 4) (tC (V.int 2))) (az 4))))))
  (bJ (aj 2)))
def vo (K:W.Frag) (E:XK) (Eh:XK):TS:=
  (aG (aJ (tC (V.int 0)) (az 2))
  (DQ K))
theorem Ny (h:sp_f10 K vs H Q E): ∃Eh,vo K E Eh { nx:=λ _ H'=>Q .non H',rt:=Q } (start ["one","other","many","k","left"] vs) H:=by
 obtain ⟨a,b,xs,ys,rfl,ha,hb,hx,hy,q⟩:=h;refine ⟨E0,?_⟩;unfold vo;obtain ⟨m,hm⟩: ∃m,m=min xs.length ys.length:=⟨_,rfl⟩;rw [<- hm] at q;symm;refine cG ha ?_;rw [Qr];symm;refine cG hb ?_;rw [Qr];symm;rw [show (if (ys.length:Int)<(xs.length:Int) then (ys.length:Int) else (xs.length:Int))=(m:Int) by split<;>rfl'];refine rQ m (Yh _) (by rfl') (by rfl') (λ i Z H'=>H'=H/\ ∃o1 o2,Z=[some (.ref a),some (.ref b),some (.int (Mm.dH (xs.take i) (ys.take i):Nat)),o1,o2]) ⟨rfl,none,none,rfl⟩ ?_ ?_
 .rintro i Z _ hi ⟨rfl,o1,o2,rfl⟩;rename_i H;have hx':xs[i]? =some xs[i]:=Zd (by rfl');have hy':ys[i]? =some ys[i]:=Zd (by rfl');have et:Mm.dH (xs.take (i+1)) (ys.take (i+1))=Mm.dH (xs.take i) (ys.take i)+Bm.pop (xs[i]^^^ys[i]):=by
   rw [Ys,Ys,hx',hy'];exact Mm.nP _ _ _ _ (by rw [Yd,Yd];rfl')
  generalize xs[i]'(by rfl')=x at*;generalize ys[i]'(by rfl')=y at*;symm;refine bU ha (aN (j:=i) (v:= .int (x:Nat)) (by rw [Zj,hx'];rfl)) ?_;symm;refine bU hb (aN (j:=i) (v:= .int (y:Nat)) (by rw [Zj,hy'];rfl)) ?_;symm;rw [Bx.kY];walk_at "ns";refine jV (λ Z H'=>H'=H/\ ∃ (g l:Nat),g+Bm.pop l=Mm.dH (xs.take (i+1)) (ys.take (i+1))/\Z=[some (.ref a),some (.ref b),some (.int (g:Nat)),some (.int (i:Nat)),some (.int (l:Nat))]) (λ Z _=>match Z with | [_,_,_,_,some (.int l)]=>l.toNat | _=>0) ⟨rfl,_,_,et.symm,rfl⟩ ?_ ?_
  .rintro _ _ ⟨rfl,g,l,e,rfl⟩;symm;refine dW (λ c=> ?_) λ c=> ?_
   .symm;walk_at "ns";rw [Bm.tU] at e;refine ⟨⟨rfl,g+l%2,l / 2,by rfl',by rw [show ((g+l%2:Nat):Int)=(g:Int)+(l:Int)%2 by rfl',show ((l / 2:Nat):Int)=(l:Int) / 2 by rfl']⟩,?_⟩;show ((l:Int) / 2).toNat<(l:Int).toNat;rfl'
   .have hl:l=0:=by rfl'
    subst hl;rw [Bm.iV] at e;symm;exact ⟨rfl,_,_,by rw [<- e];rfl⟩
  .rintro Z H Q Q' hq ⟨v,hv,i,j,e1,e2,k,e3,z⟩;exact ⟨v,hv,i,j,e1,e2,k,e3,hq _ _ z⟩
 .rintro Z _ ⟨rfl,o1,o2,rfl⟩;symm;exact q
def PcT (H:Hp) (pc:Addr) (zs:List Lz):Prop:=H pc=some (.dK (zs.map λ z:Lz=>((Sum.inr z.2.1:Key),V.ref z.2.2.1)))/\ ∀z∈zs,H z.2.2.1=some (.tup (nv z.2.2.2))
theorem PcT.same {pc:Addr} {zs:List Lz} (h:PcT H pc zs) (s:Same H H'):PcT H' pc zs:=⟨s.get h.1,λ z mz=>s.get (h.2 z mz)⟩
abbrev vp (zs:List Lz):List (Str×List Nat):=zs.map λ z:Lz=>(z.2.1,z.2.2.2)
theorem HY {zs:List Lz} {s:Str} (h:Fo.lk (vp zs) s=none):bF (zs.map λ z:Lz=>((Sum.inr z.2.1:Key),V.ref z.2.2.1)) (Sum.inr s)=none:=gP (f:=λ z:Lz=>(Sum.inr z.2.1:Key)) (g:=λ z:Lz=>V.ref z.2.2.1) λ m=>by
 obtain ⟨z,mz,e⟩:=Zb.mp m;obtain ⟨c,ec⟩:=Fo.uz (ls:=vp zs) (s:=s) (by rw [Zq];exact Zb.mpr ⟨z,mz,Sum.inr.inj e⟩);rw [h] at ec
 cases ec
inductive sp_f18 (K:W.Frag) (vs:List V) (H:Hp) (Q:VK) (E:XK):Prop
 | mk (ha pc ov:Addr) (zs:List Lz) (ds:List (List (Str×Int))) (es:List Int) (ys:List Nat) (r:Nat) (cell:Int) (h0:vs=[.ref ha, .ref pc, .int (r:Nat), .ref ov, .int cell]) (h1:HsT K H ha ds es) (h2:PcT H pc zs) (h3:(∀z∈zs,Hs.Sg z.2.1)) (h4:(∀ps∈ds,ps.length<=18)) (h5:SqL K H ov (nv ys)) (h6:r<ds.length) (h7:(∀H',Same H H'->Q .non H')) (h8: ∀a H' (p:Str×Int) co,Same H H'->H' a=some (.tup [.str p.1, .int p.2])->p∈ds.getD r []->Fo.lk (vp zs) p.1=some co->Q (.ref a) H'):sp_f18 K vs H Q E
abbrev DR (K:W.Frag):TS:=
  (aG (aJ (oV [none,some 1,some 3] (cQ K (aj 5)) (az 0) (aY (aH qw (cH (cB K) (ao (gn (aj 1) (aH (aR K) (aj 0) (tC (V.int 0)))) aC)) (cH (cB K) (ao (aj 2) aC)))) (aj 0)) (az 6))
  (cI (aY (aH (rNeD K) (aj 6) (cR aC))) (bJ (aH (cA K) (aj 6) (aH bN (aH bM (aj 4) (tC (V.int 2))) (cH (cB K) (ao (aj 6) aC))))) bT))
abbrev DW (K:W.Frag):TS:=
  (aG (cI (aY (aH (rEqD K) (aj 5) (cR aC))) (bJ (tC V.non)) bT)
  (aG (cI (aY (aH qw (aH bN (aj 4) (tC (V.int 2))) (tC (V.int 1)))) (DR K) bT)
  (bJ (aH (cA K) (aj 5) (aH bN (aH bM (aj 4) (tC (V.int 2))) (cH (cB K) (ao (aj 5) aC)))))))
def vq (K:W.Frag) (E:XK) (Eh:XK):TS:=
  (aG (aJ (oV [none,some 1] (qt K (aH (aR K) (aH (aR K) (aj 0) (tC (V.int 0))) (aj 2))) (az 0) (tB (Ff (aH (aR K) (aj 0) (tC (V.int 0))) (aj 1))) (aj 0)) (az 5))
  (DW K))
theorem Nz (h:sp_f18 K vs H Q E): ∃Eh,vq K E Eh { nx:=λ _ H'=>Q .non H',rt:=Q } (start ["house","pictures","room","over","cell","some","same"] vs) H:=by
 obtain ⟨ha,pc,ov,zs,ds,es,ys,r,cell,rfl,hH,hP,hsg,hds,hov,hr,qn,q⟩:=h;refine ⟨E0,?_⟩;unfold vq;obtain ⟨d,e,rs,a1,a2,a3,a4,a5⟩:=id hH;have hrs:rs.length=ds.length:=by rw [<- a2,Qr]
 obtain ⟨rz,hrz⟩: ∃z,rs[r]? =some z:=⟨_,Zd (by rfl')⟩;obtain ⟨dz,ed,d1,d2⟩:=a4 rz (Ze hrz);have edr:ds.getD r []=rz.2:=by
  rw [<- a2,Zn,Zj,hrz];rfl
 have hdl:dz.length<=18:=by
  have h1:rz.2∈ds:=by rw [<- a2];exact Zb.mpr ⟨rz,Ze hrz,rfl⟩
  have:=hds _ h1;rw [<- ed,Qr] at this;exact this
 have hmem: ∀z∈dz,z.2∈ds.getD r []:=λ z mz=>by rw [edr,<- ed];exact Zb.mpr ⟨z,mz,rfl⟩
 have hdp: ∀ {H':Hp} {us:List (Addr×Str×Int)},Same H H'->(∀u∈us,u∈dz/\ ∃co,Fo.lk (vp zs) u.2.1=some co)-> ∀p,H' p=some (.lst (us.map λ u=>V.ref u.1))-> ∃ds',Dp K H' (.ref p) (.list ds')/\(ds'=[]↔us=[])/\Sh 2 (.list ds'):=λ {H' us} s hu p hp=>by
  refine ⟨us.map λ u=> .tuple [.str u.2.1, .int u.2.2], .lst (SqL.of hp) ?_,by rw [List.map_eq_nil_iff],pN λ x mx=> ?_⟩
  .clear hp;induction us with
   | nil=>exact .nil
   | cons u us ih=>exact .cons (.tup (SqT.of (s.get (d2 u (hu u Zs).1))) (.cons (.str _) (.cons (.int _) .nil))) (ih λ y my=>hu y (Zv _ my))
  .obtain ⟨u,mu,rfl⟩:=Zb.mp mx;obtain ⟨co,hco⟩:=(hu u mu).2;obtain ⟨lw,mlw,elw⟩:=Zb.mp (Fo.jr hco);exact Hl (z:=u.2) (by rw [<- (Prod.mk.inj elw).1];exact hsg lw mlw)
 have hout: ∀ {H':Hp} {us:List (Addr×Str×Int)},Same H H'->(∀u∈us,u∈dz/\ ∃co,Fo.lk (vp zs) u.2.1=some co)-> ∀v∈us.map (λ u=>V.ref u.1),Q v H':=λ {H' us} s hu v mv=>by
  obtain ⟨u,mu,rfl⟩:=Zb.mp mv;obtain ⟨co,hco⟩:=(hu u mu).2;exact q u.1 _ u.2 co s (s.get (d2 u (hu u mu).1)) (hmem u (hu u mu).1) hco
 symm;refine dX a1 ?_;symm;refine eV (SqT.of a3) (aN (j:=r) (v:= .ref rz.1) (by rw [Zj,hrz];rfl)) ?_;walk_at "ns";refine M8 (λ z:Addr×Str×Int=>V.ref z.1) (zs:=dz) (SqT.of d1) (by rfl') (λ i vs H'=>H'=H/\ ∃us:List (Addr×Str×Int),vs=us.map (λ u=>V.ref u.1)/\us.length<=i/\ ∀u∈us,u∈dz/\ ∃co,Fo.lk (vp zs) u.2.1=some co) ⟨rfl,[],rfl,Zk _,by simp⟩ ?_ ?_ ?_ ?_
 .rintro i vs H' ⟨rfl,_⟩;exact SqT.of d1
 .rintro i vs H' ⟨_,us,rfl,hl,_⟩;rw [Qr];exact hl
 .rintro i z vs H' hi ⟨rfl,us,rfl,hl,hu⟩;have mz:=Ze hi;symm;refine dX (d2 z mz) ?_;symm;refine ⟨pc,_,rfl,DGet.k (k:=Sum.inr z.2.1) hP.1,?_⟩
  cases hlk:Fo.lk (vp zs) z.2.1 with
  | none=>
   rw [HY hlk];symm;exact ⟨rfl,us,rfl,Nat.le_succ_of_le hl,hu⟩
  | some co=>
   obtain ⟨lw,mlw,_,elw⟩:=lM hlk;rw [elw];symm;refine ⟨_,rfl,rfl,us++[z],by rw [Zh];rfl,by rw [Zg];exact Nat.succ_le_succ hl,λ u mu=> ?_⟩;rcases Zi.mp mu with mu | mu
   .exact hu u mu
   .rw [Za.mp mu];exact ⟨mz,co,hlk⟩
 rintro vs H' ⟨rfl,us,rfl,hl,hu⟩ p hp;have s1:=aB (o:= .lst (us.map λ u=>V.ref u.1)) hp;have e1:upd H' p (.lst (us.map λ u=>V.ref u.1)) p=some (.lst (us.map λ u=>V.ref u.1)):=aa;generalize upd H' p (.lst (us.map λ u=>V.ref u.1))=H1 at s1 e1 ⊢;symm;intro p2 hp2;have s2:=s1.new (o:= .lst []) hp2;have e12:=(aB (o:= .lst []) hp2).get e1;obtain ⟨ds1,y1,y2,y3⟩:=hdp s2 hu p e12;refine rEqD.nil y1 y3 (by decide) (SqL.of aa) ?_;rw [show decide (ds1=[])=decide (us=[]) from decide_eq_decide.mpr y2];generalize upd H1 p2 (.lst [])=H2 at s2 e12 y1 ⊢;symm;refine dW (λ c=> ?_) λ c=> ?_
 .symm;exact qn _ s2
 have hpos:0<us.length:=List.length_pos_iff.mpr c;have hend: ∀ {H3:Hp} {us3:List (Addr×Str×Int)} {a3:Addr},Same H' H3->H3 a3=some (.lst (us3.map λ u=>V.ref u.1))->0<us3.length->us3.length<=18->(∀u∈us3,u∈dz/\ ∃co,Fo.lk (vp zs) u.2.1=some co)->cA K (.ref a3) (.int (cell / 2%(us3.length:Int))) H3 Q:=λ {H3 us3 a3} s3 e3 hp3 hl3 hu3=>by
  obtain ⟨j,ej,hj⟩:=Mm.jc (cell / 2) us3.length hp3;rw [ej];refine wN (SqL.of e3) (by rfl') (by rw [Qr];rfl') λ v mv=>hout s3 hu3 v mv
 symm;refine dW (λ _=> ?_) λ _=> ?_
 .symm;walk_at "ns";refine Bp (λ z:Addr×Str×Int=>V.ref z.1) (zs:=us) (SqL.of e12) (by rfl') (λ i vs H3=>H3=H2/\ ∃ws:List (Addr×Str×Int),vs=ws.map (λ u=>V.ref u.1)/\ws.length<=i/\ ∀u∈ws,u∈us) ⟨rfl,[],rfl,Zk _,by simp⟩ ?_ ?_ ?_ ?_
  .rintro i vs H3 ⟨rfl,_⟩;exact SqL.of e12
  .rintro i vs H3 ⟨_,ws,rfl,hl,_⟩;rw [Qr];exact hl
  .rintro i z vs H3 hi ⟨rfl,ws,rfl,hl,hw⟩;have mz:=Ze hi;obtain ⟨mzd,co,hco⟩:=hu z mz;obtain ⟨lw,mlw,_,elw⟩:=lM hco;symm;refine dX (s2.get (d2 z mzd)) ?_;refine ⟨pc, .ref lw.2.2.1,rfl,by rw [<- elw];exact DGet.k (k:=Sum.inr z.2.1) (s2.get hP.1),?_⟩;symm;refine cW (SqT.of (s2.get (hP.2 lw mlw))) ?_;symm;refine cG (s2.seq hov) ?_;symm;refine dW (λ _=> ?_) λ _=> ?_
   .symm;refine ⟨rfl,ws++[z],by rw [Zh];rfl,by rw [Zg];exact Nat.succ_le_succ hl,λ u mu=> ?_⟩;rcases Zi.mp mu with mu | mu
    .exact hw u mu
    .rw [Za.mp mu];exact mz
   .symm;exact ⟨rfl,ws,rfl,Nat.le_succ_of_le hl,hw⟩
  rintro vs H3 ⟨rfl,ws,rfl,hl3,hw⟩ p3 hp3;have hu3: ∀u∈ws,u∈dz/\ ∃co,Fo.lk (vp zs) u.2.1=some co:=λ u mu=>hu u (hw u mu)
  have s3:=s2.new (o:= .lst (ws.map λ u=>V.ref u.1)) hp3;have e123:=(aB (o:= .lst (ws.map λ u=>V.ref u.1)) hp3).get e12;have e3:upd H3 p3 (.lst (ws.map λ u=>V.ref u.1)) p3=some (.lst (ws.map λ u=>V.ref u.1)):=aa;generalize upd H3 p3 (.lst (ws.map λ u=>V.ref u.1))=H4 at s3 e123 e3 ⊢;symm;intro p4 hp4;have s4:=s3.new (o:= .lst []) hp4;have e34:=(aB (o:= .lst []) hp4).get e3;have e124:=(aB (o:= .lst []) hp4).get e123;obtain ⟨ds2,z1,z2,z3⟩:=hdp s4 hu3 p3 e34;refine rNeD.nil z1 z3 (by decide) (SqL.of aa) ?_;rw [show decide (ds2=[])=decide (ws=[]) from decide_eq_decide.mpr z2];generalize upd H4 p4 (.lst [])=H5 at s4 e34 e124 z1 ⊢;symm;refine nQ (λ c2=> ?_) λ c2=> ?_
  .have hw0:0<ws.length:=List.length_pos_iff.mpr c2;symm;refine cG (SqL.of e34) ?_;rw [Qr];symm;exact hend s4 e34 hw0 (by rfl') hu3
  .symm;refine cG (SqL.of e124) ?_;rw [Qr];symm;exact hend s4 e124 hpos (by rfl') hu
 .symm;refine cG (SqL.of e12) ?_;rw [Qr];symm;exact hend s2 e12 hpos (by rfl') hu
theorem sO (xs ys:List Nat):cst xs ys=cst ys xs:=by
 unfold cst;rw [Mm.nM,Nat.min_comm]
theorem qb (ys:List Nat):cst [] ys=0:=by
 unfold cst;simp [Mm.dH]
inductive Pt (wss:List (List fj)) (rs:List Int):Sd->Nat->Prop
 | fork {z:fj×fj×Int}:z∈lZ wss rs->Pt wss rs (jF z) (q9 z)
 | step {x:Sd} {c:Nat} {w:fj}:Pt wss rs x c->w∈wss.getD x.1.toNat []->Pt wss rs (iy w x.2.1 x.2.2) (c+cst x.2.2 w.2.1)
theorem Pt.rch {wss:List (List fj)} {N:Nat} (h:Pt wss (bR wss N) x c):Mm.Rch (uN wss N) (Cr wss) x:=by
 induction h with
 | fork m=>exact .base (Zb.mpr ⟨_,m,rfl⟩)
 | step _ mw ih=>exact .step ih (Zb.mpr ⟨_,mw,rfl⟩)
theorem Pt.low {ls:List (Str×List Nat)} {wss:List (List fj)} {N:Nat} {F:Sd->Nat×Nat->Prop} (hS: ∀x,x∈S↔Mm.Rch (uN wss N) (Cr wss) x) (hD:Dj (Hw es S) (CK (J2 ls wss) S) F (λ _ _=>False)) (h:Pt wss (bR wss N) x c): ∀k,F x k-> ∃z∈lZ wss (bR wss N),∃k',F (jF z) k'/\q9 z+k'.1<=c+k.1:=by
 induction h with
 | fork m=>exact λ k hk=>⟨_,m,k,hk,Zk _⟩
 | @step x c w hx mw ih=>
  intro k hk;obtain ⟨u,hu,lu⟩:=(hD.b (cst x.2.2 w.2.1) x (iy w x.2.1 x.2.2) k ⟨(hS x).mpr hx.rch,w.1,Zb.mpr ⟨w,mw,rfl⟩⟩ hk).resolve_right id;obtain ⟨z,mz,k',hk',hle⟩:=ih u hu;refine ⟨z,mz,k',hk',?_⟩;have:u.1<=k.1+cst x.2.2 w.2.1:=by unfold leP at lu;dsimp only at lu;rfl'
  rfl'
theorem NB {w:fj}:iy v w.2.2 w.2.1=iy w v.2.2 v.2.1\/((iy v w.2.2 w.2.1)=(v.2.2,w.2.2,[])/\iy w v.2.2 v.2.1=(w.2.2,v.2.2,[])):=by
 unfold iy;rcases Nat.lt_trichotomy v.2.1.length w.2.1.length with h | h | h
 .rw [if_pos (Xw h),if_neg (Nat.not_le.mpr h)];exact .inl rfl
 .right;rw [if_pos (Nat.le_of_eq h),if_pos (Nat.le_of_eq h.symm),List.drop_of_length_le (Nat.le_of_eq h.symm),List.drop_of_length_le (Nat.le_of_eq h)];exact ⟨rfl,rfl⟩
 .rw [if_neg (Nat.not_le.mpr h),if_pos (Xw h)];exact .inl rfl
def MS (wss:List (List fj)) (rs:List Int) (x:Sd) (c:Nat):Prop:=Pt wss rs x c\/(x.2.2=[]/\Pt wss rs (x.2.1,x.1,[]) c)\/ ∃ (r1:Int) (w:fj),w∈wss.getD r1.toNat []/\x.2.1=w.2.2/\x.2.2=w.2.1/\Pt wss rs (x.1,r1,[]) c
theorem MS.sw {wss:List (List fj)} {w:fj} (h:Pt wss rs (iy w v.2.2 v.2.1) c):MS wss rs (iy v w.2.2 w.2.1) c:=by
 rcases NB (v:=v) (w:=w) with e | ⟨e1,e2⟩
 .exact .inl (e▸h)
 .rw [e2] at h;rw [e1];exact .inr (.inl ⟨rfl,h⟩)
theorem MS.step {wss:List (List fj)} (hw: ∀ws∈wss,∀w∈ws,1<=w.2.1.length) (h:MS wss rs x c) (mv:v∈wss.getD x.1.toNat []):MS wss rs (iy v x.2.1 x.2.2) (c+cst x.2.2 v.2.1):=by
 have hpos: ∀ {r:Nat} {w:fj},w∈wss.getD r []->1<=w.2.1.length:=λ {r w} mw=>by
  rw [Zn] at mw
  cases e:wss[r]? with
  | none=>rw [e] at mw;cases mw
  | some ws=>rw [e] at mw;exact hw ws (Ze e) w mw
 have hst: ∀ {w:fj} {ah:Int} {r:Nat},w∈wss.getD r []->iy w ah []=(ah,w.2.2,w.2.1):=λ {w ah r} mw=>by
  unfold iy;rw [if_neg (by have:=hpos mw;simp;intro e;rw [e] at this;simp at this)];rfl
 rcases h with h | ⟨e,h⟩ | ⟨r1,w,mw,e1,e2,h⟩
 .exact .inl (h.step mv)
 .rw [e,hst mv,qb];exact .inr (.inr ⟨x.1,v,mv,rfl,rfl,h⟩)
 .have h1:=h.step (w:=v) mv;dsimp only at h1;rw [hst mv,qb] at h1;have h2:=h1.step (w:=w) mw;dsimp only at h2;rw [e1,e2,sO];exact MS.sw h2
theorem MS.even {wss:List (List fj)} (hw: ∀ws∈wss,∀w∈ws,1<=w.2.1.length) (h:MS wss rs x c) (e0:x.2.2=[]) (e1:x.1∈es) (e2:x.2.1∈es): ∃y,Pt wss rs y c/\ju es y=true:=by
 rcases h with h | ⟨_,h⟩ | ⟨r1,w,mw,_,e,_⟩
 .exact ⟨_,h,by unfold ju;rw [e0];simp [e1,e2]⟩
 .exact ⟨_,h,by unfold ju;simp [e1,e2]⟩
 .rw [Zn] at mw
  cases e':wss[r1.toNat]? with
  | none=>rw [e'] at mw;cases mw
  | some ws=>
   rw [e'] at mw;have:=hw ws (Ze e') w mw;rw [<- e,e0] at this;simp at this
theorem MS.two {wss:List (List fj)} {r:Int} (mr:r∈rs) {w:fj} (mv:v∈wss.getD r.toNat []) (mw:w∈wss.getD r.toNat []) (ne:v≠w):MS wss rs (iy v w.2.2 w.2.1) (cst w.2.1 v.2.1):=by
 obtain ⟨i,hi⟩:=Xv.mp mv;obtain ⟨j,hj⟩:=Xv.mp mw;have gi:(wss.getD r.toNat []).getD i default=v:=by rw [Zn,hi];rfl
 have gj:(wss.getD r.toNat []).getD j default=w:=by rw [Zn,hj];rfl
 have hil:=(Zo.mp hi).1;have hjl:=(Zo.mp hj).1;rcases Nat.lt_trichotomy i j with h | h | h
 .refine .inl (Pt.fork (z:=(v,w,r)) (Xu.mpr ⟨r,mr,Xu.mpr ⟨j,Yw.mpr hjl,Zb.mpr ⟨i,Yw.mpr h,?_⟩⟩⟩));rw [gi,gj]
 .subst h;rw [hi] at hj;exact absurd (Ym hj) ne
 .rw [sO];refine MS.sw (Pt.fork (z:=(w,v,r)) (Xu.mpr ⟨r,mr,Xu.mpr ⟨i,Yw.mpr hil,Zb.mpr ⟨j,Yw.mpr h,?_⟩⟩⟩));rw [gi,gj]
def Jst (wss:List (List fj)) (rs:List Int) (t0 t1:Str) (x:Sd) (c:Nat):Prop:=(t0=t1/\x.2.2=[]/\x.1=x.2.1/\x.1∈rs/\c=0)\/(∃w∈wss.getD x.1.toNat [],t1=t0++w.1/\x.2.1=w.2.2/\x.2.2=w.2.1/\x.1∈rs/\c=0)\/MS wss rs x c
theorem Jst.step {wss:List (List fj)} (hw: ∀ws∈wss,∀w∈ws,1<=w.2.1.length) (hcl: ∀r∈rs,∀w∈wss.getD r.toNat [],w.2.2∈rs) (h:Jst wss rs t0 t1 x c) (mv:v∈wss.getD x.1.toNat []):(if x.2.2.length<v.2.1.length then Jst wss rs t1 (t0++v.1) (iy v x.2.1 x.2.2) (c+cst x.2.2 v.2.1) else Jst wss rs (t0++v.1) t1 (iy v x.2.1 x.2.2) (c+cst x.2.2 v.2.1)):=by
 have hpos: ∀ {r:Nat} {w:fj},w∈wss.getD r []->1<=w.2.1.length:=λ {r w} mw=>by
  rw [Zn] at mw
  cases e:wss[r]? with
  | none=>rw [e] at mw;cases mw
  | some ws=>rw [e] at mw;exact hw ws (Ze e) w mw
 have both: ∀ {y:Sd} {d:Nat},MS wss rs y d->(if x.2.2.length<v.2.1.length then Jst wss rs t1 (t0++v.1) y d else Jst wss rs (t0++v.1) t1 y d):=λ h=>by split<;>exact .inr (.inr h)
 rcases h with ⟨rfl,e,e1,mr,rfl⟩ | ⟨w,mw,rfl,e1,e2,mr,rfl⟩ | h
 .have:=hpos mv;rw [e,qb,if_pos (show ([]:List Nat).length<v.2.1.length from this)];refine .inr (.inl ⟨v,?_,rfl,?_⟩)
  .unfold iy;rw [if_neg (show ¬v.2.1.length<=([]:List Nat).length from Nat.not_le.mpr this),<- e1];exact mv
  .unfold iy;rw [if_neg (show ¬v.2.1.length<=([]:List Nat).length from Nat.not_le.mpr this),<- e1];exact ⟨rfl,rfl,mr,rfl⟩
 .by_cases ev:v=w
  .subst ev;rw [e2,if_neg (Xj _)];refine .inl ⟨rfl,?_⟩;unfold iy;rw [if_pos (Zk _),e1];refine ⟨List.drop_of_length_le (Zk _),rfl,hcl _ mr v mv,?_⟩;unfold cst;rw [Mm.nO]
  .rw [e2] at both;rw [e1,e2];refine both ?_;rw [Nat.zero_add];exact MS.two mr mv mw ev
 .exact both (h.step hw mv)
theorem Jst.meet {wss:List (List fj)} (hw: ∀ws∈wss,∀w∈ws,1<=w.2.1.length) (h:Jst wss rs t0 t1 x c) (ne:t0≠t1) (e0:x.2.2=[]) (e1:x.1∈es) (e2:x.2.1∈es): ∃y,Pt wss rs y c/\ju es y=true:=by
 rcases h with ⟨rfl,_⟩ | ⟨w,mw,_,_,e,_⟩ | h
 .exact absurd rfl ne
 .rw [Zn] at mw
  cases e':wss[x.1.toNat]? with
  | none=>rw [e'] at mw;cases mw
  | some ws=>
   rw [e'] at mw;have:=hw ws (Ze e') w mw;rw [<- e,e0] at this;simp at this
 .exact h.even hw e0 e1 e2
inductive sp_f2 (K:W.Frag) (vs:List V) (H:Hp) (Q:VK) (E:XK):Prop
 | mk (ha pc ca:Addr) (zs:List Lz) (ds:List (List (Str×Int))) (es:List Int) (cs:List Int) (N:Nat) (h0:vs=[.ref ha, .ref pc, .ref ca]) (h1:HsT K H ha ds es) (h2:PcT H pc zs) (h3:(∀z∈zs,Hs.Sg z.2.1/\1<=z.2.2.2.length/\z.2.2.2.length<=8)) (h4:Ov (vp zs) ds) (h5:SqL K H ca (cs.map V.int)) (h6:cs.length<=63) (h7:(bR (ds.map (aV (vp zs))) N).length<=N) (h8: ∀p H' (ts:List Nat),Same H H'->H' p=some (.lst (ts.map λ n:Nat=>V.int (n:Int)))->ts.length<=63->(∀t∈ts,∃y,Pt (ds.map (aV (vp zs))) (bR (ds.map (aV (vp zs))) N) y t/\ju es y=true)->Q (.ref p) H'):sp_f2 K vs H Q E
abbrev Ia (K:W.Frag):TS:=
  (aG (aJ (cR (ao (aH (cA K) (aj 3) (tC (V.int 1))) (ao (aH (cA K) (aj 3) (tC (V.int 0))) aC))) (az 3))
  (aG (aJ (cR (ao (aH (cA K) (aj 4) (tC (V.int 1))) (ao (aH (cA K) (aj 4) (tC (V.int 0))) aC))) (az 4))
  (aJ (vJ (qy K) (aj 10) (dM (cH (cB K) (ao (aj 5) aC))) cJ) (az 5))))
abbrev Ib (K:W.Frag):TS:=
  (aG (cI (aY (aH jK (cH (cB K) (ao (aj 10) aC)) (cH (cB K) (ao (aj 5) aC)))) (Ia K) (aJ (vJ (qy K) (aj 5) (dM (cH (cB K) (ao (aj 10) aC))) cJ) (az 5)))
  (cI (jG (aY (aH (rEqD K) (aj 5) (cR aC))) (jG (aY (aH Jx (aH (cA K) (aj 3) (tC (V.int 0))) (aH (cA K) (aj 3) (tC (V.int 1))))) (jG (aY (aH (yt K false) (aH (cA K) (aj 4) (tC (V.int 0))) (aH (aR K) (aj 0) (tC (V.int 1))))) (aY (aH (yt K false) (aH (cA K) (aj 4) (tC (V.int 1))) (aH (aR K) (aj 0) (tC (V.int 1)))))))) (dF (qz K "list" cu (aj 7) (ao (aj 6) aC))) bT))
abbrev Ie (K:W.Frag):TS:=
  (aG (aJ (aH cC (aj 6) (aU (sp_f10 K) [] E0 (ao (aj 10) (ao (aj 5) aC)))) (az 6))
  (aG (aJ (aH d9 (aH (cA K) (aj 3) (tC (V.int 0))) (aH (aR K) (aj 9) (tC (V.int 0)))) (Ep (aj 3) (tC (V.int 0)) vL))
  (aG (aJ (aH (aR K) (aj 9) (tC (V.int 1))) (Ep (aj 4) (tC (V.int 0)) vL))
  (Ib K))))
abbrev Ig (K:W.Frag):TS:=
  (aG (aJ (aU (sp_f18 K) [] E0 (ao (aj 0) (ao (aj 1) (ao (aH (cA K) (aj 4) (tC (V.int 0))) (ao (aj 5) (ao (aj 8) aC)))))) (az 9))
  (cI (aY (aH zK (aj 9) (tC V.non))) (aG (aJ (cR (ao (tC (V.str (Str.ofString ""))) (ao (tC (V.str (Str.ofString ""))) aC))) (az 3))
  (aG (aJ (cR (ao (tC (V.int 0)) (ao (tC (V.int 0)) aC))) (az 4))
  (aG (aJ (cR aC) (az 5))
  (aJ (tC (V.int 0)) (az 6))))) (aG (aJ (cH (oW K) (ao (gn (aj 1) (aH (aR K) (aj 9) (tC (V.int 0)))) aC)) (az 10))
  (Ie K))))
def DX (K:W.Frag) (E:XK) (Eh:XK):TS:=
  (aG (aJ (cR (ao (tC (V.str (Str.ofString ""))) (ao (tC (V.str (Str.ofString ""))) aC))) (az 3))
  (aG (aJ (cR (ao (tC (V.int 0)) (ao (tC (V.int 0)) aC))) (az 4))
  (aG (aJ (cR aC) (az 5))
  (aG (aJ (tC (V.int 0)) (az 6))
  (aG (aJ (cR aC) (az 7))
  (aG (eY (cQ K (aj 2)) (az 8) (Ig K))
  (bJ (aj 7))))))))
theorem Rk (h:sp_f2 K vs H Q E): ∃Eh,DX K E Eh { nx:=λ _ H'=>Q .non H',rt:=Q } (start ["house","pictures","cells","texts","rooms","over","total","found","cell","way","columns"] vs) H:=by
 obtain ⟨ha,pc,ca,zs,ds,es,cs,N,rfl,hH,hP,hzs,sz,hca,hcl,hN,q⟩:=h;refine ⟨E0,?_⟩;unfold DX;generalize hwss:ds.map (aV (vp zs))=wss at hN q;obtain ⟨sz1,sz2,sz3,sz4⟩:=id sz;symm;intro ta hta;symm;intro ra hra;symm;intro ov hov;symm;intro fo hfo;symm;walk_at "ns";have hok: ∀ws∈wss,∀w∈ws,1<=w.2.1.length/\w.2.1.length<=8/\0<=w.2.2/\w.2.2<ds.length:=λ ws mws w mw=>by
  rw [<- hwss] at mws;obtain ⟨ps,mps,rfl⟩:=Zb.mp mws;obtain ⟨p,mp,ep⟩:=List.mem_filterMap.mp (show w∈ps.filterMap _ from mw);obtain ⟨co,eco,rfl⟩:=Yp.mp ep;obtain ⟨z,mz,ez⟩:=Zb.mp (Fo.jr eco);obtain ⟨_,h1,h2⟩:=hzs z mz;rw [(Prod.mk.inj ez).2] at h1 h2;exact ⟨h1,h2,(sz3 ps mps).2 p mp⟩
 have hw1: ∀ws∈wss,∀w∈ws,1<=w.2.1.length:=λ ws mws w mw=>(hok ws mws w mw).1
 have hcls: ∀r∈bR wss N,∀w∈wss.getD r.toNat [],w.2.2∈bR wss N:=λ r mr w mw=>by
  obtain ⟨k,hk⟩:=Xv.mp mr;exact su (Yc (Zo.mp hk).1 hN) hk (Zb.mpr ⟨w,mw,rfl⟩)
 have h0m:(0:Int)∈bR wss N:=by
  obtain ⟨E,e⟩:=lV (λ r:Int=>(wss.getD r.toNat []).map (·.2.2)) 0 0 N;rw [Nat.zero_add] at e;show (0:Int)∈cD _ 0 N;rw [e];exact Zz _ Zs
 have hJ0:Jst wss (bR wss N) (Str.ofString "") (Str.ofString "") (0,0,[]) 0:= .inl ⟨rfl,rfl,rfl,h0m,rfl⟩;have n0:((Str.ofString "").length:Nat)=0:=rfl;have S0:Same H (upd (upd (upd (upd H ta (.lst [.str (Str.ofString ""), .str (Str.ofString "")])) ra (.lst [.int 0, .int 0])) ov (.lst [])) fo (.lst [])):=(((aB hta _).new hra).new hov).new hfo;have g: ∀ {H:Hp} {a b:Addr} {o o':HO},H b=none->H a=some o->a≠b:=λ h1 h2 e=>by rw [e,h1] at h2;cases h2
 refine jC V.int (zs:=cs) (S0.seq hca) (λ i Z H'=>Same H H'/\ ∃ (ta ra ov fo:Addr) (t0 t1:Str) (r0 r1:Nat) (ys:List Nat) (c:Nat) (ts:List Nat) (o8 o9 o10:Option V),H' ta=some (.lst [.str t0, .str t1])/\H' ra=some (.lst [.int (r0:Nat), .int (r1:Nat)])/\H' ov=some (.lst (nv ys))/\H' fo=some (.lst (ts.map λ n:Nat=>V.int (n:Int)))/\(H ta=none/\H ra=none/\H fo=none)/\(ta≠ra/\ta≠ov/\ta≠fo/\ra≠ov/\ra≠fo/\ov≠fo)/\Jst wss (bR wss N) t0 t1 ((r0:Int),(r1:Int),ys) c/\(t0.length<=i/\t1.length<=i/\ys.length<=8/\r0<ds.length/\r1<ds.length/\ts.length<=i)/\(∀t∈ts,∃y,Pt wss (bR wss N) y t/\ju es y=true)/\Z=[some (.ref ha),some (.ref pc),some (.ref ca),some (.ref ta),some (.ref ra),some (.ref ov),some (.int (c:Nat)),some (.ref fo),o8,o9,o10]) ?_ ?_ ?_ ?_
 .refine ⟨S0,ta,ra,ov,fo,_,_,0,0,[],0,[],_,_,_,aA hfo (aA hov (aA hra aa)),aA hfo (aA hov aa),aA hfo aa,aa,⟨hta,(aB hta _).free hra,(((aB hta _).new hra).new hov).free hfo⟩,?_,hJ0,⟨by rw [n0];exact Zk _,by rw [n0];exact Zk _,Yz _,sz1,sz1,Zk _⟩,by simp,rfl⟩;exact ⟨g (o':= .lst []) hra aa,g (o':= .lst []) hov (aA hra aa),g (o':= .lst []) hfo (aA hov (aA hra aa)),g (o':= .lst []) hov aa,g (o':= .lst []) hfo (aA hov aa),g (o':= .lst []) hfo aa⟩
 .rintro i Z H' ⟨s,_⟩;exact s.seq hca
 .clear hta hra hov hfo S0;rintro i cell Z H1 hi ⟨s1,ta,ra,ov,fo,t0,t1,r0,r1,ys,c,ts,o8,o9,o10,eta,era,eov,efo,⟨hta,hra,hfo⟩,⟨nd1,nd2,nd3,nd4,nd5,nd6⟩,hJ,⟨b0,b1,b2,b3,b4,b5⟩,hts,rfl⟩;have hil:i<cs.length:=(Zo.mp hi).1;symm;refine bU (SqL.of era) (aN (j:=0) (v:= .int (r0:Nat)) rfl) ?_;symm;refine ⟨ha,pc,ov,zs,ds,es,ys,r0,cell,rfl,hH.same s1,hP.same s1,λ z mz=>(hzs z mz).1,λ ps mps=>(sz3 ps mps).1,SqL.of eov,b3,λ H2 s2=> ?_,λ wy H2 p co s2 ew mp hco=> ?_⟩
  .symm;intro p1 h1;symm;intro p2 h2;symm;intro p3 h3;symm;have s12:=s1.trans s2;have efo2:=s2.get efo;exact ⟨((s12.new h1).new h2).new h3,p1,p2,p3,fo,_,_,0,0,[],0,ts,_,_,_,aA h3 (aA h2 aa),aA h3 aa,aa,aA h3 (aA h2 (aA h1 efo2)),⟨s12.free h1,(s12.new h1).free h2,hfo⟩,⟨g (o':= .lst []) h2 aa,g (o':= .lst []) h3 (aA h2 aa),(λ z=>by rw [z,efo2] at h1;cases h1),g (o':= .lst []) h3 aa,(λ z=>by rw [z,aA h1 efo2] at h2;cases h2),(λ z=>by rw [z,aA h2 (aA h1 efo2)] at h3;cases h3)⟩,hJ0,⟨by rw [n0];exact Yz _,by rw [n0];exact Yz _,Yz _,sz1,sz1,Nat.le_succ_of_le b5⟩,hts,rfl⟩
  .obtain ⟨lw,mlw,elw1,elw⟩:=lM hco;obtain ⟨hsg,hc1,hc8⟩:=hzs lw mlw;have hP2:=(hP.same s1).same s2;have s12:=s1.trans s2;have mrow:ds.getD r0 []∈ds:=by rw [Zn,Zd b3];exact Yy _
   obtain ⟨g0,g1⟩:=(sz3 _ mrow).2 p mp;obtain ⟨rn,ern⟩: ∃rn:Nat,p.2=(rn:Int):=⟨p.2.toNat,by rfl'⟩;rw [elw1] at hc1 hc8;have mv:((p.1,co,p.2):fj)∈wss.getD r0 []:=by
    rw [<- hwss,Zn,Zj,Zd b3];rw [Zn,Zd b3] at mp;exact List.mem_filterMap.mpr ⟨p,mp,by rw [hco];rfl⟩
   have hp1:p.1.length<=1:=by
    obtain ⟨z,mz,ez⟩:=Zb.mp (Fo.jr hco);obtain ⟨k,ek⟩:=(hzs z mz).1;rw [<- (Prod.mk.inj ez).1,ek];exact Zk _
   have hJ':=hJ.step hw1 hcls (v:=(p.1,co,p.2)) (by rw [Yh];exact mv);dsimp only at hJ';symm;rw [Yf (show ¬V.ref wy=V.non from λ z=>by cases z)];symm;refine dX ew ?_;refine ⟨pc, .ref lw.2.2.1,rfl,by rw [<- elw];exact DGet.k (k:=Sum.inr p.1) hP2.1,?_⟩;symm;refine yg (SqT.of (hP2.2 lw mlw)) λ cl hcl'=> ?_
   rw [elw1];have s3:=s12.new (o:= .lst (nv co)) hcl';have t3:=aB (o:= .lst (nv co)) hcl';have ecl:upd H2 cl (.lst (nv co)) cl=some (.lst (nv co)):=aa;have eta3:=t3.get (s2.get eta);have era3:=t3.get (s2.get era);have eov3:=t3.get (s2.get eov);have efo3:=t3.get (s2.get efo);have ew3:=t3.get ew;have nc:cl≠ta/\cl≠ra:=⟨(λ z=>by rw [z,s2.get eta] at hcl';cases hcl'),(λ z=>by rw [z,s2.get era] at hcl';cases hcl')⟩;generalize upd H2 cl (.lst (nv co))=H3 at s3 t3 ecl eta3 era3 eov3 efo3 ew3 ⊢;symm;refine ⟨cl,ov,co,ys,rfl,SqL.of ecl,SqL.of eov3,by rfl',by rfl',?_⟩;symm;rw [show ((c:Nat):Int)+((Mm.dH (co.take (min co.length ys.length)) (ys.take (min co.length ys.length)):Nat):Int)=((c+cst ys co:Nat):Int) by unfold cst;rfl'];refine bU (SqL.of eta3) (aN (j:=0) (v:= .str t0) rfl) ?_;symm;refine dX ew3 ?_;symm;refine jo (by rfl') ?_;symm;refine Bt 0 eta3 rfl (show 0<2 by decide) ?_;rw [show ([V.str t0,V.str t1]:List V).set 0 (V.str (t0++p.1))=[V.str (t0++p.1),V.str t1] from rfl];have ta4:upd H3 ta (.lst [.str (t0++p.1), .str t1]) ta=some (.lst [.str (t0++p.1), .str t1]):=aa;have s4:Same H (upd H3 ta (.lst [.str (t0++p.1), .str t1])):=λ b o e=>by
    rw [au (λ z=>by rw [z,hta] at e;cases e)];exact s3.get e
   have ra4:upd H3 ta (.lst [.str (t0++p.1), .str t1]) ra=_:=(au nd1.symm).trans era3;have ov4:upd H3 ta (.lst [.str (t0++p.1), .str t1]) ov=_:=(au nd2.symm).trans eov3;have fo4:upd H3 ta (.lst [.str (t0++p.1), .str t1]) fo=_:=(au nd3.symm).trans efo3;have cl4:upd H3 ta (.lst [.str (t0++p.1), .str t1]) cl=_:=(au nc.1).trans ecl;have ew4:upd H3 ta (.lst [.str (t0++p.1), .str t1]) wy=_:=(au (λ z=>by rw [z,eta3] at ew3;cases ew3)).trans ew3;generalize upd H3 ta (.lst [.str (t0++p.1), .str t1])=H4 at ta4 s4 ra4 ov4 fo4 cl4 ew4 ⊢;symm;refine dG ew4 ?_;symm;refine Bt 0 ra4 rfl (show 0<2 by decide) ?_;rw [ern,show ([V.int (r0:Nat),V.int (r1:Nat)]:List V).set 0 (V.int (rn:Nat))=[V.int (rn:Nat),V.int (r1:Nat)] from rfl];have ra5:upd H4 ra (.lst [.int (rn:Nat), .int (r1:Nat)]) ra=some (.lst [.int (rn:Nat), .int (r1:Nat)]):=aa;have s5:Same H (upd H4 ra (.lst [.int (rn:Nat), .int (r1:Nat)])):=λ b o e=>by
    rw [au (λ z=>by rw [z,hra] at e;cases e)];exact s4.get e
   have ta5:upd H4 ra (.lst [.int (rn:Nat), .int (r1:Nat)]) ta=_:=(au nd1).trans ta4;have ov5:upd H4 ra (.lst [.int (rn:Nat), .int (r1:Nat)]) ov=_:=(au nd4.symm).trans ov4;have fo5:upd H4 ra (.lst [.int (rn:Nat), .int (r1:Nat)]) fo=_:=(au nd5.symm).trans fo4;have cl5:upd H4 ra (.lst [.int (rn:Nat), .int (r1:Nat)]) cl=_:=(au nc.2).trans cl4;generalize upd H4 ra (.lst [.int (rn:Nat), .int (r1:Nat)])=H5 at ra5 s5 ta5 ov5 fo5 cl5 ⊢;have hap:(t0++p.1).length=t0.length+p.1.length:=eX _ _;rw [ern] at hJ' g1;walk_at "gj";walk_at "ns";with_reducible refine jq (λ Z' H'=>Same H H'/\ ∃ (ta ra ov:Addr) (u0 u1:Str) (r0 r1:Nat) (zs:List Nat),H' ta=some (.lst [.str u0, .str u1])/\H' ra=some (.lst [.int (r0:Nat), .int (r1:Nat)])/\H' ov=some (.lst (nv zs))/\H' fo=some (.lst (ts.map λ n:Nat=>V.int (n:Int)))/\(H ta=none/\H ra=none)/\(ta≠ra/\ta≠ov/\ta≠fo/\ra≠ov/\ra≠fo/\ov≠fo)/\Jst wss (bR wss N) u0 u1 ((r0:Int),(r1:Int),zs) (c+cst ys co)/\(u0.length<=i+1/\u1.length<=i+1/\zs.length<=8/\r0<ds.length/\r1<ds.length)/\Z'=[some (.ref ha),some (.ref pc),some (.ref ca),some (.ref ta),some (.ref ra),some (.ref ov),some (.int ((c+cst ys co:Nat):Int)),some (.ref fo),some (.int cell),some (.ref wy),some (.ref cl)]) ?_ ?_
   rotate_left
   .intro M hM;symm;refine cG (SqL.of cl5) ?_;symm;refine cG (SqL.of ov5) ?_;unfold nv;rw [Qr,Qr];symm;refine dW (λ cc=> ?_) λ cc=> ?_
    .have cc':ys.length<co.length:=by rfl'
     rw [if_pos cc',show iy (p.1,co,(rn:Int)) (r1:Int) ys=((r1:Int),(rn:Int),co.drop ys.length) by unfold iy;rw [if_neg (show ¬co.length<=ys.length by rfl')]] at hJ';symm;refine bU (SqL.of ta5) (aN (j:=1) (v:= .str t1) rfl) ?_;symm;refine bU (SqL.of ta5) (aN (j:=0) (v:= .str (t0++p.1)) rfl) ?_;symm;intro p1 h1;symm;refine bU (SqL.of (aA h1 ra5)) (aN (j:=1) (v:= .int (r1:Nat)) rfl) ?_;symm;refine bU (SqL.of (aA h1 ra5)) (aN (j:=0) (v:= .int (rn:Nat)) rfl) ?_;symm;intro p2 h2;symm;refine cG (SqL.of (aA h2 (aA h1 ov5))) ?_;unfold nv;rw [Qr];symm;refine rR (SqL.of (aA h2 (aA h1 cl5))) λ p3 h3=> ?_
     rw [jd (by rfl'),Yh,show (nv co).drop ys.length=nv (co.drop ys.length) by unfold nv;rw [List.map_drop]];symm;have n3: ∀ {a:Addr} {o:HO},H5 a=some o->p1≠a/\p2≠a/\p3≠a:=λ {a o} e=>⟨(λ z=>by rw [z,e] at h1;cases h1),(λ z=>by rw [z,aA h1 e] at h2;cases h2),(λ z=>by rw [z,aA h2 (aA h1 e)] at h3;cases h3)⟩
     exact hM _ _ ⟨((s5.new h1).new h2).new h3,p1,p2,p3,_,_,r1,rn,co.drop ys.length,aA h3 (aA h2 aa),aA h3 aa,aa,aA h3 (aA h2 (aA h1 fo5)),⟨s5.free h1,(s5.new h1).free h2⟩,⟨g (o':= .lst []) h2 aa,g (o':= .lst []) h3 (aA h2 aa),(n3 fo5).1,g (o':= .lst []) h3 aa,(n3 fo5).2.1,(n3 fo5).2.2⟩,hJ',⟨by rfl',by rfl',by rw [Yx];rfl',b4,by rfl'⟩,rfl⟩
    .have cc': ¬ys.length<co.length:=by rfl'
     rw [if_neg cc',show iy (p.1,co,(rn:Int)) (r1:Int) ys=((rn:Int),(r1:Int),ys.drop co.length) by unfold iy;rw [if_pos (show co.length<=ys.length by rfl')]] at hJ';symm;refine cG (SqL.of cl5) ?_;unfold nv;rw [Qr];symm;refine rR (SqL.of ov5) λ p3 h3=> ?_
     rw [jd (by rfl'),Yh,show (nv ys).drop co.length=nv (ys.drop co.length) by unfold nv;rw [List.map_drop]];symm;exact hM _ _ ⟨s5.new h3,ta,ra,p3,_,_,rn,r1,ys.drop co.length,aA h3 ta5,aA h3 ra5,aa,aA h3 fo5,⟨hta,hra⟩,⟨nd1,(λ z=>by rw [<- z,ta5] at h3;cases h3),nd3,(λ z=>by rw [<- z,ra5] at h3;cases h3),nd5,(λ z=>by rw [z,fo5] at h3;cases h3)⟩,hJ',⟨by rfl',by rfl',by rw [Yx];rfl',by rfl',b4⟩,rfl⟩
   rintro Z6 H6 ⟨s6,ta,ra,ov,u0,u1,r0,r1,zs',ta6,ra6,ov6,fo6,⟨hta,hra⟩,⟨nd1,nd2,nd3,nd4,nd5,nd6⟩,hJ6,⟨b0,b1,b2,b3,b4⟩,rfl⟩;obtain ⟨d,e,rs,a1,a2,a3,a4,a5⟩:=id hH;refine Ra (v:=decide (zs'=[])&&(!decide (u0=u1)&&(decide ((r0:Int)∈es)&&decide ((r1:Int)∈es)))) (λ R hR=> ?_) λ H7 s7=> ?_
   .symm;intro p1 h1;have s7:=aB (o:= .lst []) h1;have e7:upd H6 p1 (.lst []) p1=some (.lst (([]:List Int).map V.int)):=aa;generalize upd H6 p1 (.lst [])=H7 at s7 e7 ⊢;have s07:=s6.trans s7;have eo7:H7 ov=some (.lst ((zs'.map λ n:Nat=>(n:Int)).map V.int)):=by rw [s7.get ov6];unfold nv;rw [Zq];rfl
    refine rEqD.ints (SqL.of eo7) (SqL.of e7) ?_;rw [show decide ((zs'.map λ n:Nat=>(n:Int))=[])=decide (zs'=[]) from decide_eq_decide.mpr List.map_eq_nil_iff];refine ⟨_,rfl,?_⟩;by_cases c0:zs'=[]
    .refine nR c0 ?_;rw [Yj c0,Bool.true_and] at hR;symm;refine bU (SqL.of (s7.get ta6)) (aN (j:=0) (v:= .str u0) rfl) ?_;symm;refine bU (SqL.of (s7.get ta6)) (aN (j:=1) (v:= .str u1) rfl) ?_;symm;by_cases c1:u0=u1
     .refine pL c1 ?_;rw [Yj c1] at hR;exact hR _ s7
     refine KR c1 ?_;rw [Yf c1,Bool.not_false,Bool.true_and] at hR;symm;refine bU (SqL.of (s7.get ra6)) (aN (j:=0) (v:= .int (r0:Nat)) rfl) ?_;symm;refine dG (s07.get a1) ?_;symm;refine Hh (.inr (SqT.of (s07.get a5))) rfl (gO _) ?_;rw [je];symm;by_cases c2:(r0:Int)∈es
     .refine nR c2 ?_;rw [Yj c2,Bool.true_and] at hR;symm;refine bU (SqL.of (s7.get ra6)) (aN (j:=1) (v:= .int (r1:Nat)) rfl) ?_;symm;refine dG (s07.get a1) ?_;symm;refine Hh (.inr (SqT.of (s07.get a5))) rfl (gO _) ?_;rw [je];symm;exact hR _ s7
     .refine wu c2 ?_;rw [Yf c2] at hR;exact hR _ s7
    .refine wu c0 ?_;rw [Yf c0] at hR;exact hR _ s7
   have s07:=s6.trans s7;refine GC (λ cc=> ?_) λ _=> ?_
   .simp only [Xo,decide_eq_true_eq,Bool.not_eq_true',decide_eq_false_iff_not] at cc;obtain ⟨y,hy1,hy2⟩:=hJ6.meet hw1 (es:=es) cc.2.1 cc.1 cc.2.2.1 cc.2.2.2;symm;refine dO (SqL.of (s7.get fo6)) ?_;symm;refine fD (s7.get fo6) (by rw [Qr];rfl') ?_;symm;have hne: ∀ {a:Addr} {o:HO},H7 a=some o->a≠fo->upd H7 fo (.lst (ts.map (λ n:Nat=>V.int (n:Int))++[.int ((c+cst ys co:Nat):Int)])) a=some o:=λ e n=>by rw [au n];exact e
    refine ⟨λ b o e=>hne (s07.get e) (λ z=>by rw [z,hfo] at e;cases e),ta,ra,ov,fo,u0,u1,r0,r1,zs',c+cst ys co,ts++[c+cst ys co],_,_,_,hne (s7.get ta6) nd3,hne (s7.get ra6) nd5,hne (s7.get ov6) nd6,by rw [aa,Zh];rfl,⟨hta,hra,hfo⟩,⟨nd1,nd2,nd3,nd4,nd5,nd6⟩,hJ6,⟨b0,b1,b2,b3,b4,by rw [Zg];exact Nat.succ_le_succ b5⟩,λ t mt=> ?_,rfl⟩;rcases Zi.mp mt with mt | mt
    .exact hts t mt
    .rw [Za.mp mt];exact ⟨y,hy1,hy2⟩
   .symm;exact ⟨s07,ta,ra,ov,fo,u0,u1,r0,r1,zs',c+cst ys co,ts,_,_,_,s7.get ta6,s7.get ra6,s7.get ov6,s7.get fo6,⟨hta,hra,hfo⟩,⟨nd1,nd2,nd3,nd4,nd5,nd6⟩,hJ6,⟨b0,b1,b2,b3,b4,Nat.le_succ_of_le b5⟩,hts,rfl⟩
 .rintro Z H' ⟨s,ta,ra,ov,fo,t0,t1,r0,r1,ys,c,ts,o8,o9,o10,eta,era,eov,efo,_,_,hJ,⟨b0,b1,b2,b3,b4,b5⟩,hts,rfl⟩;symm;exact q fo _ ts s efo (by rfl') hts
theorem Dj.cong {ev':Sd->Prop} {B:Nat->Sd->Sd->Prop} {F:Sd->Nat×Nat->Prop} {W:Nat×Nat->Sd->Prop} (h:Dj ev B F W) (h1: ∀x,ev x↔ev' x) (h2: ∀c x y,B c x y↔B' c x y) (h3: ∀x k,F x k↔F' x k):Dj ev' B' F' W:=by
 have e1:ev=ev':=funext λ x=>propext (h1 x)
 have e2:B=B':=funext λ c=>funext λ x=>funext λ y=>propext (h2 c x y)
 have e3:F=F':=funext λ x=>funext λ k=>propext (h3 x k)
 rw [<- e1,<- e2,<- e3];exact h
inductive sp_f32 (K:W.Frag) (vs:List V) (H:Hp) (Q:VK) (E:XK):Prop
 | mk (a:Addr) (ns:List Int) (h0:vs=[.ref a]) (h1:SqL K H a (ns.map V.int)) (h2:ns.length<=63) (h3:(∀i∈ns,PySem.Builtin.Int.intBits i<=2^20)) (h4: ∀H',Q (.bl true) H'):sp_f32 K vs H Q E
abbrev DY (K:W.Frag):TS:=
  (aG (cI (OD (yx (qK K (aU (sp_f12 K) [] E0 (ao (aj 7) aC)))) (aY (aH Jx (aj 7) (aH bM (aH j4 (aH (aR K) (aj 6) (tC (V.int 0))) (tC (V.int 1))) (tC (V.int 2)))))) (bJ (tC (V.bl false))) bT)
  (bJ (cH (FQ K) (ao (oV [none,some 6,some 7] (cQ K (aj 5)) (az 0) eZ (jA (aH Py (aH (aR K) (aj 1) (tC (V.int 0))) (aj 0)) (aH K4 (aH kZ (tC (V.int 2)) (aj 2)) (aj 0)))) aC))))
abbrev Ea (K:W.Frag):TS:=
  (aG (cI (OD (yx (qK K (cH (iY K) (ao (aj 6) (ao (tC (V.ty "tuple")) aC))))) (OD (aY (aH Jx (cH (cB K) (ao (aj 6) aC)) (tC (V.int 3)))) (yx (qK K (aU (sp_f12 K) [] E0 (ao (aH (aR K) (aj 6) (tC (V.int 0))) aC)))))) (bJ (tC (V.bl false))) bT)
  (aG (aJ (aU (sp_f31 K) [] E0 (ao (aj 3) (ao (aj 4) aC))) (az 7))
  (DY K)))
abbrev Ec (K:W.Frag):TS:=
  (aG (aJ (aU (sp_f2 K) [] E0 (ao (aj 4) (ao (cH (gW K) (ao (aH (aR K) (aj 3) (tC (V.int 1))) aC)) (ao (vJ (qy K) (aj 0) (dM (tC (V.int 5))) (dM (tC (V.int 305)))) aC)))) (az 5))
  (aG (cI (aY (aH (rEqD K) (aj 5) (cR aC))) (bJ (tC (V.bl true))) bT)
  (aG (aJ (aU (sp_f22 K) [] E0 (ao (aj 3) (ao (aj 4) aC))) (az 6))
  (Ea K))))
abbrev Ed (K:W.Frag):TS:=
  (aG (aJ (aU (sp_f13 K) [] E0 (ao (aU (sp_f4 K) [] E0 (ao (aj 0) (ao (tC (V.int 3)) aC))) (ao (aH cC (aH (aR K) (aj 1) (tC (V.int 2))) (tC (V.int 2))) aC))) (az 2))
  (aG (aJ (aU (sp_f15 K) [] E0 (ao (aj 0) (ao (aj 1) (ao (aj 2) aC)))) (az 3))
  (aG (aJ (aU (sp_f7 K) [] E0 (ao (aj 0) (ao (aj 1) (ao (aj 2) aC)))) (az 4))
  (Ec K))))
def vy (K:W.Frag) (E:XK) (Eh:XK):TS:=
  (aG (aJ (aU (sp_f14 K) [] E0 (ao (aj 0) aC)) (az 1))
  (Ed K))
theorem NK (h:sp_f32 K vs H Q E): ∃Eh,vy K E Eh { nx:=λ _ H'=>Q .non H',rt:=Q } (start ["script","shape","signs","font","house","gaps","found","mended"] vs) H:=by
 obtain ⟨a,ns,rfl,hS,h63,hb,q⟩:=h;refine ⟨E0,?_⟩;unfold vy;have hcb: ∀k:Nat,PySem.Builtin.Int.intBits (Mm.cellAt ns k)<=2^20:=λ k=>by
  by_cases c:k<ns.length
  .rw [Mm.getD_some (Zd c)];exact hb _ (Yy c)
  .rw [Mm.getD_none (by rfl')];decide
 symm;refine ⟨a,ns,rfl,hS,λ sh H1 kd rm my ms ht s1 esh hO=> ?_⟩;replace hS:=s1.seq hS;obtain ⟨o1,o2,o3,o4,o5,o6⟩:=id hO;symm;refine ⟨a,ns,3,rfl,hS,?_⟩;symm;refine iw esh ?_;symm;rw [show (my:Int)+2=((my+2:Nat):Int) by rfl'];refine ⟨_,my+2,rfl,hcb 3,by rfl',λ sg H3 ss s3 hsg0 esg hsl hnd hsg=> ?_⟩;replace hS:=s3.seq hS;replace esh:=s3.get esh;symm;refine ⟨a,sh,sg,ns,kd,rm,my,ms,ht,ss,rfl,hS,hb,esh,hO,SqL.of esg,hsl,hnd,hsg,λ f H4 ls s4 hF wf hll=> ?_⟩;replace hS:=s4.seq hS;replace esh:=s4.get esh;replace esg:=s4.get esg;symm;refine ⟨a,sh,sg,ns,kd,rm,my,ms,ht,ss,rfl,hS,h63,esh,hO,SqL.of esg,hsl,hnd,λ ha H5 ds es s5 hH hd0 hdl hds=> ?_⟩;replace hS:=s5.seq hS;replace hF:=hF.same s5;clear s3 s4 s5 hsg0 esh esg;have sz:Ov ls ds:=by
  refine ⟨hd0,by rfl',hds,?_⟩;rw [hll];rcases o6 with c | c
  .exact Yg (Nat.mul_le_mul (Nat.mul_le_mul (show ds.length<=9 by rfl') (show ds.length<=9 by rfl')) (show my*9<=144 by rfl')) (by decide)
  .exact Yg (Nat.mul_le_mul (Nat.mul_le_mul (show ds.length<=41 by rfl') (show ds.length<=41 by rfl')) (show my*9<=18 by rfl')) (by decide)
 have hl8: ∀p∈ls,p.2.length<=8:=λ p mp=>(wf.c1 p mp).2
 have hok:=pX wf sz;have hin: ∀ {N x},Mm.Rch (uN (ds.map (aV ls)) N) (Cr (ds.map (aV ls))) x->InU ds.length ls x:=λ {N x} hx=>Mm.Rch.all (Cy hok N) (Cw hl8 hok) hx
 have hy8: ∀ {x},InU ds.length ls x->x.2.2.length<=8:=λ {x} hx=>by
  obtain ⟨_,_,p,mp,dd,_,e⟩:=hx;rw [e,Yx];have:=hl8 p mp;rfl'
 have hH5:=hH;have hN50:(bR (ds.map (aV ls)) 50).length<=50:=by
  have:=cZ (l:=bR (ds.map (aV ls)) 50) (m:=(List.range ds.length).map λ i:Nat=>(i:Int)) (dY _ _ 50) λ r mr=>by
   obtain ⟨h0,h1⟩:=cY (P:=λ r:Int=>0<=r/\r<ds.length) ⟨by decide,by rfl'⟩ (λ p q' hp hq=>by
    obtain ⟨w,mw,rfl⟩:=Zb.mp hq;exact (hok.at mw).2) 50 r mr
   exact Zb.mpr ⟨r.toNat,Yw.mpr (by rfl'),by rfl'⟩
  rw [Qr,Xi] at this;have:=sz.2.1;rfl'
 obtain ⟨l,ob,fz,h1,ez,hob,h3,h4⟩:=id hF;have hnf:(fz.map (·.2.1)).Nodup:=by
  have:=lN wf.up;rw [<- ez,Zq] at this;exact this
 have hfl:fz.length=ls.length:=by rw [<- ez,Qr]
 have hle:=wf.le;have elsz:vp fz=ls:=ez;symm;refine dG h1 ?_;symm;refine lK (zs:=fz.map λ z:Lz=>(z.1,z.2.1,V.ref z.2.2.1)) hob (by rw [Zq];exact h3) (λ z m=> ?_) (by rw [Zq];exact hnf) (by rw [Qr];rfl') λ pc hpc=> ?_
 .obtain ⟨y,my,rfl⟩:=Zb.mp m;exact SqT.of (h4 y my).1
 rw [Zq];obtain ⟨H7,eH7⟩: ∃H7,H7=upd H5 pc (HO.dK (fz.map ((λ z:Addr×Str×V=>((Sum.inr z.2.1:Key),z.2.2))∘λ z:Lz=>(z.1,z.2.1,V.ref z.2.2.1)))):=⟨_,rfl⟩;have s7:Same H5 H7:=by rw [eH7];exact aB hpc _
 have hP:PcT H7 pc fz:=⟨by rw [eH7];exact aa,λ z mz=>s7.get (h4 z mz).2⟩;rw [<- eH7];clear eH7;symm;refine rR (s7.seq hS) λ cp hcp=> ?_
 rw [ww (by decide) (by decide),<- List.map_take,<- List.map_drop];have s8:=s7.new (o:= .lst (((ns.take (Int.toNat 305)).drop (Int.toNat 5)).map V.int)) hcp;have t8:=aB (o:= .lst (((ns.take (Int.toNat 305)).drop (Int.toNat 5)).map V.int)) hcp;have ecp:upd H7 cp (.lst (((ns.take (Int.toNat 305)).drop (Int.toNat 5)).map V.int)) cp=some (.lst (((ns.take (Int.toNat 305)).drop (Int.toNat 5)).map V.int)):=aa;generalize upd H7 cp (.lst (((ns.take (Int.toNat 305)).drop (Int.toNat 5)).map V.int))=H8 at s8 t8 ecp ⊢;symm;refine ⟨ha,pc,cp,fz,ds,es,_,50,rfl,hH.same s8,hP.same t8,λ z mz=> ?_,by rw [elsz];exact sz,SqL.of ecp,by rw [Yx,Yd];rfl',by rw [elsz];exact hN50,λ gp H9 ts s9 egp hgl hgp=> ?_⟩
 .have m:(z.2.1,z.2.2.2)∈ls:=by rw [<- ez];exact Zb.mpr ⟨z,mz,rfl⟩
  exact ⟨wf.sg _ m,(wf.c1 _ m).1,(wf.c1 _ m).2⟩
 rw [elsz] at hgp;have s59:=s8.trans s9;have egp':H9 gp=some (.lst ((ts.map λ n:Nat=>(n:Int)).map V.int)):=by rw [egp,Zq];rfl
 symm;intro np hnp;have s10:=aB (o:= .lst []) hnp;have enp:upd H9 np (.lst []) np=some (.lst (([]:List Int).map V.int)):=aa;generalize upd H9 np (.lst [])=H10 at s10 enp ⊢;refine rEqD.ints (SqL.of (s10.get egp')) (SqL.of enp) ?_;rw [show decide ((ts.map λ n:Nat=>(n:Int))=[])=decide (ts=[]) from decide_eq_decide.mpr List.map_eq_nil_iff];symm;refine dW (λ c=> ?_) λ c=> ?_
 .symm;exact q _
 have s510:=s59.trans s10;obtain ⟨t,mt⟩: ∃t,t∈ts:=List.exists_mem_of_ne_nil _ c;have hlow: ∀N (S:List Sd) (gz:List Fq),(bR (ds.map (aV ls)) N).length<=N->(∀x,x∈S↔Mm.Rch (uN (ds.map (aV ls)) N) (Cr (ds.map (aV ls))) x)->Dj (Hw es S) (CK (J2 ls (ds.map (aV ls))) S) (gA gz) (λ _ _=>False)-> ∀t∈ts,∃z∈lZ (ds.map (aV ls)) (bR (ds.map (aV ls)) N),∃k,gA gz (jF z) k/\q9 z+k.1<=t:=λ N S gz hN hS hD t mt=>by
  obtain ⟨y,hy,hev⟩:=hgp t mt;rw [lX hN50 hN] at hy;obtain ⟨z,mz,k,hk,hle⟩:=hy.low hS hD (0,0) ((hD.e y ⟨(hS y).mpr hy.rch,hev⟩).resolve_right id);exact ⟨z,mz,k,hk,hle⟩
 symm;refine ⟨f,ha,ht,ls,ds,es,rfl,hF.same s510,wf,(hH.same s510).g,sz,λ N S gz hN hS hgn hD=>⟨λ hno=> ?_,λ fr H11 L x0 x1 s11 efr hex hmin=> ?_⟩⟩
 .obtain ⟨z,mz,k,hk,_⟩:=hlow N S gz hN hS hD t mt;exact absurd hk (hno z mz k)
 have s511:=s510.trans s11;symm;refine Lp (.tup efr) (b:=true) rfl ?_;symm;refine cW (SqT.of efr) ?_;symm;refine pL rfl ?_;symm;refine dX efr ?_;symm;refine ⟨_,rfl,?_⟩;symm;refine ⟨f,ha,ht,ls,ds,es,rfl,hF.same s511,wf,(hH.same s511).g,sz,λ N2 S2 gz2 hN2 hS2 hgn2 hD2=>⟨λ hno=> ?_,λ H12 L2 s12 hex2 hmin2=> ?_⟩⟩
 .obtain ⟨z,mz,k,hk,_⟩:=hlow N2 S2 gz2 hN2 hS2 hD2 t mt;exact absurd hk (hno z mz k)
 have eL:L2=L:=by
  have hm: ∀x,x∈S2↔x∈S:=λ x=>by rw [hS2 x,hS x,show uN (ds.map (aV ls)) N2=uN (ds.map (aV ls)) N by unfold uN;rw [lX hN2 hN]]
  have hD3:Dj (Hw es S) (CK (J2 ls (ds.map (aV ls))) S) (gA gz2) (λ _ _=>False):=hD2.cong (λ x=>and_congr (hm x) Iff.rfl) (λ c x y=>and_congr (hm x) Iff.rfl) λ x k=>Iff.rfl
  have hu: ∀ {gz:List Fq},(gz.map (·.2.1)).Nodup-> ∀x k l,gA gz x k->gA gz x l->k=l:=λ hn x k l ⟨y,my,e1,e2⟩ ⟨z,mz,e3,e4⟩=>by rw [<- e2,<- e4,eO hn my mz (e1.trans e3.symm)]
  rw [lX hN2 hN] at hex2 hmin2;obtain ⟨z,mz,k,hk,e⟩:=hex;obtain ⟨z2,mz2,k2,hk2,e2⟩:=hex2;have a1:=hmin2 z mz k (hD.uni hD3 (hu hgn) hk);have a2:=hmin z2 mz2 k2 (hD3.uni hD (hu hgn2) hk2);rfl'
 subst eL;have s512:=s511.trans s12;have hLt: ∀t∈ts,L2<=t:=λ t mt=>by
  obtain ⟨z,mz,k,hk,hle⟩:=hlow N S gz hN hS hD t mt;exact Yg (hmin z mz k hk) hle
 symm;refine ⟨_,rfl,?_⟩;symm;refine dX (s12.get efr) ?_;symm;have egp12:=s12.get (s11.get (s10.get egp));walk_at "ns";refine wA (λ n:Nat=>V.int (n:Int)) (zs:=ts) (SqL.of egp12) (by rfl') (λ _=>V.bl true) ?_ λ bp hbp=> ?_
 .rintro i z hi A hA;have h5:=hLt z (Ze hi);symm;refine dX (s12.get efr) ?_;symm;refine nR (by rfl') ?_;symm;rw [Yj (show 2*((((L2:Nat):Int)-1) / 2)<((z:Nat):Int) by rfl')];exact hA
 symm;refine QW (bs:=List.replicate ts.length true) (SqL.of ?_) ?_
 .rw [aa];congr 2;exact (by rw [List.map_replicate,<- List.map_const'])
 rw [show (List.replicate ts.length true).all id=true by simp];symm;exact q _
theorem NP (h:sp_f32 K vs H Q E):vs.length=1:=by
 obtain ⟨_,_,rfl,_⟩:=h;rfl
end Pg
set_option Elab.async false
set_option linter.all false
set_option maxRecDepth 100000
namespace Pg
open PySem L2 PySem.W
set_option maxHeartbeats 0
variable {n:Str} {w:World} {t:Option Addr} {mg:Str->Option Value}
theorem Ef:FnScope ["column","dots"] ["column"] (aF (top 1)):=by ac_rfl
theorem NQ:FnScope ["one","other"] ["one","other"] (aF (top 2)):=by ac_rfl
theorem Rm:FnScope ["one","other"] ["one","other"] (aF (top 8)):=by ac_rfl
theorem NT:FnScope ["one","other"] ["one","other"] (aF (top 7)):=by ac_rfl
theorem NZ:FnScope ["letters","doors"] ["letters","doors"] (aF (top 11)):=by ac_rfl
theorem Eg:FnScope ["font","house","letters"] ["font","house"] (aF (top 10)):=by ac_rfl
theorem Ro:FnScope ["font","over","costs","sign","columns","wide"] ["font","over"] (aF (top 15)):=by ac_rfl
theorem Rp:FnScope ["ways","texts","waiting","here","sign","columns","room"] ["ways"] (aF (top 14)):=by ac_rfl
theorem Rq:FnScope ["way","ahead","over","wide"] ["way","ahead","over"] (aF (top 16)):=by ac_rfl
theorem O1:FnScope ["font","ways","costs","sign","columns","found","room","place","later","way","stand"] ["font","ways"] (aF (top 13)):=by ac_rfl
theorem O2:FnScope ["ways","costs","stand"] ["ways","costs","stand"] (aF (top 17)):=by ac_rfl
theorem Ei:FnScope ["font","house","ways","costs","found","waiting","stand"] ["font","house"] (aF (top 18)):=by ac_rfl
theorem O3:FnScope ["onward","backward","stand","steps","sign","cost","later"] ["onward"] (aF (top 22)):=by ac_rfl
theorem O4:FnScope ["stand","ends"] ["stand","ends"] (aF (top 23)):=by ac_rfl
theorem O5:FnScope ["waiting","rest","backs","cost","earlier"] ["waiting","rest","backs"] (aF (top 21)):=by ac_rfl
theorem O6:FnScope ["onward","ends","backward","found","waiting","rest","reached","stand"] ["onward","ends"] (aF (top 20)):=by ac_rfl
theorem O7:FnScope ["texts","sign","passes","longer"] ["texts","sign","passes"] (aF (top 26)):=by ac_rfl
theorem Rr:FnScope ["ways","fork","text","way","later"] ["ways","fork"] (aF (top 25)):=by ac_rfl
theorem O8:FnScope ["steps","found","rest","step"] ["steps","found","rest"] (aF (top 28)):=by ac_rfl
theorem O9:FnScope ["font","onward","found","stand","texts","letters","step"] ["font","onward","found","stand","texts"] (aF (top 27)):=by ac_rfl
theorem vz:FnScope ["font","house","ways","onward","found","pairs","least","texts"] ["font","house"] (aF (top 24)):=by ac_rfl
theorem Oa:FnScope ["font","house","told"] ["font","house"] (aF (top 29)):=by ac_rfl
theorem Rt:FnScope ["script","k"] ["script","k"] (aF (top 31)):=by ac_rfl
theorem Ob:FnScope ["found"] ["found"] (aF (top 32)):=by ac_rfl
theorem Oc:FnScope ["cell","many","some","number","found","k","at"] ["cell","many"] (aF (top 33)):=by ac_rfl
theorem J5:FnScope ["script","many","most","height","alike","letters","k","cell","wide","number","columns"] ["script","many","most","height","alike"] (aF (top 34)):=by ac_rfl
theorem Od:FnScope ["script","head","kind","rooms","many","tall","height","most"] ["script"] (aF (top 35)):=by ac_rfl
theorem Ej:FnScope ["script","shape","signs","alike","letters"] ["script","shape","signs"] (aF (top 36)):=by ac_rfl
theorem J6:FnScope ["cells","many","signs","doors","ends","cell","room","sign","rest","last"] ["cells","many","signs"] (aF (top 37)):=by ac_rfl
theorem Ru:FnScope ["script","shape","signs","kind","rooms","many","doors","room","pairs","k"] ["script","shape","signs"] (aF (top 38)):=by ac_rfl
theorem Oe:FnScope ["one","other","many","k","left"] ["one","other"] (aF (top 39)):=by ac_rfl
theorem vA:FnScope ["house","pictures","room","over","cell","some","same"] ["house","pictures","room","over","cell"] (aF (top 40)):=by ac_rfl
theorem Rv:FnScope ["house","pictures","cells","texts","rooms","over","total","found","cell","way","columns"] ["house","pictures","cells"] (aF (top 41)):=by ac_rfl
theorem qd:FnScope ["script","shape","signs","font","house","gaps","found","mended"] ["script"] (aF (top 42)):=by ac_rfl
inductive DI (K:Frag) (n:Str) (st:Stmt) (dv:Value):Prop
 | mk {f:Addr} {oc kV dc pm cd ct:Value} {od an:Option Addr} {sl:Array (Option Value)} (a:nsIn K mainGlobals n=some (some (.ref f))) (l:K.lookup f=some ⟨oc,od, .func (fnOf n n (dR st) (dh st) (aF st) dv kV dc pm an cd ct),sl⟩) (q:codeIn K cd n=true) (k:keepIn K (.ref f)=true):DI K n st dv
def VM:Option Addr->Value
 | none=> .none
 | some t=> .ref t
theorem J7 {K:Frag} {i:Nat} (h:Oh K n=Oi t n i):DI K n (top i) (VM t):=by
 unfold Oh Oi at h;split at h
 .rename_i f hf;split at h
  .rename_i c od d sl hl;obtain ⟨t',ht,e⟩:=Yp.mp h;simp only [Prod.mk.injEq] at e;obtain ⟨rfl,e1,e2,e3,e4,e5,e6,e7,e8,e9,e10⟩:=e;obtain ⟨dn,dq,dp,db,ds,dg,dc,dd,dk,ddoc,dpm,dan,dcode,dct,dbt⟩:=d;dsimp only at e1 e2 e3 e4 e5 e6 e7 e8 e9 ht;subst e1 e2 e3 e4 e5 e6 e7 e8;split at ht
   .cases ht;exact .mk hf hl e9 e10
   .cases ht;exact .mk hf hl e9 e10
   .cases ht
  .cases h
 .cases h
theorem Ek {K:Frag} {C:Addr} (h:Tg K C=S8):ExcK K C:=by
 simp only [Tg,S8,Prod.mk.injEq,List.cons.injEq,and_true] at h;obtain ⟨a,⟨b,c,d,e⟩,f,g,i⟩:=h;exact ⟨a,b,c,d,e,f,g,i⟩
theorem mC {β γ:Type} {f:β->γ} {l:List β} {r:List γ} (h:l.map f=r) (i:Nat) {b:β} {c:γ} (e1:l[i]? =some b) (e2:r[i]? =some c):f b=c:=by
 rw [<- h,Zj,e1] at e2;exact Ym e2
theorem ck {P:Program} {K:Frag} {base h:Heap} {st:Stmt} {ps:List Str} {d:Nat} {sp:Sp} (X:K.In h) (G:h.Ns mainGlobals mg) (D:DI K n st .none)
  (b: ∀ (kV doc pm:Value) (an:Option Addr) (cdv ct:Value) (us:List Value),us.length=ps.length->bindArgs (fnOf n n (dR st) (dh st) (aF st) .none kV doc pm an cdv ct) ⟨us,[]⟩=pure (ps.zip us))
  (o: ∀f fd,Fun K n n st f fd->FnOk P w K mg base Ik d f fd ps sp):Cal P w K mg base d n ps sp:=by
 obtain ⟨a,l,q,k⟩:=D;exact ⟨_,_,o _ _ (tO l q k),(tO l q k).binds b,k,mg_of X G a⟩
section
abbrev v0 {X:Cx}:= @pv X 0
abbrev v1 {X:Cx}:= @pv X 1
abbrev v2 {X:Cx}:= @pv X 2
abbrev v3 {X:Cx}:= @pv X 3
abbrev v4 {X:Cx}:= @pv X 4
abbrev v5 {X:Cx}:= @pv X 5
abbrev v6 {X:Cx}:= @pv X 6
abbrev v7 {X:Cx}:= @pv X 7
abbrev v8 {X:Cx}:= @pv X 8
abbrev v9 {X:Cx}:= @pv X 9
abbrev Ox {X:Cx}:= @pv X 10
set_option hygiene false
local macro_rules | `(#[$a]) => `(fM $a bW) | `(#[$a, $b,*]) => `(fM $a #[$b,*])
local macro_rules | `(($a, $b)) => `(qm $a (aL $b)) | `(($a, $b, $c,*)) => `(qm $a ($b, $c,*))
local macro_rules | `($a + $b) => `(z6 (Fv K rfl) $a $b (λ _ _ => rfl))
local macro_rules | `($a - $b) => `(z6 (zJ K rfl) $a $b (λ _ _ => rfl))
local macro_rules | `($a < $b) => `(yU $a rfl (by assumption) (by decide +kernel) $b)
local macro_rules | `($a > $b) => `(K1 ($a X G e2 z_len z_sum z_zip z_dict z_min z_enumerate z_max z_isinstance z_bool z_int z_range z_tuple z_sorted z_list z_all k_BlotError k_NotAlike) hr (by decide) rfl $b)
local macro_rules | `($a && $b) => `(iI (i := $a) nd rfl (Or.inl rfl) $b)
local macro_rules | `(↑$a) => `(vB (i := $a) nd rfl (Or.inl rfl))
local macro_rules | `($a :: $b :: $c) => `(Jr PassesOwn.never rfl $a $b $c)
local macro_rules | `($a ++ $b) => `(tV K rfl PySem.F.plainAttrs_list PySem.F.slot_list_append PySem.F.type_list_append xq $a $b)
local macro_rules | `($a ^ $b ^ $c ^ $d) => `(Cal pWo w K mg base $a $b $c ($d K))
local macro_rules | `($a / $b / $c / $d / $e / $f / $g / $h) => `(Pr $a $b rfl $c (show CScope (aF (top $d)) _ from ⟨rfl, by decide +kernel, by decide +kernel, by decide +kernel⟩) (show capOk $a $b ($e : List Str) _ = true from by decide +kernel) (λ _ _ _ _ _ _ => $f) (λ _ _ _ _ _ _ => $g) (λ _ _ _ _ _ _ => $h)) | `($a / $b / $c / $d / $e / $f) => `(ck (st := top $b) X G (J7 (mC e2 $a rfl rfl)) (by first | exact λ _ _ _ _ _ _ => ar1 λ _ => rfl | exact λ _ _ _ _ _ _ => ar2 λ _ _ => rfl | exact λ _ _ _ _ _ _ => VJ λ _ _ _ => rfl | exact λ _ _ _ _ _ _ => VL λ _ _ _ _ _ => rfl) λ _ _ F => F.ok $c (λ _ _ _ _ h => by cases h; subst_vars; rfl) λ cdv A outer s H vs Q E hr h => by have nd := ($c).nd; obtain ⟨Eh, h⟩ := $d h; exact ⟨$e K E Eh, $f, h⟩) | `($a / $b) => `(vB (i := $a) (show List.Nodup ($b : List Str) by decide +kernel) rfl (Or.inl rfl))
section
variable {w:World} {K:Frag} {h:Heap} {mg:Str->Option Value} {base:Heap} (X:K.In h) (G:h.Ns mainGlobals mg) (e2:Oj.map (λ d=>Oh K d.1)=Oj.map (λ d=>Oi none d.1 d.2)) (z_len:mg "len"=none) (z_sum:mg "sum"=none) (z_zip:mg "zip"=none) (z_dict:mg "dict"=none) (z_min:mg "min"=none) (z_enumerate:mg "enumerate"=none) (z_max:mg "max"=none) (z_isinstance:mg "isinstance"=none) (z_bool:mg "bool"=none) (z_int:mg "int"=none) (z_range:mg "range"=none) (z_tuple:mg "tuple"=none) (z_sorted:mg "sorted"=none) (z_list:mg "list"=none) (z_all:mg "all"=none) (k_BlotError:mg "BlotError"=some (.ref Td)/\ExcK K Td) (k_NotAlike:mg "NotAlike"=some (.ref Te)/\ExcK K Te)
include X G e2 z_len z_sum z_zip z_dict z_min z_enumerate z_max z_isinstance z_bool z_int z_range z_tuple z_sorted z_list z_all k_BlotError k_NotAlike
theorem Rw:1^"inked"^["column"]^sp_f26:=0 / 1 / Ef / Mt / uD / (1&&aq,
  eG PassesOwn.never (aM gm v0 aq (aQ _)) (0&&aD Jw v0 (aD fL v0 aq),
  Jo (i:=1) Ef.nd rfl (Or.inl rfl) aq Jp),
  aP v1)
theorem Rx:2^"apart"^["one","other"]^sp_f28:=1 / 2 / NQ / Mu / uE / (aL (aP (Rw> #[aD yM v0 v1])))
theorem Uv:1^"check_alike"^["one","other"]^sp_f6:=2 / 8 / Rm / R1 / Ca / (aL (bO (aM vH (aK K rfl< #[v0]) (aK K rfl< #[v1]) (aQ _)) (aL yG) aX))
theorem Ry:3^"gap"^["one","other"]^sp_f33:=3 / 7 / NT / Mv / uF / (bV (Uv> #[v0,v1]),
  aP (xK K rfl rfl< #[[none,none] / ["left","right"] / zV K rfl rfl rfl z_zip #[v0,v1] / 7 / ["one","other"] / dB K rfl rfl (aW (0 / ["left","right"]) (aW (1 / ["left","right"]) di)) / cT / (Rx> #[v0,v1])]))
theorem Rz:1^"lettered"^["letters","doors"]^sp_f17:=4 / 11 / NZ / Mw / uG / (aL (aP ([none,none,some 0] / ["sign","room","letters"] / j0 K rfl v1 / 11 / ["letters","doors"] / dB K rfl rfl (aW (0 / ["sign","room","letters"]) (aW (1 / ["sign","room","letters"]) di)) / iW (iH (zp (cF hr) v0 v2) (by with_unfolding_all rfl)) / bj #[v0,dw (cF hr) v2 v0 (λ _ _=>rfl),v1])))
theorem J8:2^"ways_of"^["font","house"]^sp_f21:=5 / 10 / Eg / Mx / uH / (iI (i:=2) Eg.nd rfl (Or.inr rfl) (bI (fX K rfl rfl) rfl z_dict (by ac_nf) #[v0+aq]),
  aP ([none,some 2] / ["doors","letters"] / j0 K rfl (v1+aq) / 10 / ["font","house","letters"] / (0 / ["doors","letters"]) / cT / (Rz> #[v1,v0])))
theorem RB:4^"costs_over"^["font","over"]^sp_f9:=6 / 15 / Ro / R3 / Cd / (2&&qG,
  j0 K rfl (v0+aq)::dB K rfl rfl (aW ↑3 (aW ↑4 di))::(5&&fu rfl< #[aK K rfl< #[v4],aK K rfl< #[v1]],
  jO (cF hr) v2 v3 (Ry> #[bZ (j6 K rfl) v4 du (cj v5),bZ (j6 K rfl) v1 du (cj v5)]) rfl),
  aP v2)
theorem RC:1^"texts_to_rooms"^["ways"]^sp_f0:=7 / 14 / Rp / R4 / Cg / (1&&Fg (qH aq iG vN) rfl rfl (by simp) (by decide),
  2&&bu #[aq],
  eG PassesOwn.never (aM gm (aK K rfl< #[v2]) aq (aQ _)) (3&&tV K rfl PySem.F.plainAttrs_list PySem.F.slot_list_pop PySem.F.type_list_pop zb v2 #[aq],
  bC K rfl (v0-v3)::dB K rfl rfl (aW ↑4 (aW ↑5 (aW ↑6 di)))::aL (bO (iH (mY (cF hr) v6 v1) (by with_unfolding_all rfl)) (jO (cF hr) v1 v6 (aD d7 (dw (cF hr) v1 v3 (λ _ _=>rfl)) v4) rfl,
  bV (v2++ #[v6])) aX)),
  aP v1)
theorem RD:1^"stand_behind"^["way","ahead","over"]^sp_f5:=8 / 16 / Rq / R5 / Ci / (3&&aK K rfl< #[v0+aq],
  bO (aM Ih v3 (aK K rfl< #[v2]) (aQ _)) (aL (aP (bj #[v0+aq,v1,bZ (j6 K rfl) v2 (cj v3) du]))) aX,
  aP (bj #[v1,v0+aq,bZ (j6 K rfl) (v0+aq) (cj (aK K rfl< #[v2])) du]))
theorem J9:5^"forks"^["font","ways"]^sp_f27:=9 / 13 / O1 / Mz / uJ / (2&&qG,
  j0 K rfl (v0+aq)::dB K rfl rfl (aW ↑3 (aW ↑4 di))::aL (jO (cF hr) v2 v3 (RB> #[v0,v4]) rfl),
  5&&bu bW,
  zU (RC> #[v1]):: ↑6::aL (zM K rfl rfl rfl z_enumerate #[v1-v6]::dB K rfl rfl (aW ↑7 (aW ↑8 di))::aL (bC K rfl (bZ (gH K rfl) (v1-v6) du (cj v7)):: ↑9::(10&&RD> #[v9,v8+aq,v8+aq],
  bV (v5++ #[bj #[dw (cF hr) (dw (cF hr) v2 (v8+aq) (λ _ _=>rfl)) (v9+aq) (λ _ _=>rfl),Ox,v6,v9,v8]])))),
  aP v5)
theorem RG:2^"steps_by"^["ways","costs","stand"]^sp_f20:=10 / 17 / O2 / MF / uK / (aL (aP ([none,some 1,some 2] / ["way","costs","stand"] / bC K rfl (v0-(v2+aq)) / 17 / ["ways","costs","stand"] / (0 / ["way","costs","stand"]) / cT / bj #[v0+aq,dw (cF hr) v1 (v0+aq) (λ _ _=>rfl),RD> #[v0,v2+aq,v2+aq]])))
theorem RJ:6^"all_steps"^["font","house"]^sp_f16:=11 / 18 / Ei / MJ / uP / (2&&J8> #[v0,v1],
  3&&zq,
  4&&pD,
  qI (i:=5) [none] ["fork"] rfl Ei.nd rfl rfl (bC K rfl (J9> #[v0,v2])) (show CScope (aF (top 18)) _ from ⟨rfl,by ac_nf,by ac_nf,by ac_nf⟩) (show capOk [none] ["fork"] (["font","house","ways","costs","found","waiting","stand"]:List Str) _=true from by ac_nf) (λ _ _ _ _ _ _=>(0 / ["fork"])) (λ _ _ _ _ _ _=>cT) (λ _ _ _ _ _ _=>(v0+aq)),
  eG PassesOwn.never (aM gm (aK K rfl< #[v5]) aq (aQ _)) (6&&Fx K rfl PySem.F.plainAttrs_list PySem.F.slot_list_pop PySem.F.type_list_pop JP v5,
  bO (iH (nH (cV hr) v6 v4) (by with_unfolding_all rfl)) (bO (iH (mY (cF hr) (v6+aq) v3) (by with_unfolding_all rfl)) (aL (jO (cF hr) v3 (v6+aq) (RB> #[v0,v6+aq]) rfl)) aX,
  pF (cV hr) v4 v6 (RG> #[v2,dw (cF hr) v3 (v6+aq) (λ _ _=>rfl),v6]) rfl,
  bV (tV K rfl PySem.F.plainAttrs_list PySem.F.slot_list_extend PySem.F.type_list_extend xr v5 #[[none] / ["step"] / bC K rfl (gb (cV hr) v4 v6 (λ _ _=>rfl)) / 18 / ["font","house","ways","costs","found","waiting","stand"] / (0 / ["step"]) / cT / (v0+aq)])) aX),
  aP v4)
theorem RK:1^"steps_back"^["onward"]^sp_f11:=12 / 22 / O3 / MK / uR / (1&&pD,
  rJ v0:: ↑2::aL (pF (cV hr) v1 v2 (bu bW) rfl),
  yc v0::dB K rfl rfl (aW ↑2 (aW ↑3 di))::aL (bC K rfl v3::dB K rfl rfl (aW ↑4 (aW ↑5 (aW ↑6 di)))::aL (bV (gb (cV hr) v1 v6 (λ _ _=>rfl)++ #[bj #[v5,v2]]))),
  aP v1)
theorem RL:1^"is_even"^["stand","ends"]^sp_f24:=13 / 23 / O4 / MN / uT / (aL (aP (jZ (dj eN (aK K rfl< #[v0+aq]) aq (aQ _)) (jZ (dj (fV K rfl) (v0+aq) v1 (by with_unfolding_all rfl)) (oA (dj (fV K rfl) (v0+aq) v1 (by with_unfolding_all rfl)))))))
theorem RM:1^"let_wait"^["waiting","rest","backs"]^sp_f19:=14 / 21 / O5 / MT / uU / (aL (bC K rfl v2::dB K rfl rfl (aW ↑3 (aW ↑4 di))::aL (bV (Gu (cF hr) v0 (bj #[aD bK (v1+aq) v3,aD bK (v1+aq) aq]) (bu bW) ⟨rfl,rfl,rfl,rfl⟩++ #[v4]))))
theorem RN:2^"rests"^["onward","ends"]^sp_f30:=15 / 20 / O6 / N6 / uV / (2&&RK> #[v0],
  3&&pD,
  4&&Aq (cF hr) (bj #[aq,aq]) ([none,some 1] / ["stand","ends"] / rJ v0 / 20 / ["onward","ends","backward","found","waiting","rest","reached","stand"] / (0 / ["stand","ends"]) / iW (dZ K rfl (RL> #[v0,v1]) (λ _=>rfl)) / v0),
  eG PassesOwn.never (aM gm (xZ< #[v4]) aq (aQ _)) (5&&yd rfl (cF hr)< #[v4],
  6&&Gs (cF hr) v4 v5 ⟨rfl,rfl,rfl,rfl⟩,
  bC K rfl v6:: ↑7::aL (bO (iH (nH (cV hr) v7 v3) (by with_unfolding_all rfl)) (pF (cV hr) v3 v7 v5 rfl,
  bV (RM> #[v4,v5,gb (cV hr) v2 v7 (λ _ _=>rfl)])) aX)),
  aP v3)
theorem Ja:1^"grown"^["texts","sign","passes"]^sp_f29:=16 / 26 / O7 / N7 / uW / (3&&aD d7 (v0+aq) v1,
  aP (yE (dZ K rfl v2 (λ _=>rfl)) (bj #[v0+aq,v3]) (bj #[v3,v0+aq])))
theorem Uw:2^"texts_of_fork"^["ways","fork"]^sp_f1:=17 / 25 / Rr / R9 / CZ / (2&&dw (cF hr) (RC> #[v0]) (v1+aq) (λ _ _=>rfl),
  3&&v1+aq,
  4&&v1+aq,
  aP (Ja> #[bj #[v2,aD d7 v2 (v4+aq)],v3+aq,dj gm (aK K rfl< #[v3+aq]) (aK K rfl< #[v4+aq]) (aQ _)]))
theorem RP:1^"step_on"^["steps","found","rest"]^sp_f23:=18 / 28 / O8 / Nb / uX / (bC K rfl v0:: ↑3::aL (bO (aM (jP K rfl hr.units) (Bk (cV hr) v1 (v3+aq) ⟨rfl,rfl,rfl,rfl⟩) (bj #[aD fL (v2+aq) (v3+aq),aD fL (v2+aq) aq]) (aQ _)) (aL (aP v3)) aX),
  aP jg)
theorem RQ:2^"led_on"^["font","onward","found","stand","texts"]^sp_f25:=19 / 27 / O9 / Nf / uY / (5&&bI (fX K rfl rfl) rfl z_dict (by ac_nf) #[v0+aq],
  eG PassesOwn.never (aM (vQ K rfl hr.units) (gb (cV hr) v2 v3 (λ _ _=>rfl)) (bj #[aq,aq]) (aQ _)) (6&&RP> #[gb (cV hr) v1 v3 (λ _ _=>rfl),v2,gb (cV hr) v2 v3 (λ _ _=>rfl)],
  4&&Ja> #[v4,v6+aq,dj gm (aK K rfl< #[dw (cF hr) v5 (v6+aq) (λ _ _=>rfl)]) (aK K rfl< #[v3+aq]) (aQ _)],
  3&&v6+aq),
  aP v4)
theorem Jb:7^"farness"^["font","house"]^sp_f22:=20 / 24 / vz / Nm / uZ / (2&&J8> #[v0,v1],
  3&&RJ> #[v0,v1],
  iI (i:=4) vz.nd rfl (Or.inr rfl) (RN> #[v3,v1+aq]),
  qI (i:=5) [none,some 4] ["fork","found"] rfl vz.nd rfl rfl (bC K rfl (J9> #[v0,v2])) (show CScope (aF (top 24)) _ from ⟨rfl,by ac_nf,by ac_nf,by ac_nf⟩) (show capOk [none,some 4] ["fork","found"] (["font","house","ways","onward","found","pairs","least","texts"]:List Str) _=true from by ac_nf) (λ _ _ _ _ _ _=>(0 / ["fork","found"])) (λ _ _ _ _ _ _=>iW (iH (Kw (cV hr) (v0+aq) v1) (by with_unfolding_all rfl))) (λ _ _ _ _ _ _=>(bj #[aD bK (v0+aq) (gb (cV hr) v1 (v0+aq) (λ _ _=>rfl)+aq),v0])),
  bO (aM eN (aK K rfl< #[v5]) aq (aQ _)) (aL (aP jg)) aX,
  6&&rO K rfl rfl (Gm hr)< #[v5],
  7&&RQ> #[v0,v3,v4,v6+aq+aq,Uw> #[v2,v6+aq]],
  aP (bj #[v6+aq,ut K rfl rfl< #[v7],uv K rfl rfl< #[v7]]))
theorem RT:8^"mends"^["font","house"]^sp_f31:=21 / 29 / Oa / Np / vd / (2&&Jb> #[v0,v1],
  bO (aM yP v2 jg (aQ _)) (aL (aP jg)) aX,
  aP (aD bf (aD fL (v2+aq) aq) aq))
theorem sS:1^"_law_cell_at"^["script","k"]^sp_f4:=22 / 31 / Rt / Rf / Dm / (bO (aM yO v1 (aK K rfl< #[v0]) (aQ _)) (aL (aP (v0-v1))) aX,
  aP aq)
theorem Jc:1^"_law_whole"^["found"]^sp_f12:=23 / 32 / Ob / Nq / vf / (aL (aP (jZ (fW K rfl< #[v0,ou (v:= .ty "int") (u:= .type "int") rfl z_int (by ac_nf) rfl]) (oA (Jj (fW K rfl< #[v0,ou (v:= .ty "bool") (u:= .type "bool") rfl z_bool (by ac_nf) rfl]))))))
theorem RV:1^"_law_signs"^["cell","many"]^sp_f13:=24 / 33 / Oc / Nt / vg / (2&&iG,
  2&&aD d7 v2 iG,
  3&&aD bf v0 aq,
  bO (aM eN (aD bh v0 aq) aq (aQ _)) (aL (3&&aD bK (aD vX v3 (aD yL aq aq)) aq)) aX,
  4&&bu bW,
  cM rfl z_range #[v1]:: ↑5::(6&&aD bh v3 (aK K rfl< #[v2]),
  3&&aD bf v3 (aK K rfl< #[v2]),
  bV (v4++ #[z6 JH v2 v6 (λ _ _=>rfl)]),
  2&&aD d7 (bZ zL v2 du (cj v6)) (bZ zL v2 (cj (aD bK v6 aq)) du)),
  aP v4)
theorem Ux:2^"_law_letters"^["script","many","most","height","alike"]^sp_f3:=25 / 34 / J5 / Rg / Dr / (5&&bu bW,
  cM rfl z_range #[v1]:: ↑6::(7&&sS> #[v0,aD bK aq v6],
  8&&aD bK aq (aD bh v7 v2),
  iI (i:=9) J5.nd rfl (Or.inr rfl) (aD bh (aD vX (aD bK (aD bf v7 v2) v6) (aD yL aq aq)) (aD oE aq (aD iJ v3 v8))),
  10&&bI (bL K rfl) rfl z_tuple (by ac_nf) #[[none,some 9,some 3] / ["j","number","height"] / cM rfl z_range #[v8] / 34 / ["script","many","most","height","alike","letters","k","cell","wide","number","columns"] / (0 / ["j","number","height"]) / cT / aD bh (aD rC v1 (aD oE aq (aD iJ v2 v0))) (aD oE aq v2)],
  bO (PW.pt (gB (dZ K rfl v4 (λ _=>rfl)) (gR (aM eN (aD bh v6 aq) aq (aQ _))))) (aL (10&&v5-aD fL v6 aq)) aX,
  bV (v5++ #[Ox])),
  aP v5)
theorem RW:2^"_law_shape"^["script"]^sp_f14:=26 / 35 / Od / Nu / vh / (1&&sS> #[v0,aq],
  2&&aD bh v1 aq,
  3&&aD bK aq (aD bh (aD bf v1 aq) aq),
  4&&aD bK aq (aD bh (sS> #[v0,aq]) aq),
  5&&sS> #[v0,aq],
  6&&aD bK aq (aD bh (aD bf v5 aq) (bu #[aq,aq,aq,aq]-aD bh v5 aq)),
  7&&fu rfl< #[(by (with_reducible refine bu ?_);(with_reducible refine @fM _ _ _ _ _ ?_ ?_ rfl);(exact aq);(with_reducible refine @fM _ _ _ _ _ ?_ ?_ rfl);(exact aq);(with_reducible refine @fM _ _ _ _ _ ?_ ?_ rfl);(exact aq);(with_reducible refine @fM _ _ _ _ _ ?_ ?_ rfl);(exact aq);(with_reducible refine @fM _ _ _ _ _ ?_ ?_ rfl);(exact aq);exact bW)-aD bh (sS> #[v0,aq]) aq,aD bf aq v6],
  bO (PW.pt (gB (aM gm v2 aq (aQ _)) (gR (aM eN (aD bh (aD bf v1 aq) aq) aq (aQ _))))) (4&&aq,
  7&&fu rfl< #[v7,aD fL v2 aq],
  3&&aD bK aq (aD bh (aD bf v1 aq) (bu #[aq,aq,aq]-aD bK (aD fL v2 aq) (bI wY rfl z_int (by ac_nf) #[jZ (dj gm v2 aq (aQ _)) (oA (dj eN v7 aq (aQ _)))]))),
  bO (PW.pt (gB (aM eN v2 aq (aQ _)) (gR (aM eN (aD bh (aD bf v1 aq) aq) aq (aQ _))))) (3&&aD bK aq (aD bh (aD bf v1 aq) aq),
  4&&aD bK aq (aD bh (aD bf v1 aq) aq),
  6&&fu rfl< #[v6,aq],
  aP (bj #[v2,v3,v4,v7,v6])) aX) aX,
  eG PassesOwn.never (PW.pt (gB (aM gm v4 aq (aQ _)) (gR (aM gm (aD iJ (aD iJ (aD iJ v3 v3) (aD bK aq (aD iJ v4 v7))) v4) aq (aQ _))))) (aL (4&&aD fL v4 aq)),
  aP (bj #[v2,v3,v4,v7,v6]))
theorem RX:3^"_law_font"^["script","shape","signs"]^sp_f15:=27 / 36 / Ej / Nv / vm / (3&&dj eN (aD bh (aD bf (sS> #[v0,aq]) aq) aq) aq (aQ _),
  iI (i:=4) Ej.nd rfl (Or.inr rfl) (Ux> #[v0,v1+aq,v1+aq,v1+aq,v3]),
  aP (bj #[v1+aq,bI (tX K rfl) rfl z_tuple (by ac_nf) #[fZ K rfl< #[[none,some 2,some 4] / ["k","signs","letters"] / cM rfl z_range #[v1+aq] / 36 / ["script","shape","signs","alike","letters"] / (0 / ["k","signs","letters"]) / cT / bj #[v1-v0,v2-v0]]]]))
theorem Uy:1^"_law_drawn"^["cells","many","signs"]^sp_f8:=28 / 37 / J6 / Ri / DN / (qI (i:=3) [none] ["k"] rfl J6.nd rfl rfl (cM rfl z_range #[v1]) (show CScope (aF (top 37)) _ from ⟨rfl,by ac_nf,by ac_nf,by ac_nf⟩) (show capOk [none] ["k"] (["cells","many","signs","doors","ends","cell","room","sign","rest","last"]:List Str) _=true from by ac_nf) (λ _ _ _ _ _ _=>(0 / ["k"])) (λ _ _ _ _ _ _=>cT) (λ _ _ _ _ _ _=>(bu bW)),
  4&&bu bW,
  bC K rfl v0:: ↑5::(6&&aD bh v5 v1,
  7&&v2-aD bh (aD bf v5 v1) (aK K rfl< #[v2]),
  8&&aD bf (aD bf v5 v1) (aK K rfl< #[v2]),
  bO (aM (iC K rfl) v7 ([none] / ["pair"] / bC K rfl (v3-v6) / 37 / ["cells","many","signs","doors","ends","cell","room","sign","rest","last"] / (0 / ["pair"]) / cT / (v0+aq)) (by with_unfolding_all rfl)) (aL (bV ((v3-v6)++ #[bj #[v7,aD bh v8 v1]]))) aX,
  9&&aD bh (aD bf (aD bf v8 v1) aq) v1,
  bO (PW.pt (gB (aM eN (aD bh (aD bf v8 v1) aq) aq (aQ _)) (gR (aM (iC K rfl) v9 v4 (by with_unfolding_all rfl))))) (aL (bV (v4++ #[v9]))) aX),
  aP (bj #[bI (bL K rfl) rfl z_tuple (by ac_nf) #[[none] / ["pairs"] / bC K rfl v3 / 37 / ["cells","many","signs","doors","ends","cell","room","sign","rest","last"] / (0 / ["pairs"]) / cT / bI (bL K rfl) rfl z_tuple (by ac_nf) #[fZ K rfl< #[v0]]],bI (bL K rfl) rfl z_tuple (by ac_nf) #[qM K rfl< #[v4]]]))
theorem UG:2^"_law_house"^["script","shape","signs"]^sp_f7:=29 / 38 / Ru / Rj / DP / (sX (bZ (Fw K rfl) v1 du (cj aq)) (dB K rfl rfl (aW ↑3 (aW ↑4 (aW ↑5 di)))),
  bO (aM yO v3 aq (aQ _)) (aL (aP (Uy> #[bZ (gH K rfl) v0 (cj aq) (cj aq),v4,v2]))) aX,
  6&&bu bW,
  cM rfl z_range #[v4]:: ↑7::(8&&bu bW,
  cM rfl z_range #[v5]:: ↑9::aL (bO (aM eN v3 aq (aQ _)) (aL (bV (v8++ #[bj #[v2-v9,aD bh (aD bK (aD bK v7 v9) aq) v4]]))) (aL (bO (aM eN (aD bh (aD rC (sS> #[v0,aD bK aq v7]) (aD oE aq v9)) aq) aq (aQ _)) (aL (bV (v8++ #[bj #[v2-v9,aD bK v7 aq]]))) aX))),
  bV (v6++ #[bI (bL K rfl) rfl z_tuple (by ac_nf) #[fZ K rfl< #[v8]]])),
  bO (aM eN v3 aq (aQ _)) (aL (aP (bj #[bI (bL K rfl) rfl z_tuple (by ac_nf) #[v6],bj #[aq]]))) aX,
  aP (bj #[bI (bL K rfl) rfl z_tuple (by ac_nf) #[aD JQ v6 (bu #[bj bW])],bj #[v4]]))
theorem RZ:1^"_law_spots"^["one","other"]^sp_f10:=30 / 39 / Oe / Ny / vo / (2&&aq,
  cM rfl z_range #[fu rfl< #[aK K rfl< #[v0],aK K rfl< #[v1]]]:: ↑3::(4&&aD yM (v0-v3) (v1-v3),
  eG PassesOwn.never (aM gm v4 aq (aQ _)) (2&&aD bK v2 (aD bh v4 aq),
  4&&aD bf v4 aq)),
  aP v2)
theorem S7:1^"_law_way"^["house","pictures","room","over","cell"]^sp_f18:=31 / 40 / vA / Nz / vq / (qI (i:=5) [none,some 1] ["pair","pictures"] rfl vA.nd rfl rfl (j0 K rfl (v0+aq+v2)) (show CScope (aF (top 40)) _ from ⟨rfl,by ac_nf,by ac_nf,by ac_nf⟩) (show capOk [none,some 1] ["pair","pictures"] (["house","pictures","room","over","cell","some","same"]:List Str) _=true from by ac_nf) (λ _ _ _ _ _ _=>(0 / ["pair","pictures"])) (λ _ _ _ _ _ _=>iW (iH (zp (cF hr) (v0+aq) v1) (by with_unfolding_all rfl))) (λ _ _ _ _ _ _=>v0),
  bO (aM (jP K rfl hr.units) v5 (bu bW) (aQ _)) (aL (aP jg)) aX,
  bO (aM eN (aD bh v4 aq) aq (aQ _)) (qI (i:=6) [none,some 1,some 3] ["pair","pictures","over"] rfl vA.nd rfl rfl (bC K rfl v5) (show CScope (aF (top 40)) _ from ⟨rfl,by ac_nf,by ac_nf,by ac_nf⟩) (show capOk [none,some 1,some 3] ["pair","pictures","over"] (["house","pictures","room","over","cell","some","same"]:List Str) _=true from by ac_nf) (λ _ _ _ _ _ _=>(0 / ["pair","pictures","over"])) (λ _ _ _ _ _ _=>iW (aM eN (aK K rfl< #[dw (cF hr) v1 (v0+aq) (λ _ _=>rfl)]) (aK K rfl< #[v2]) (aQ _))) (λ _ _ _ _ _ _=>v0),
  bO (aM (vQ K rfl hr.units) v6 (bu bW) (aQ _)) (aL (aP (v6-aD bh (aD bf v4 aq) (aK K rfl< #[v6])))) aX) aX,
  aP (v5-aD bh (aD bf v4 aq) (aK K rfl< #[v5])))
theorem UJ:2^"_law_meetings"^["house","pictures","cells"]^sp_f2:=32 / 41 / Rv / Rk / DX / (3&&bu #[iG,iG],
  4&&bu #[aq,aq],
  5&&bu bW,
  6&&aq,
  7&&bu bW,
  bC K rfl v2:: ↑8::(9&&S7> #[v0,v1,v4-aq,v5,v8],
  bO (aM yP v9 jg (aQ _)) (3&&bu #[iG,iG],
  4&&bu #[aq,aq],
  5&&bu bW,
  6&&aq) (10&&bI (mj K rfl) rfl z_list (by ac_nf) #[dw (cF hr) v1 (v9+aq) (λ _ _=>rfl)],
  6&&aD bK v6 (RZ> #[Ox,v5]),
  sX (aD d7 (v3-aq) (v9+aq)) (yI v3 aq set_list),
  sX (v9+aq) (yI v4 aq set_list),
  bO (aM gm (aK K rfl< #[Ox]) (aK K rfl< #[v5]) (aQ _)) (3&&bu #[v3-aq,v3-aq],
  4&&bu #[v4-aq,v4-aq],
  5&&bZ (gH K rfl) Ox (cj (aK K rfl< #[v5])) du) (aL (5&&bZ (gH K rfl) v5 (cj (aK K rfl< #[Ox])) du)),
  bO (PW.pt (gB (aM (jP K rfl hr.units) v5 (bu bW) (aQ _)) (gB (aM vH (v3-aq) (v3-aq) (aQ _)) (gB (aM (fV K rfl) (v4-aq) (v0+aq) (by with_unfolding_all rfl)) (gR (aM (fV K rfl) (v4-aq) (v0+aq) (by with_unfolding_all rfl))))))) (aL (bV (v7++ #[v6]))) aX)),
  aP v7)
end
theorem Og {K:Frag} {h:Heap} {fa:Addr} (X:K.In h) (G:h.Ns mainGlobals mg) (hfa:mg "law"=some (.ref fa)) (e:obs K=ans)
  : ∃fd:FuncData,(∀ (s:Shared) (v:Value),BindsTo s fd ⟨[v],[]⟩ [Prod.mk "script" v])/\ ∀base:Heap,K.In base->base.Ns mainGlobals mg->FnOk pWo w K mg base Ik 9 fa fd ["script"] (sp_f32 K):=by
 have e1:nms.map (nsIn K mainGlobals)=UT:=Yt (·.1) e;have e2:Oj.map (λ d=>Oh K d.1)=Oj.map (λ d=>Oi none d.1 d.2):=Yt (·.2.1) e;have e3:=Yt (·.2.2) e;obtain @⟨_,_,kV,dc,pm,cd,ct,_,an,_,a,lL,qL,kL⟩:=J7 (mC e2 33 rfl rfl:Oh K "law"=Oi none "law" 42)
 cases hfa.symm.trans (mg_of X G a);refine ⟨fnOf "law" "law" (dR (top 42)) (dh (top 42)) (aF (top 42)) .none kV dc pm an cd ct,λ s v=> .of_eq rfl,λ base _ _=> ?_⟩;have z_len:mg "len"=none:=mg_none_of X G (mC e1 0 rfl rfl);have z_sum:mg "sum"=none:=mg_none_of X G (mC e1 1 rfl rfl);have z_zip:mg "zip"=none:=mg_none_of X G (mC e1 2 rfl rfl);have z_dict:mg "dict"=none:=mg_none_of X G (mC e1 3 rfl rfl);have z_min:mg "min"=none:=mg_none_of X G (mC e1 4 rfl rfl);have z_enumerate:mg "enumerate"=none:=mg_none_of X G (mC e1 5 rfl rfl);have z_max:mg "max"=none:=mg_none_of X G (mC e1 6 rfl rfl);have z_isinstance:mg "isinstance"=none:=mg_none_of X G (mC e1 7 rfl rfl);have z_bool:mg "bool"=none:=mg_none_of X G (mC e1 8 rfl rfl);have z_int:mg "int"=none:=mg_none_of X G (mC e1 9 rfl rfl);have z_range:mg "range"=none:=mg_none_of X G (mC e1 10 rfl rfl);have z_tuple:mg "tuple"=none:=mg_none_of X G (mC e1 11 rfl rfl);have z_sorted:mg "sorted"=none:=mg_none_of X G (mC e1 12 rfl rfl);have z_list:mg "list"=none:=mg_none_of X G (mC e1 13 rfl rfl);have z_all:mg "all"=none:=mg_none_of X G (mC e1 14 rfl rfl);have k_BlotError:mg "BlotError"=some (.ref Td)/\ExcK K Td:=⟨mg_of X G (mC e1 15 rfl rfl),Ek (mC e3 0 rfl rfl)⟩;have k_NotAlike:mg "NotAlike"=some (.ref Te)/\ExcK K Te:=⟨mg_of X G (mC e1 16 rfl rfl),Ek (mC e3 1 rfl rfl)⟩;have F:=tO (st:=top 42) lL qL kL;exact F.ok qd (λ _ _ _ _ h=>NP h) λ cdv A outer s H vs Q E hr h=>by
  have nd:=qd.nd;obtain ⟨Eh,h⟩:=NK h;exact ⟨vy K E Eh,(1&&RW> #[v0],
   2&&RV> #[sS> #[v0,aq],aD bK (v1+aq) aq],
   3&&RX> #[v0,v1,v2],
   4&&UG> #[v0,v1,v2],
   5&&UJ> #[v4,bI (fX K rfl rfl) rfl z_dict (by ac_nf) #[v3+aq],bZ (gH K rfl) v0 (cj aq) (cj aq)],
   bO (aM (jP K rfl hr.units) v5 (bu bW) (aQ _)) (aL (aP yw)) aX,
   iI (i:=6) qd.nd rfl (Or.inr rfl) (Jb> #[v3,v4]),
   bO (PW.pt (yC (sW (dZ K rfl (fW K rfl< #[v6,ou (v:= .ty "tuple") (u:= .type "tuple") rfl z_tuple (by ac_nf) rfl]) (λ _=>rfl))) (yC (aM vH (aK K rfl< #[v6]) aq (aQ _)) (yz (sW (dZ K rfl (Jc> #[v6+aq]) (λ _=>rfl))))))) (aL (aP yw)) aX,
   iI (i:=7) qd.nd rfl (Or.inr rfl) (RT> #[v3,v4]),
   bO (PW.pt (yC (sW (dZ K rfl (Jc> #[v7]) (λ _=>rfl))) (yz (aM vH v7 (aD bf (aD fL (v6+aq) aq) aq) (aQ _))))) (aL (aP yw)) aX,
   aP (xN K rfl rfl< #[[none,some 6,some 7] / ["total","found","mended"] / bC K rfl v5 / 42 / ["script","shape","signs","font","house","gaps","found","mended"] / (0 / ["total","found","mended"]) / cT / jZ (dj Ih (v1+aq) v0 (aQ _)) (oA (dj yO (aD iJ aq v2) v0 (aQ _)))])),h⟩
end
theorem fin:PySem.Challenge.rw_blotsure_k56_whole_no_two_nearer.Holds:=by
 refine holds_law said λ said=>holds_open (q:=vw) (loose:=[]) (Xt:=λ s=>xlAt vw [] s&&recOk [] s) (XP:=XL vw []) (Ya:=λ _=>ans) (YP:=λ _ h=> ∃K:Frag,K.In h/\obs K=ans) left (λ w s e=>⟨_,nZ,e⟩) (λ w h h' ⟨K,X,e⟩ k=>⟨K,Frag.In.keeps X k,e⟩) (λ s e=>xl_of s (Bool.and_eq_true_iff.mp e).1) XL.keeps (by rfl) (by rfl) (by rfl) (λ s e=>recFacts_of (Bool.and_eq_true_iff.mp e).2) (by rfl) said (by ac_nf) ⟨rfl,rfl,rfl,rfl,rfl,by ac_nf⟩ ?hw ?hc
 case hw=>w_witness2
 rintro w s s' mg mb G ⟨K,X,e⟩;exact L2.xT (n:=63) (k:=9) (x:="script") (CX:=λ _=>L2.Ik) (K:=λ _=>K) (YP:=λ _ h=>K.In h) (sp:=λ _=>sp_f32 K) rfl (by decide) rfl ⟨rfl,by decide,by decide⟩ (λ _ _ Y=>Y) (λ _ _ _ _ KX G hmg=>Og KX G hmg e) (λ _ _ a ns hl hb _ hS=>⟨a,ns,rfl,hS,hl,hb,λ _=>rfl⟩) (λ _ _ _ _ _ z=>z) w s s' mg mb G X
end Pg
open PySem PySem.W PyProof.Rows
theorem PySem.Challenge.cw_blotsure_k56_whole_no_two_nearer_holds : PySem.Challenge.rw_blotsure_k56_whole_no_two_nearer.Holds :=
 Pg.fin
