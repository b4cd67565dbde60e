import PyProof.Rows.All
import Wide.All
import OpenK.AllK
import PySem.Challenge.RW_blotsure_k62_guards
abbrev Qb:=@PySem.wpAny_bind
abbrev Qr:=@List.length_map
abbrev Za:=@List.mem_singleton
abbrev Zb:=@List.mem_map
abbrev Zc:=@PySem.wpAny_pure
abbrev Zd:=@PySem.Heap.get?_push_of_some
abbrev Ze:=@List.getElem?_eq_getElem
abbrev Zf:=@List.mem_of_getElem?
abbrev Zg:=@List.map_append
abbrev Zh:=@PySem.Heap.lt_size
abbrev Zi:=@List.getElem?_map
abbrev Zj:=@List.getElem?_eq_some_iff
abbrev Zk:=@List.mem_cons
abbrev Zl:=@List.map_cons
abbrev Zm:=@Nat.le_refl
abbrev Zn:=@List.map_map
abbrev Zo:=@PySem.Heap.get?_push_size
abbrev Zp:=@List.mem_append
abbrev Zq:=@List.length_append
abbrev Zr:=@List.getD_eq_getElem?_getD
abbrev Zs:=@List.mem_cons_of_mem
abbrev Zt:=@List.mem_cons_self
abbrev Zu:=@Bool.false_ne_true
abbrev Zv:=@decide_eq_false
abbrev Zw:=@List.mem_append_right
abbrev Zx:=@Nat.lt_of_lt_of_le
abbrev Zy:=@List.size_toArray
abbrev Zz:=@decide_eq_true
abbrev Yb:=@Nat.ne_of_lt
abbrev Yc:=@congrArg
abbrev Yd:=@List.length_take
abbrev Ye:=@Option.map_eq_some_iff
abbrev Yf:=@List.length_singleton
abbrev Yg:=@List.take_add_one
abbrev Yh:=@Bool.false_eq_true
abbrev Yi:=@Option.some.inj
abbrev Yj:=@Nat.lt_of_le_of_lt
abbrev Yk:=@Int.toNat_natCast
abbrev Yl:=@Nat.le_trans
abbrev Ym:=@List.mem_append_left
abbrev Yn:=@List.not_mem_nil
abbrev Yo:=@PySem.wpAny_call_entry
abbrev Yp:=@PySem.wpAny_holding
abbrev Yq:=@List.take_length
abbrev Yr:=@Nat.zero_le
abbrev Ys:=@PySem.wpAny_newObj_type
abbrev Yt:=@List.nodup_append
abbrev Yu:=@List.take_of_length_le
abbrev Yv:=@PySem.wpAny_mono
abbrev Yw:=@List.forIn_cons
abbrev Yx:=@PySem.wpAny_field
abbrev Yy:=@List.mem_range
abbrev Yz:=@PyProof.Rows.wpS_bind
abbrev Xs:=@PySem.F.excBase_ValueError
abbrev Wp:=@List.length_cons
set_option Elab.async false
set_option linter.all false
set_option maxRecDepth 100000
noncomputable section
local macro_rules | `(tactic| ac_rfl) => `(tactic| exact ⟨rfl,rfl,rfl,by decide+kernel,rfl,by decide+kernel,by decide+kernel⟩)
local macro_rules | `(tactic| ac_nf) => `(tactic| decide+kernel)
set_option maxHeartbeats 4000000
local macro_rules | `(tactic| rfl') => `(tactic| first | lia | omega)
local macro_rules | `(tactic| show $e) => `(tactic| exact $e)
local macro_rules | `(#[$a,*]) => `(⟨$a,*⟩)
local macro_rules | `(tactic| let $p:term $[:$t]? :=$e)=>do
 let rec g:Nat->Lean.Term->Lean.MacroM (Lean.TSyntax `Lean.Parser.Tactic.rcasesPatMed)
  |0,_=>Lean.Macro.throwUnsupported
  |n+1,t=>do
   match t with
   |`(#[$a,*])=>do
    let b<-a.getElems.mapM (g n)
    `(Lean.Parser.Tactic.rcasesPatMed|⟨$[$b:rcasesPatMed],*⟩)
   |`($i:ident)=>`(Lean.Parser.Tactic.rcasesPatMed|$i:ident)
   |_=>`(Lean.Parser.Tactic.rcasesPatMed|_)
 `(tactic| obtain $(<-g 9 p):rcasesPatMed $[:$t]? :=$e)
local macro_rules | `(()) => `(by rfl')
namespace L2
open PySem
def cg (s:Stmt):Arguments:=match s with
 | .FunctionDef _ a _ _ _ _ _ _ _ _=>a
 | _=>{ posonlyargs:=[],args:=[],vararg:=none,kwonlyargs:=[],kw_defaults:=[],kwarg:=none,defaults:=[] }
def bL (s:Stmt):List Stmt:=match s with
 | .FunctionDef _ _ b _ _ _ _ _ _ _=>b
 | _=>[]
def au (s:Stmt):Scope:=match s with
 | .FunctionDef _ _ _ _ _ _ sc _ _ _=>sc
 | _=>{ kind:= .function,names:=[],isGenerator:=false,isCoroutine:=false }
end L2
abbrev pWo:=PySem.Challenge.pw_blotsure_k62_guards
abbrev L1S:=List (PySem.Str×Int)
abbrev L2S:=List L1S
namespace Pg
open PySem L2 PySem.W
set_option maxHeartbeats 0
def top (i:Nat):Stmt:=pWo.main.body.getD i (.Pass #[0,0,0,0])
def K7 (as:List Addr) (h:Heap):Frag:=as.filterMap λ a=>(h.get? a).map λ o=>(a,o)
theorem pC {h:Heap}: ∀ {as:List Addr},(K7 as h).In h
 | [],_,_,e=>nomatch e
 | a::as,b,o,e=>by
  unfold K7 at e;rw [List.filterMap_cons] at e
  cases q:h.get? a with
  | none=>rw [q] at e;show pC (as:=as) b o e
  | some o'=>
   rw [q] at e;simp only [Option.map_some,List.lookup_cons] at e;split at e
   .rename_i z;rw [eq_of_beq z,q];show e
   .exact pC (as:=as) b o e
abbrev DO:=Str×Str×Arguments×FuncBody×Scope×Addr×List (Str×Addr)×Addr×Bool×Bool
def Jt (K:Frag) (n:Str):Option (Option Addr×DO):=match nsIn K mainGlobals n with
 | some (some (.ref f))=>match K.lookup f with
  | some ⟨_,_, .func d,_⟩=>(match d.defaults with | .none=>some none | .ref t=>some (some t) | _=>none).map λ t=>(t,d.name,d.qualname,d.params,d.body,d.scope,d.globals,d.closure,d.builtins,codeIn K d.code n,keepIn K (.ref f))
  | _=>none
 | _=>none
def Ju (t:Option Addr) (n:Str) (i:Nat):Option (Option Addr×DO):=some (t,n,n,cg (top i), .stmts (bL (top i)),au (top i),mainGlobals,[],builtinsNs,true,true)
def V5 (K:Frag) (C:Addr):Bool×List (Option (Option Value))×List (Option Bool):=
 (excIn K C [.type "ValueError", .type "Exception", .type "BaseException", .type "object"] "ValueError.__new__",[findIn K (.ref C) "__getattribute__",findIn K (.ref C) "__getattr__",findIn K (.ref C) "__class__",specialIn K (.builtin "object.__class__") "__get__"],[takesIn K (.builtin "object.__class__"),mroIn K C (.type "object"),subIn K (.ref C) (.type "BaseException")])
def Qs:Bool×List (Option (Option Value))×List (Option Bool):=(true,[some (some (.builtin "BaseException.__getattribute__")),some none,some (some (.builtin "object.__class__")),some (some (.builtin "getset_descriptor.__get__"))],[some true,some true,some true])
def V6 (K:Frag) (a:Addr):Option (Value×List Value):=match K.lookup a with
 | some ⟨c,_, .seq its _,_⟩=>some (c,its.toList)
 | _=>none
def nms:List Str:=(["isinstance","bool","int","len","str","ord","sum","zip","dict","min","enumerate","max","tuple","sorted","range","ValueError","list","LEFT_OUT","MOST_ROOMS","GREATEST_ON_WHEEL","BlotError","NotAlike","NoSign","NoHouse","PLAIN_WHEEL"]:List String).map Str.ofString
def W7:List (Option (Option Value)):=[some none,some none,some none,some none,some none,some none,some none,some none,some none,some none,some none,some none,some none,some none,some none,some none,some none,some (some (.int 37 189)),some (some (.int 40 477)),some (some (.int 1000 525)),some (some (.ref 52)),some (some (.ref 65)),some (some (.ref 77)),some (some (.ref 89)),some (some (.ref 244))]
def Qt:List (Str×Nat):=((["is_whole","is_sign","inked","apart","check_alike","gap","lettered","ways_of","costs_over","texts_to_rooms","stand_behind","forks","steps_by","all_steps","steps_back","is_even","let_wait","rests","grown","texts_of_fork","step_on","led_on","farness","check_rooms","check_room","made_doors","made_ends","make_house","check_wheel","sums_doors","far_of","guards","_law_cell_at","_law_mix","_law_sign","_law_signs","_law_column","_law_font","_law_shuffled","_law_wished_by","_law_refused","_law_far_of","_law_good","law"]:List String).map Str.ofString).zip [2,3,4,5,13,12,16,15,20,19,21,18,22,23,27,28,26,25,31,30,33,32,29,37,40,38,39,36,45,46,49,48,51,52,53,54,55,56,57,58,59,60,61,62]
def obs (K:Frag):=(nms.map (nsIn K mainGlobals),Qt.map (λ d=>Jt K d.1),[52,65,77,89].map (V5 K),[Jt K "sums"],[245,244].map (V6 K),[(exmOne K (.ref 89) (.ref 52),kitOne K (.ref 89) (.type "ValueError"),([kitOne K (.ref 89) (.ref 89),kitOne K (.ref 89) (.ref 77)]:List (Option Bool)),([]:List (Option Bool)))])
def ans:List (Option (Option Value))×List (Option (Option Addr×DO))×List (Bool×List (Option (Option Value))×List (Option Bool))×List (Option (Option Addr×DO))×List (Option (Value×List Value))×List (Option Bool×Option Bool×List (Option Bool)×List (Option Bool)):=(W7,Qt.map (λ d=>Ju none d.1 d.2),[Qs,Qs,Qs,Qs],[Ju (some 245) "sums" 44],[some (.type "tuple",[.none]),some (.type "tuple",[.int 1 523])],[(some true,some true,[some true,some false],[])])
def vw:Program:={ pWo with main:={ pWo.main with body:=[1,2,3,4,5,7,8,9,10,12,13,15,16,18,19,20,21,22,23,25,26,27,28,29,30,31,32,33,35,36,37,38,39,40,42,43,45,46,48,49,51,52,53,54,55,56,57,58,59,60,61,62].filterMap (pWo.main.body[·]?) } }
theorem said:PySem.Challenge.rw_blotsure_k62_guards.wellSaid=true:=by kernel_rfl
theorem spl {α β γ:Type} {o:Option α} {f:α->β} {g:α->γ} {x:β} {y:γ} (h:o.map f=some x) (k:o.map g=some y):o.map (λ s=>(f s,g s))=some (x,y):=by cases o with | none=>cases h | some s=>cases h;cases k;rfl
theorem left0 (w:World):(openEnds treeTable pWo w 4806).map (λ s=>openSeen vw ["sums"] (importedModules (pWo).main.body) (λ s=>xlAt vw [] s&&recOk [] s) true s)=some (openGood vw ["sums"]):=by kernel_rfl
def ob (s:Shared):=obs (K7 [2,3,15,17,18,20,21,22,24,25,27,28,29,31,32,34,35,36,38,39,41,42,43,50,51,52,53,56,63,64,65,68,75,76,77,80,87,88,89,92,95,96,97,99,100,102,103,104,107,108,109,112,113,114,116,117,119,120,121,123,124,126,127,128,130,131,133,134,135,137,138,140,141,142,145,146,147,150,151,152,155,156,157,159,160,162,163,164,166,167,169,170,171,173,174,176,177,178,181,182,183,185,186,188,189,190,192,193,195,196,197,199,200,202,203,204,206,207,209,210,211,214,215,216,218,219,221,222,223,225,226,228,229,230,232,233,235,236,237,239,240,242,243,244,245,246,249,250,251,253,254,256,257,258,261,262,263,265,266,268,269,270,272,273,275,276,277,279,280,282,283,284,286,287,289,290,291,293,294,296,297,298,300,301,303,304,305,307,308,310,311,312,314,315,317,318,319,321,322,324,325,326,328,329,331,332,333,335,336,338,339,340,342,343,345,346,347,349,350,352,353,354,356,357,359,360] s.heap)
theorem left1 (w:World):(openEnds treeTable pWo w 4806).map ob=some ans:=by kernel_rfl
theorem left:LeftO pWo vw ["sums"] (λ s=>xlAt vw [] s&&recOk [] s) ob (λ _=>ans) 4806:=λ w=>spl (left0 w) (left1 w)
end Pg
set_option Elab.async false
set_option linter.all false
set_option maxRecDepth 100000
namespace L2
open PySem PySem.Spec PyProof.Rows
variable {lo:Int} {M:Model} {w:World} {A:Around} {d':Drawn} {cd u:Value} {p:Addr×Obj} {qual x:Str} {c e tg:Expr} {fd:FuncData} {op op':CmpOp} {pos pos':Pos} {s' s1:Shared} {a b dx it:Addr} {an:Option Addr} {i j k n t':Nat} {outer:List Env} {sc scope:Scope} {ch fp:List Addr} {g:Int->Int->Int} {C:Int->Int->Prop} {params:Arguments} {body st:List Stmt} {g':Array GenState} {its us:List Value} {E Q:Value->Shared->Prop} {mA mg:Str->Option Value} {osl:Array (Option Value)} {f:Value->Value->Sem Value} {pins pins':List (Addr×Obj)}
abbrev Key:=Sum Int Str
def j0:Key->Value->Bool
 | .inl k,v=>Value.isInt k v
 | .inr x,v=>Value.isStrOf x v
def V7 (w:World):Key->Int
 | .inl k=>hashInt k
 | .inr x=>hashStr w x
theorem b8: ∀ {k:Key} {v:Value},j0 k v=true->(∃i t,k=Sum.inl i/\v=Value.int i t)\/(∃x t,k=Sum.inr x/\v=Value.str x t)
 | .inl i,v,h=>by
  let#[t,e]:=Value.isInt_shape (k:=i) (v:=v) h;show .inl #[i,t,rfl,e]
 | .inr x,v,h=>by
  let#[t,e]:=Value.isStrOf_shape (x:=x) (v:=v) h;show .inr #[x,t,rfl,e]
theorem yt (i:Int) (t:Tok):j0 (.inl i) (.int i t)=true:=by simp [j0,Value.isInt]
theorem nP (x:Str) (t:Tok):j0 (.inr x) (.str x t)=true:=by simp [j0,Value.isStrOf]
theorem K8 (a b:Int):decide ((Sum.inl a:Key)=Sum.inl b)=(a==b):=by
 by_cases e:a=b
 .subst e;simp
 .have h: ¬ (Sum.inl a:Key)=Sum.inl b:=λ q=>e (Sum.inl.inj q)
  rw [Zv h];show(beq_eq_false_iff_ne.mpr e).symm
theorem K9 (a b:Str):decide ((Sum.inr a:Key)=Sum.inr b)=decide (a=b):=by
 by_cases e:a=b
 .subst e;simp
 .have h: ¬ (Sum.inr a:Key)=Sum.inr b:=λ q=>e (Sum.inr.inj q)
  rw [Zv h,Zv e]
theorem Ka (a:Int) (b:Str):decide ((Sum.inl a:Key)=Sum.inr b)=false:=Zv (λ q=>nomatch q)
theorem Kc (a:Str) (b:Int):decide ((Sum.inr a:Key)=Sum.inl b)=false:=Zv (λ q=>nomatch q)
def aX (prog:Program) (w:World):PySem.KeyKind prog w Key where
 is:=j0
 hash:=V7 w
 inj:=λ v a b ha hb=>by
  rcases b8 ha with ⟨i,t,rfl,rfl⟩ | ⟨x,t,rfl,rfl⟩
  .rcases b8 hb with ⟨j,u,rfl,e⟩ | ⟨y,u,rfl,e⟩
   .injection e with e1 _;rw [e1]
   .exact nomatch e
  .rcases b8 hb with ⟨j,u,rfl,e⟩ | ⟨y,u,rfl,e⟩
   .exact nomatch e
   .injection e with e1 _;rw [e1]
 byValue:=λ k v h=>by
  rcases b8 h with ⟨i,t,rfl,rfl⟩ | ⟨x,t,rfl,rfl⟩<;>rfl
 pyHash:=λ hv h=>by
  rcases b8 hv with ⟨i,t,rfl,rfl⟩ | ⟨x,t,rfl,rfl⟩
  .exact wpAny_pyHash_int h
  .exact wpAny_pyHash_str h
 eqBool:=λ hu hv h=>by
  rcases b8 hu with ⟨i,t,rfl,rfl⟩ | ⟨x,t,rfl,rfl⟩
  .rcases b8 hv with ⟨j,u,rfl,rfl⟩ | ⟨y,u,rfl,rfl⟩
   .rw [K8] at h;show wpAny_eqBool_int h
   .rw [Ka] at h;show SeqAt.EqAt.int_str i t y u _ _ _ _ h
  .rcases b8 hv with ⟨j,u,rfl,rfl⟩ | ⟨y,u,rfl,rfl⟩
   .rw [Kc] at h;show SeqAt.EqAt.str_int x t j u _ _ _ _ h
   .rw [K9] at h;show wpAny_eqBool_str h
 «strs»:=λ k x t v h=>by
  rcases b8 h with ⟨i,u,rfl,e⟩ | ⟨y,u,rfl,e⟩
  .exact nomatch e
  .injection e with e1 _
   subst e1
   cases v<;>rfl
theorem iM (prog:Program) (w:World) (k:Key) (v:Value):(aX prog w).is k v=j0 k v:=rfl
theorem qY (prog:Program) (w:World) (i:Int) (t:Tok):(aX prog w).is (.inl i) (.int i t)=true:=yt i t
theorem qZ (prog:Program) (w:World) (x:Str) (t:Tok):(aX prog w).is (.inr x) (.str x t)=true:=nP x t
inductive V where
 | non | bl (b:Bool) | int (i:Int) | str (x:Str) | byt (b:Array UInt8) | flt (b:UInt64) | ref (a:Addr) | ty (n:String)
 deriving DecidableEq
variable {v y:V} {σ':List (Option V)}
def RelV:V->Value->Prop
 | .non,u=>u=Value.none
 | .bl b,u=>u=Value.bool b
 | .int i,u=> ∃t,u=Value.int i t
 | .str x,u=> ∃t,u=Value.str x t
 | .byt b,u=> ∃t,u=Value.bytes b t
 | .flt b,u=> ∃t,u=Value.float b t
 | .ref a,u=>u=Value.ref a
 | .ty n,u=>u=Value.type n
abbrev Vals:List V->List Value->Prop:=Paired RelV
theorem Vals.length {xs:List V} (r:Vals xs us):xs.length=us.length:=Paired.length r
theorem Vals.get: ∀ {xs:List V} {us:List Value} {i:Nat} {x:V},Vals xs us->xs[i]? =some x-> ∃u,us[i]? =some u/\RelV x u
 | _,_,_,_, .nil,e=>by simp at e
 | _,_,0,_, .cons r _,e=>by simp at e;subst e;show#[_,rfl,r]
 | _,_,i+1,x, .cons _ t,e=>by
  let#[u,O,W]:=Vals.get (i:=i) (x:=x) t (by simpa using e);show#[u,by simpa using O,W]
theorem Vals.set {x:V} (r:RelV x u): ∀ {xs:List V} {us:List Value} (i:Nat),Vals xs us->Vals (xs.set i x) (us.set i u)
 | _,_,_, .nil=> .nil
 | _,_,0, .cons _ t=> .cons r t
 | _,_,i+1, .cons q t=> .cons q (Vals.set r i t)
theorem Vals.append: ∀ {xs ys:List V} {us O:List Value},Vals xs us->Vals ys O->Vals (xs++ys) (us++O)
 | _,_,_,_, .nil,s=>s
 | _,_,_,_, .cons r t,s=> .cons r (Vals.append t s)
theorem Vals.take: ∀ {xs:List V} {us:List Value} (n:Nat),Vals xs us->Vals (xs.take n) (us.take n)
 | _,_,0,_=> .nil
 | _,_,_+1, .nil=> .nil
 | _,_,n+1, .cons r t=> .cons r (Vals.take n t)
theorem Vals.drop: ∀ {xs:List V} {us:List Value} (n:Nat),Vals xs us->Vals (xs.drop n) (us.drop n)
 | _,_,0,r=>r
 | _,_,_+1, .nil=> .nil
 | _,_,n+1, .cons _ t=>Vals.drop n t
def RelO:Option V->Option Value->Prop
 | some v,some u=>RelV v u
 | none,none=>True
 | _,_=>False
def KV {κ:Type}:List (κ×V)->List (κ×Value)->Prop:=Paired λ (p:κ×V) (q:κ×Value)=>p.1=q.1/\RelV p.2 q.2
def kV:Key->V
 | .inl i=> .int i
 | .inr x=> .str x
inductive HO where
 | lst (xs:List V)
 | tup (xs:List V)
 | dK (kvs:List (Key×V)) | dT (kvs:List (List Key×V))
 | set (S:Int->Bool) (n:Nat)
 | ins (C dx:Addr) (fs:List (Str×V))
 | own (x:Addr)
 | xd (fs:List (Str×V))
 | met (f x:Addr)
 | rng (lo hi:Int)
 | frz (o:Obj) (u:HO)
 | tbl (ps:Array Value)
 | ext (φ:Heap->Prop)
abbrev Hp:=Addr->Option HO
variable {H:Hp} {R:V->V->Hp->Prop}
def upd (H:Hp) (a:Addr) (o:HO):Hp:=λ b=>if b=a then some o else H b
theorem ao {o:HO}:upd H a o a=some o:=by unfold upd;rw [if_pos rfl]
theorem aq {o:HO} (h:b≠a):upd H a o b=H b:=by unfold upd;rw [if_neg h]
theorem bw {o u:HO} (h:H a=some o) (h':H b=some u) (d:o≠u):a≠b:=by
 intro e;subst e;rw [h] at h';show d (Yi h')
theorem aF {o:HO} (h:H a=some o) (h':H b=none):a≠b:=by
 intro e;subst e;rw [h] at h';cases h'
section
variable (P:Program) (w:World)
def ObjOk (H:Hp) (h:Heap) (a:Addr):HO->Prop
 | .lst xs=>xs.length<=sizeLine/\ ∃ (its:List Value) (n:Nat),Vals xs its/\h.get? a=some { cls:= .type "list",data:= .seq its.toArray n }
 | .tup xs=>xs.length<=sizeLine/\ ∃its:List Value,Vals xs its/\IsTup h a its.toArray
 | .dK kvs=>kvs.length<=sizeLine/\(a==sysModules)=false/\ ∃vs,KV kvs vs/\h.DictOf (aX P w) a vs
 | .dT kvs=>kvs.length<=sizeLine/\(a==sysModules)=false/\ ∃xs:List (List Key×Addr×Value),
   Paired (λ (p:List Key×V) (q:List Key×Addr×Value)=>p.1=q.1/\H q.2.1=some (.tup (p.1.map kV))/\RelV p.2 q.2.2) kvs xs/\
   ∃o es ep,h.get? a=some o/\o.ExactDict/\o.data= .dict es ep/\es.toList=xs.map (entryOfKey (tupleKind (aX P w)))/\(xs.map (·.1)).Nodup
 | .set S n=>h.SetOf (intKind P w) a S n
 | .ins C dx fs=>H dx=some (.own a)/\fs.length<=1000/\dx≠a/\h.get? a=some (PySem.W.instObj C dx)/\
   ∃mA,h.Ns1 dx mA/\(∀f,RelO (fs.lookup f) (mA f))/\PySem.Within mA (fs.map (·.1))
 | .own _=> ∃o,h.get? a=some o
 | .xd fs=> ∃mA,h.Ns1 a mA/\ ∀f,RelO (fs.lookup f) (mA f)
 | .rng lo hi=> ∃t u v,h.get? a=some { cls:= .type "range",data:= .fields ([.int lo t, .int hi u, .int 1 v].toArray) }
 | .frz o u=>h.get? a=some o/\ObjOk H h a u
 | .tbl ps=>h.get? a=some { cls:= .none,data:= .fields ps }
 | .met f x=>h.get? a=some (PySem.W.methodObj (.ref f) (.ref x))
 | .ext φ=>φ h/\(∃o,h.get? a=some o)/\ ∀h1 h2:Heap,φ h1->(∀o,h1.get? a=some o->h2.get? a=some o)->φ h2
def HOk (H:Hp) (h:Heap):Prop:= ∀a o,H a=some o->ObjOk P w H h a o
end
section
variable {P:Program} {w:World} {H H':Hp} {h h':Heap} {a:Addr} {o:HO}
theorem ObjOk.lt (x:ObjOk P w H h a o):a<h.objs.size:=by
 cases o with
 | lst xs=>let#[_,_,_,_,e]:=x;show Zh e
 | tup xs=>let#[_,_,_,p]:=x;show p.lt
 | dK kvs=>let#[_,_,_,_,o,_,_,e,_]:=x;show Zh e
 | dT kvs=>let#[_,_,_,_,o,_,_,e,_]:=x;show Zh e
 | set S n=>let#[o,_,_,_,e,_]:=x;show Zh e
 | ins C dx fs=>let#[_,_,_,e,_]:=x;show Zh e
 | own y=>let#[_,e]:=x;show Zh e
 | xd fs=>let#[_,#[_,_,_,e,_],_]:=x;show Zh e
 | rng lo hi=>let#[_,_,_,e]:=x;show Zh e
 | frz ob u=>let#[e,_]:=x;show Zh e
 | tbl ps=>show Zh (show h.get? a=some _ from x)
 | met f y=>show Zh (show h.get? a=some _ from x)
 | ext φ=>let#[_,#[_,e],_]:=x;show Zh e
theorem Paired.mapP {α β:Type} {F G:α->β->Prop}: ∀ {O:List α} {l₂:List β},Paired F O l₂->(∀a b,F a b->G a b)->Paired G O l₂
 | _,_, .nil,_=> .nil
 | _,_, .cons r t,f=> .cons (f _ _ r) (Paired.mapP t f)
theorem ObjOk.stay (x:ObjOk P w H h a o) (k: ∀b u,(b=a\/H b=some (.own a))->h.get? b=some u->h'.get? b=some u)
  (ho: ∀b,H b=some (.own a)->H' b=some (.own a)) (ht: ∀b xs,H b=some (.tup xs)->H' b=some (.tup xs)):ObjOk P w H' h' a o:=by
 induction o with
 | lst xs=>let#[z,Y,n,r,e]:=x;show#[z,Y,n,r,k _ _ (.inl rfl) e]
 | tup xs=>let#[z,Y,r,O,e,c]:=x;show#[z,Y,r,O,k _ _ (.inl rfl) e,c]
 | dK kvs=>let#[z,y,vs,r,O,es,ep,e,c]:=x;show#[z,y,vs,r,O,es,ep,k _ _ (.inl rfl) e,c]
 | dT kvs=>
  let#[z,y,xs,r,O,es,ep,e,c]:=x;show#[z,y,xs,Paired.mapP r λ p q z=>#[z.1,ht _ _ z.2.1,z.2.2],O,es,ep,k _ _ (.inl rfl) e,c]
 | set S n=>let#[O,es,ep,t,e,c]:=x;show#[O,es,ep,t,k _ _ (.inl rfl) e,c]
 | ins C dx fs=>
  let#[d,z,ne,e,mA,#[od,es,ep,e2,c],r]:=x;show#[ho _ d,z,ne,k _ _ (.inl rfl) e,mA,#[od,es,ep,k _ _ (.inr d) e2,c],r]
 | own y=>let#[O,e]:=x;show#[O,k _ _ (.inl rfl) e]
 | xd fs=>let#[mA,#[od,es,ep,e,c],r]:=x;show#[mA,#[od,es,ep,k _ _ (.inl rfl) e,c],r]
 | rng lo hi=>let#[t,u,v,e]:=x;show#[t,u,v,k _ _ (.inl rfl) e]
 | frz O u ih=>let#[e,q]:=x;show#[k _ _ (.inl rfl) e,ih q]
 | tbl ps=>
  have e:h.get? a=some { cls:= .none,data:= .fields ps }:=x;change h'.get? a=some { cls:= .none,data:= .fields ps };show k a _ (.inl rfl) e
 | met f y=>
  have e:h.get? a=some (PySem.W.methodObj (.ref f) (.ref y)):=x;change h'.get? a=some (PySem.W.methodObj (.ref f) (.ref y));show k a _ (.inl rfl) e
 | ext φ=>let#[p,#[o,e],st]:=x;show#[st _ _ p λ o q=>k _ _ (.inl rfl) q,#[o,k _ _ (.inl rfl) e],st]
theorem HOk.lt (x:HOk P w H h) (e:H a=some o):a<h.objs.size:=(x a o e).lt
theorem HOk.fresh (x:HOk P w H h) (e:h.objs.size<=a):H a=none:=by
 cases q:H a with
 | none=>rfl
 | some u=>show absurd (Zx (x.lt q) e) (Nat.lt_irrefl _)
theorem HOk.kept (x:HOk P w H h) (k: ∀b u,h.get? b=some u->h'.get? b=some u):HOk P w H h':=λ a o e=>
 (x a o e).stay (λ b u _ q=>k b u q) (λ _ q=>q) λ _ _ q=>q
theorem HOk.laid (x:HOk P w H h) (k: ∀b u,h.get? b=some u->h'.get? b=some u) (hp:h.objs.size<=a) (new:ObjOk P w (upd H a o) h' a o):HOk P w (upd H a o) h':=λ b u e=>by
 have O:=x.fresh hp;by_cases W:b=a
 .subst W;rw [ao] at e;cases e;show new
 .rw [aq W] at e;show(x b u e).stay (λ c v _ q=>k c v q) (λ c q=>by rw [aq (aF q O)];show q) λ c xs q=>by rw [aq (aF q O)];show q
end
def Rd (H:Hp) (a:Addr) (u:HO):Prop:=H a=some u\/ ∃o,H a=some (.frz o u)
theorem Rd.ok {P:Program} {h:Heap} {u:HO} (r:Rd H a u) (x:HOk P w H h):ObjOk P w H h a u:=by
 rcases r with r | ⟨o,r⟩
 .exact x a u r
 .obtain ⟨_,q⟩:=x a _ r;show q
def QF:Option HO->Prop
 | some (.lst _)=>True
 | some (.dK _)=>True
 | some (.dT _)=>True
 | some (.set _ _)=>True
 | some (.ins _ _ _)=>True
 | some (.ext _)=>True
 | _=>False
section
variable {P:Program} {w:World} {H:Hp} {h h':Heap} {x e:Addr} {o':HO}
theorem HOk.write (ok:HOk P w H h) (mu:QF (H x)) (he:e=x\/H e=some (.own x)) (k: ∀b u,b≠e->h.get? b=some u->h'.get? b=some u) (heo: ∃u,h'.get? e=some u)
  (new:ObjOk P w (upd H x o') h' x o'):HOk P w (upd H x o') h':=λ b u q=>by
 have W: ∀c y,H c=some (.own y)->c≠x:=λ c y r z=>by subst z;rw [r] at mu;show mu
 have Y: ∀c xs,H c=some (.tup xs)->c≠x:=λ c xs r z=>by subst z;rw [r] at mu;show mu
 by_cases hb:b=x
 .subst hb;rw [ao] at q;cases q;show new
 .rw [aq hb] at q;by_cases O:b=e
  .have q':H b=some (.own x):=by
    rcases he with z | z
    .exact absurd (O.trans z) hb
    .rw [O];show z
   rw [q] at q';cases q';let#[v,hv]:=heo;show#[v,by rw [O];show hv]
  .refine (ok b u q).stay (λ c v hc r=>k c v ?_ r) (λ c r=>by rw [aq (W c b r)];show r) λ c xs r=>by rw [aq (Y c xs r)];show r
   rcases hc with rfl | hc
   .exact O
   .rintro rfl;rcases he with z | z
    .exact W c b hc z
    .rw [hc] at z;cases z;show hb rfl
end
structure Un (fs ex:List Addr) (H H':Hp) (h h':Heap):Prop where
 keep: ∀b o,h.get? b=some o->H b=none->b∉fs->b∉ex->h'.get? b=some o
 slot: ∀b o,h.get? b=some o->H b=none->b∈fs->b∉ex-> ∃sl,h'.get? b=some { o with slots:=sl }
 free: ∀b o,h.get? b=some o->H b=none->b∉ex->H' b=none
 there: ∀b o,h.get? b=some o->b∉ex-> ∃o',h'.get? b=some o'
 tups: ∀b xs,H b=some (.tup xs)->H' b=some (.tup xs)
 frzs: ∀b o u,H b=some (.frz o u)->H' b=some (.frz o u)
 tbls: ∀b ps,H b=some (.tbl ps)-> ∃more,H' b=some (.tbl (ps++more))
section
variable {fs fs' ex ex':List Addr} {H H1 H2:Hp} {h h1 h2 h':Heap} {a x e:Addr} {o:HO}
theorem Un.any (u:Un fs ex H H1 h h1) {ob:Obj} (q:h.get? b=some ob) (n:H b=none) (hx:b∉ex): ∃sl,h1.get? b=some { ob with slots:=sl }:=by
 by_cases O:b∈fs
 .exact u.slot b ob q n O hx
 .exact #[ob.slots,u.keep b ob q n O hx]
theorem Un.trans (a:Un fs ex H H1 h h1) (b:Un fs ex H1 H2 h1 h2):Un fs ex H H2 h h2 where
 keep:=λ c W q n hc O=>b.keep c W (a.keep c W q n hc O) (a.free c W q n O) hc O
 slot:=λ c W q n hc O=>by
  let#[sl,Y]:=a.slot c W q n hc O;let#[ab,e2]:=b.slot c _ Y (a.free c W q n O) hc O;show#[ab,e2]
 free:=λ c W q n O=>by
  let#[o',Y]:=a.there c W q O;show b.free c o' Y (a.free c W q n O) O
 there:=λ c W q O=>by
  let#[o',Y]:=a.there c W q O;show b.there c o' Y O
 tups:=λ c xs q=>b.tups c xs (a.tups c xs q)
 frzs:=λ c W xs q=>b.frzs c W xs (a.frzs c W xs q)
 tbls:=λ c ps q=>by
  let#[m1,Y]:=a.tbls c ps q;let#[m2,e2]:=b.tbls c _ Y;show#[m1++m2,by rw [e2,Array.append_assoc]]
theorem Un.kept (k: ∀b u,h.get? b=some u->h'.get? b=some u):Un fs ex H H h h':=
 #[λ b O q _ _ _=>k b O q,λ b O q _ _ _=>#[O.slots,k b O q],λ _ _ _ n _=>n,λ b O q _=>#[O,k b O q],λ _ _ q=>q,λ _ _ _ q=>q,λ _ ps q=>#[([].toArray),by rw [q];simp]]
theorem Un.refl:Un fs ex H H h h:=Un.kept λ _ _ q=>q
theorem Un.laid (k: ∀b u,h.get? b=some u->h'.get? b=some u) (hp:h.objs.size<=a) (hn:H a=none):Un fs ex H (upd H a o) h h' where
 keep:=λ b u q _ _ _=>k b u q
 slot:=λ b u q _ _ _=>#[u.slots,k b u q]
 free:=λ b u q n _=>by rw [aq (Yb (Zx (Zh q) hp))];show n
 there:=λ b u q _=>#[u,k b u q]
 tups:=λ b xs q=>by rw [aq (aF q hn)];show q
 frzs:=λ b u xs q=>by rw [aq (aF q hn)];show q
 tbls:=λ b ps q=>#[([].toArray),by rw [aq (aF q hn),q];simp]
theorem Un.write (mu:QF (H x)) (he:e=x\/H e=some (.own x)) (k: ∀b u,b≠e->h.get? b=some u->h'.get? b=some u) (heo: ∃u,h'.get? e=some u):Un fs ex H (upd H x o) h h':=by
 have Y: ∀b,H b=none->b≠x:=λ b n z=>by subst z;rw [n] at mu;show mu
 have hb: ∀b,H b=none->b≠e:=λ b n z=>by
  subst z;rcases he with r | r
  .exact Y b n r
  .rw [n] at r;cases r
 have W: ∀b u,H b=some u-> ¬QF (some u)->b≠x:=λ b u q nm z=>by subst z;rw [q] at mu;show nm mu
 refine⟨λ b u q n _ _=>k b u (hb b n) q,λ b u q n _ _=>⟨u.slots,k b u (hb b n) q⟩,λ b u q n _=>by rw [aq (Y b n)];show n,λ b u q _=> ?_,
  λ b xs q=>by rw [aq (W b _ q λ z=>z)];show q,λ b u xs q=>by rw [aq (W b _ q λ z=>z)];show q,λ b ps q=>⟨([].toArray),by rw [aq (W b _ q λ z=>z),q];simp⟩⟩
 by_cases O:b=e
 .subst O;show heo
 .exact #[u,k b u O q]
theorem Un.mono (u:Un fs ex H H1 h h1) (hs: ∀b∈fs,b∈fs') (hx: ∀b∈ex,b∈ex'):Un fs' ex' H H1 h h1:=
 #[λ b W q n Y O=>u.keep b W q n (λ z=>Y (hs b z)) λ z=>O (hx b z),λ _ _ q n _ O=>u.any q n λ z=>O (hx _ z),λ b W q n O=>u.free b W q n λ z=>O (hx b z),λ b W q O=>u.there b W q λ z=>O (hx b z),u.tups,u.frzs,u.tbls]
end
def Uw (h:Heap) (H:Hp):List Addr:=(List.range h.objs.size).filter λ a=>(H a).isSome
def pD (h:Heap) (H:Hp):Heap:=PySem.W.hideAll h (Uw h H)
theorem yu (h:Heap) (H:Hp):(pD h H).objs.size=h.objs.size:=PySem.W.hideAll_size _ _
theorem zK {h:Heap} {o:Obj} (e:h.get? b=some o) (n:H b=none):(pD h H).get? b=some o:=
 PySem.W.hideAll_get _ e λ O=>by
  have q:(H b).isSome=true:=(List.mem_filter.mp O).2;rw [n] at q;simp at q
theorem GC {h:Heap} {o:Obj} (e:(pD h H).get? b=some o):h.get? b=some o/\H b=none:=by
 have O:h.get? b=some o:=PySem.W.of_hideAll (Uw h H) e;refine#[O,?_]
 cases q:H b with
 | none=>rfl
 | some x=>
  have Y:b∈Uw h H:=List.mem_filter.mpr #[List.mem_range.mpr (Zh O),by simp [q]];have z:(pD h H).get? b=none:=PySem.W.hideAll_none (Uw h H) Y;rw [z] at e;cases e
def GD (g h:Heap) (L:Addr):List (Addr×Obj):=(List.range h.objs.size).filterMap λ a=>if a=L\/(g.get? a).isSome=true then none else (h.get? a).map λ o=>(a,o)
def rest (g h:Heap) (L d:Addr):List (Addr×Obj):=(GD g h L).filter λ p=>decide (p.1≠d)
structure Mod (K:W.Frag) (mg:Str->Option Value) (base:Heap):Prop where
 kin:K.In base
 glob:base.Ns mainGlobals mg
 blt: ∃mb,base.Ns builtinsNs mb/\ ∀x:Str,x≠"__name__"->mb x=bootBuiltins x
 nolimit:base.NoLimit
structure Cx where
 prog:Program
 w:World
 K:W.Frag
 mg:Str->Option Value
 base:Heap
 A:Around
 N:List Str
 s₀:Shared
 H₀:Hp
 env:Env
 outer:List Env
 stack:List Env
 ex:List Addr
 fn:Str->Bool
 calm:Bool
 pn:List (Addr×Obj)
 xe:Value->Shared->Prop
def frs (l:List Env):List Addr:=l.filterMap (·.frame)
abbrev Cx.fs (X:Cx):List Addr:=frs X.outer
def Ux (sc:Scope) (x:Str):Prop:=sc.names.lookup x=some .local\/sc.names.lookup x=some .cell\/sc.names.lookup x=some .free
def Loc (sc:Scope) (x:Str):Prop:=sc.names.lookup x=some .local\/sc.names.lookup x=some .cell
def Look (env:Env) (h:Heap) (m:Str->Option Value) (x:Str) (u:Value):Prop:=
 (env.kindOf x=some .local/\m x=some u)\/((env.kindOf x=some .cell\/env.kindOf x=some .free)/\ ∃c,env.cells.lookup x=some c/\h.IsCell c (some u))
structure Cx.Ok (X:Cx):Prop where
 mod:Mod X.K X.mg X.base
 kind:X.env.scope.kind= .function
 glob:X.env.globals=mainGlobals
 blt:X.env.builtins=builtinsNs
 above:X.s₀.heap.objs.size<=X.env.locals
 inj: ∀x y c,X.env.cells.lookup x=some c->X.env.cells.lookup y=some c->x=y
 has: ∀x,(X.env.kindOf x=some .cell\/X.env.kindOf x=some .free)-> ∃c,X.env.cells.lookup x=some c
 cab: ∀x c,X.fn x=true->X.env.cells.lookup x=some c->X.s₀.heap.objs.size<=c
 hd:X.calm=true->X.A.handled=none
 frames:X.A.frames=some X.stack
 stk:X.stack=X.outer\/(X.stack=X.env::X.outer/\X.env.frame=some X.env.locals)
 exf: ∀b∈X.ex,b≠X.env.locals/\ ∀x c,X.env.cells.lookup x=some c->c≠b
 bs: ∀b o,X.base.get? b=some o->X.s₀.heap.get? b=some o/\X.H₀ b=none
 bsz:X.base.objs.size<=X.s₀.heap.objs.size
 noex: ∀b o,X.base.get? b=some o->b∉X.ex
 exfs: ∀b∈X.ex,b∉X.fs
 funs:X.s₀.heap.FunFrames X.base X.outer
 frf: ∀b∈X.fs,X.H₀ b=none
structure Inv (X:Cx) (pins:List (Addr×Obj)) (σ:List (Option V)) (H:Hp) (s:Shared):Prop where
 ok:X.Ok
 os:s.os=X.s₀.os
 bare:AllBare s.gens
 base:Un X.fs X.ex X.H₀ H X.s₀.heap s.heap
 loc: ∃m,s.heap.Ns X.env.locals m/\ ∀ (i:Nat) (x:Str) (v:V),X.N[i]? =some x->σ[i]? =some (some v)->Ux X.env.scope x-> ∃u,RelV v u/\Look X.env s.heap m x u
 cell: ∀x c,X.env.cells.lookup x=some c-> ∃v,s.heap.IsCell c v
 free:H X.env.locals=none
 freeC: ∀x c,X.env.cells.lookup x=some c->H c=none
 pin: ∀p∈X.pn++pins,s.heap.get? p.1=some p.2/\H p.1=none/\p.1≠X.env.locals/\p.1∉X.fs/\ ∀v,p.2.data≠ .cell v
 hok:HOk X.prog X.w H s.heap
 len:σ.length=X.N.length
section
variable {X:Cx} {pins:List (Addr×Obj)} {σ:List (Option V)} {H H':Hp} {s:Shared} {h':Heap}
theorem Cx.Ok.nofr (ok:X.Ok) {o:Obj} (e:X.base.get? b=some o):b∉X.fs:=λ O=>by
 have:=(ok.funs.mem O).1;rw [e] at this;cases this
theorem Inv.bs (I:Inv X pins σ H s): ∀b o,X.base.get? b=some o->s.heap.get? b=some o/\H b=none:=λ b o e=>
 #[I.base.keep b o (I.ok.bs b o e).1 (I.ok.bs b o e).2 (I.ok.nofr e) (I.ok.noex b o e),I.base.free b o (I.ok.bs b o e).1 (I.ok.bs b o e).2 (I.ok.noex b o e)]
theorem Inv.bk (I:Inv X pins σ H s): ∀b o,X.base.get? b=some o->s.heap.get? b=some o:=λ b o e=>(I.bs b o e).1
theorem Inv.mod (I:Inv X pins σ H s):Mod X.K X.mg X.base:=I.ok.mod
theorem Inv.kIn (I:Inv X pins σ H s):X.K.In s.heap:=I.ok.mod.kin.keeps I.bk
theorem Inv.lt (I:Inv X pins σ H s):X.env.locals<s.heap.objs.size:=let ⟨_,hn,_⟩:=I.loc;hn.lt
theorem Inv.sz (I:Inv X pins σ H s):X.s₀.heap.objs.size<=s.heap.objs.size:=Yl I.ok.above (Nat.le_of_lt I.lt)
theorem Inv.nofs (I:Inv X pins σ H s) (h:s.heap.objs.size<=a):a∉X.fs:=λ W=>by
 let#[_,o,O,_]:=I.ok.funs.mem W;show absurd (Zx (Zh O) (Yl I.sz h)) (Nat.lt_irrefl _)
theorem Inv.cne (I:Inv X pins σ H s): ∀x c,X.env.cells.lookup x=some c->c≠X.env.locals:=λ x c e z=>by
 let#[v,o,Y,hd]:=I.cell x c e;let#[m,#[o',es,ep,O,W,_],_]:=I.loc;rw [z,O] at Y;cases Y;rw [W] at hd;cases hd
theorem Inv.funs (I:Inv X pins σ H s):s.heap.FunFrames X.base X.outer:=by
 have all: ∀ (l:List Env),(∀b∈frs l,b∈X.fs)->X.s₀.heap.FunFrames X.base l->s.heap.FunFrames X.base l:=by
  intro l;induction l with
  | nil=>intro _ _;trivial
  | cons env r ih=>
   intro hs hl;let#[hk,#[L,o,W,hn,ho,hd],hr]:=hl;have O:L∈X.fs:=hs L (by unfold frs;rw [List.filterMap_cons,W];show Zt);let#[sl,e]:=I.base.slot L o ho (I.ok.frf L O) O λ z=>I.ok.exfs L z O
   show#[hk,#[L,_,W,hn,e,hd],ih (λ b Y=>hs b (by unfold frs;rw [List.filterMap_cons,W];show Zs _ Y)) hr]
 show all X.outer (λ _ Y=>Y) I.ok.funs
theorem Inv.stack (I:Inv X pins σ H s):s.heap.FunFrames X.base X.stack:=by
 rcases I.ok.stk with e | ⟨e,hf⟩
 .rw [e];show I.funs
 .rw [e];let#[m,O,_]:=I.loc;refine .cons (by rw [I.ok.kind];decide) hf O ?_ I.funs;show Heap.get?_none_of_le (Yl I.ok.bsz I.ok.above)
theorem Inv.stkSub (I:Inv X pins σ H s): ∀b∈frs X.stack,b∈X.env.locals::X.fs:=λ b O=>by
 rcases I.ok.stk with e | ⟨e,hf⟩
 .rw [e] at O;show Zs _ O
 .rw [e] at O;unfold frs at O;rw [List.filterMap_cons,hf] at O;show O
theorem Inv.stkFree (I:Inv X pins σ H s): ∀b∈frs X.stack,H b=none:=λ b O=>by
 rcases Zk.mp (I.stkSub b O) with e | O
 .rw [e];show I.free
 .obtain ⟨_,o,W,_⟩:=I.ok.funs.mem O;show I.base.free b o W (I.ok.frf b O) λ z=>I.ok.exfs b z O
theorem Inv.step (I:Inv X pins σ H s)
  (hch: ∀b∈ch,(b∈X.ex\/X.s₀.heap.objs.size<=b)/\b≠X.env.locals/\(∀x c,X.env.cells.lookup x=some c->c≠b)/\ ∀p∈X.pn++pins,p.1≠b)
  (keep: ∀b o,b≠X.env.locals->b∉X.fs->b∉ch->s.heap.get? b=some o->H b=none->h'.get? b=some o)
  (slot: ∀b o,b≠X.env.locals->b∈X.fs->b∉ch->s.heap.get? b=some o->H b=none-> ∃sl,h'.get? b=some { o with slots:=sl }) (free: ∀b o,b∉ch->s.heap.get? b=some o->H b=none->H' b=none)
  (there: ∀b o,b∉ch->s.heap.get? b=some o-> ∃o',h'.get? b=some o')
  (tups: ∀b xs,H b=some (.tup xs)->H' b=some (.tup xs)) (frzs: ∀b o u,H b=some (.frz o u)->H' b=some (.frz o u)) (tbls: ∀b ps,H b=some (.tbl ps)-> ∃more,H' b=some (.tbl (ps++more)))
  (ns: ∀m,s.heap.Ns X.env.locals m->h'.Ns X.env.locals m) (hok:HOk X.prog X.w H' h') (hg:AllBare g'):
  Inv X pins σ H' { s with heap:=h',gens:=g',drawn:=d',toks:=t' }:=by
 have ac: ∀b o,X.s₀.heap.get? b=some o->b≠X.env.locals:=λ b o e=>Yb (Zx (Zh e) I.ok.above)
 have ab: ∀b o,X.s₀.heap.get? b=some o->b∉X.ex->b∉ch:=λ b o e O hb=>by
  rcases (hch b hb).1 with z | z
  .exact O z
  .exact absurd (Zx (Zh e) z) (Nat.lt_irrefl _)
 have Y: ∀x c,X.env.cells.lookup x=some c-> ∀v,s.heap.IsCell c v->h'.IsCell c v:=λ x c e v ⟨o,ho,hd⟩=>by
  have W:c∉ch:=λ z=>(hch c z).2.2.1 x c e rfl
  by_cases hc:c∈X.fs
  .obtain ⟨sl,q⟩:=slot c o (I.cne x c e) hc W ho (I.freeC x c e);show#[_,q,hd]
  .exact #[o,keep c o (I.cne x c e) hc W ho (I.freeC x c e),hd]
 refine#[I.ok,I.os,hg,#[λ b o e n hb O=> ?_,λ b o e n hb O=> ?_,λ b o e n O=> ?_,λ b o e O=> ?_,λ b xs e=>tups b xs (I.base.tups b xs e),λ b o xs e=>frzs b o xs (I.base.frzs b o xs e),λ b ps e=> ?_],?_,λ x c e=> ?_,?_,λ x c e=> ?_,λ p hp=> ?_,hok,I.len]
 .exact keep b o (ac b o e) hb (ab b o e O) (I.base.keep b o e n hb O) (I.base.free b o e n O)
 .obtain ⟨sl,e1⟩:=I.base.slot b o e n hb O;let#[ad,e2]:=slot b _ (ac b o e) hb (ab b o e O) e1 (I.base.free b o e n O);show#[ad,e2]
 .obtain ⟨o',e1⟩:=I.base.there b o e O;show free b o' (ab b o e O) e1 (I.base.free b o e n O)
 .obtain ⟨o',e1⟩:=I.base.there b o e O;show there b o' (ab b o e O) e1
 .obtain ⟨m1,e1⟩:=I.base.tbls b ps e;let#[m2,e2]:=tbls b _ e1;show#[m1++m2,by rw [e2,Array.append_assoc]]
 .obtain ⟨m,hn,hl⟩:=I.loc;refine#[m,ns m hn,λ i x v e1 e2 e3=> ?_];let#[u,r,l]:=hl i x v e1 e2 e3;refine#[u,r,?_];rcases l with l | ⟨k,c,e,z⟩
  .exact .inl l
  .exact .inr #[k,c,e,Y x c e _ z]
 .obtain ⟨v,z⟩:=I.cell x c e;show#[v,Y x c e v z]
 .obtain ⟨m,⟨o,_,_,ho,_⟩,_⟩:=I.loc;show free _ o (λ z=>(hch _ z).2.1 rfl) ho I.free
 .obtain ⟨v,o,ho,hd⟩:=I.cell x c e;show free c o (λ z=>(hch c z).2.2.1 x c e rfl) ho (I.freeC x c e)
 .obtain ⟨e,n,ne,nf,d⟩:=I.pin p hp;have W:p.1∉ch:=λ z=>(hch p.1 z).2.2.2 p hp rfl
  show#[keep p.1 p.2 ne nf W e n,free p.1 p.2 W e n,ne,nf,d]
theorem Inv.un (I:Inv X pins σ H s) (u:Un X.fs [] H H' s.heap h') (hok:HOk X.prog X.w H' h'):Inv X pins σ H' { s with heap:=h',toks:=t' }:=by
 let#[m,#[o,es,ep,ho,r],_]:=id I.loc;let#[sl,hL]:=u.any ho I.free (by simp);show I.step (g':=s.gens) (d':=s.drawn) (ch:=[]) (λ _ z=>nomatch z) (λ b o _ hb _ e n=>u.keep b o e n hb (by simp)) (λ b o _ hb _ e n=>u.slot b o e n hb (by simp)) (λ b o _ e n=>u.free b o e n (by simp)) (λ b o _ e=>u.there b o e (by simp)) u.tups u.frzs u.tbls (λ m' hm=>by
  let#[o',Y,W,O,r']:=hm;rw [ho] at O;cases O;show#[_,Y,W,hL,r']) hok I.bare
theorem Inv.call (I:Inv X pins σ H s) (u:Un (frs X.stack) ch H H' s.heap h') (hok:HOk X.prog X.w H' h') (hg:AllBare g')
  (hch: ∀b∈ch,(b∈X.ex\/X.s₀.heap.objs.size<=b)/\b≠X.env.locals/\(∀x c,X.env.cells.lookup x=some c->c≠b)/\ ∀p∈X.pn++pins,p.1≠b):
  Inv X pins σ H' { s with heap:=h',gens:=g',drawn:=d',toks:=t' }:=by
 let#[m,#[o,es,ep,ho,r],_]:=id I.loc;let#[sl,hL]:=u.any ho I.free λ z=>(hch _ z).2.1 rfl
 show I.step (ch:=ch) hch (λ b o hL hb O e n=>u.keep b o e n (λ z=>(Zk.mp (I.stkSub b z)).elim hL hb) O) (λ b o _ _ O e n=>u.any e n O) (λ b o O e n=>u.free b o e n O) (λ b o O e=>u.there b o e O) u.tups u.frzs u.tbls (λ m' hm=>by
  let#[o',ab,Y,W,r']:=hm;rw [ho] at W;cases W;show#[_,ab,Y,hL,r']) hok hg
theorem Inv.turned (I:Inv X pins σ H s) (k: ∀b o,b≠it->s.heap.get? b=some o->h'.get? b=some o) (hn:H it=none) (hL:it≠X.env.locals)
  (h1:it∈X.ex\/X.s₀.heap.objs.size<=it) (h2: ∀x c,X.env.cells.lookup x=some c->c≠it) (h3: ∀p∈X.pn++pins,p.1≠it):Inv X pins σ H { s with heap:=h',toks:=t' }:=by
 have W: ∀b u,H b=some u->b≠it:=λ b u e z=>by rw [z,hn] at e;cases e
 refine I.step (g':=s.gens) (d':=s.drawn) (ch:=[it]) (λ b hb=> ?_) (λ b o _ _ O e _=>k b o (λ z=>O (by simp [z])) e) (λ b o _ _ O e _=>#[o.slots,k b o (λ z=>O (by simp [z])) e]) (λ _ _ _ _ n=>n)
  (λ b o O e=>#[o,k b o (λ z=>O (by simp [z])) e]) (λ _ _ e=>e) (λ _ _ _ e=>e) (λ b ps e=>#[([].toArray),by rw [e];simp]) (λ m hm=> ?_) (λ b u e=> ?_) I.bare
 .have e:b=it:=by simpa using hb
  subst e;show#[h1,hL,h2,h3]
 .obtain ⟨o,es,ep,Y,r⟩:=hm;show#[o,es,ep,k _ o (Ne.symm hL) Y,r]
 .refine (I.hok b u e).stay (λ c v O q=>k c v ?_ q) (λ _ q=>q) λ _ _ q=>q
  rcases O with z | z
  .rw [z];show W b u e
  .exact W c _ z
theorem Inv.tok (I:Inv X pins σ H s) (t:Nat):Inv X pins σ H { s with toks:=t }:=I.un (h':=s.heap) (t':=t) Un.refl I.hok
theorem Inv.kept (I:Inv X pins σ H s) (k: ∀b u,s.heap.get? b=some u->h'.get? b=some u):Inv X pins σ H { s with heap:=h',toks:=t' }:=I.un (Un.kept k) (I.hok.kept k)
theorem Inv.laid {o:HO} (I:Inv X pins σ H s) (k: ∀b u,s.heap.get? b=some u->h'.get? b=some u) (hp:s.heap.objs.size<=a) (new:ObjOk X.prog X.w (upd H a o) h' a o):
  Inv X pins σ (upd H a o) { s with heap:=h',toks:=t' }:=I.un (Un.laid k hp (I.hok.fresh hp)) (I.hok.laid k hp new)
theorem Inv.write {x e:Addr} {o:HO} (I:Inv X pins σ H s) (mu:QF (H x)) (he:e=x\/H e=some (.own x)) (k: ∀b u,b≠e->s.heap.get? b=some u->h'.get? b=some u) (heo: ∃u,h'.get? e=some u)
  (new:ObjOk X.prog X.w (upd H x o) h' x o):Inv X pins σ (upd H x o) { s with heap:=h',toks:=t' }:=I.un (Un.write mu he k heo) (I.hok.write mu he k heo new)
theorem Inv.weak (I:Inv X pins σ H s) (hl:σ'.length=σ.length) (w: ∀ (i:Nat) v,σ'[i]? =some (some v)->σ[i]? =some (some v)):Inv X pins σ' H s:=
 #[I.ok,I.os,I.bare,I.base,let ⟨m,hn,hl'⟩:=I.loc;#[m,hn,λ i x v W O Y=>hl' i x v W (w i v O) Y],I.cell,I.free,I.freeC,I.pin,I.hok,hl.trans I.len]
theorem Inv.pins_of (I:Inv X pins σ H s) (h: ∀p∈pins',s.heap.get? p.1=some p.2/\H p.1=none/\p.1≠X.env.locals/\p.1∉X.fs/\ ∀v,p.2.data≠ .cell v):Inv X pins' σ H s:=
 #[I.ok,I.os,I.bare,I.base,I.loc,I.cell,I.free,I.freeC,λ p O=>(Zp.mp O).elim (λ z=>I.pin p (Ym _ z)) (h p),I.hok,I.len]
theorem lA {N:List Str} (hN:N.Nodup) (a:N[i]? =some x) (b:N[j]? =some x):i=j:=by
 let#[h1,O]:=Zj.mp a;let#[Y,W]:=Zj.mp b;show(List.getElem_inj hN).mp (O.trans W.symm)
theorem nQ {Q:Unit->Shared->Prop} (I:Inv X pins σ H s) (hN:X.N.Nodup) (hi:X.N[i]? =some x) (hx:Loc X.env.scope x) (r:RelV v u)
  (h: ∀s',Inv X pins (σ.set i (some v)) H s'->(∃a,Heap.SameBut a s.heap s'.heap/\(a=X.env.locals\/X.env.cells.lookup x=some a))->Q Unit.unit s') (hf:X.fn x=true\/X.env.scope.names.lookup x=some .local:=by first | show .inl rfl | show .inr rfl | assumption):wpAny M A (storeName X.env x u) Q E s:=by
 let#[m,hn,hl]:=id I.loc;have ah:(X.env.scope.kind== .class||(X.env.scope.kind== .module&&X.env.locals !=X.env.globals))=false:=by rw [I.ok.kind];rfl
 have ac:i<σ.length:=by rw [I.len];show(Zj.mp hi).1
 have cne:=I.cne;have Y: ∀ {a:Addr} {h':Heap},(∃o,s.heap.get? a=some o/\H a=none)->Heap.SameBut a s.heap h'->HOk X.prog X.w H h':=λ {a h'} ha O b ob e=>by
  let#[_,_,ab]:=ha;refine(I.hok b ob e).stay (λ c w' hc q=>(O.2 c ?_).trans q) (λ _ q=>q) λ _ _ q=>q
  rintro rfl;rcases hc with rfl | hc
  .rw [ab] at e;cases e
  .rw [ab] at hc;cases hc
 rcases hx with hk | hk
 .refine wpAny_storeName_local hk hn (λ h' am O=> ?_) ah;let#[oL,_,_,al,_]:=id hn;refine h _ #[I.ok,I.os,I.bare,#[λ b o e n hb hx=> ?_,λ b o e n hb hx=> ?_,I.base.free,λ b o e hx=> ?_,I.base.tups,I.base.frzs,I.base.tbls],#[_,am,λ j y v' W e2 e3=> ?_],λ y c e=> ?_,I.free,I.freeC,λ p hp=> ?_,Y #[oL,al,I.free] O,by simpa using I.len] #[_,O, .inl rfl]
  .exact (O.2 b (Yb (Zx (Zh e) I.ok.above))).trans (I.base.keep b o e n hb hx)
  .obtain ⟨sl,W⟩:=I.base.slot b o e n hb hx;show#[sl,(O.2 b (Yb (Zx (Zh e) I.ok.above))).trans W]
  .obtain ⟨o',W⟩:=I.base.there b o e hx;show#[o',(O.2 b (Yb (Zx (Zh e) I.ok.above))).trans W]
  .by_cases hj:j=i
   .subst hj;rw [hi] at W;cases W;rw [List.getElem?_set_self ac] at e2
    cases e2;show#[u,r, .inl #[hk,by simp]]
   .rw [List.getElem?_set_ne (Ne.symm hj)] at e2;let#[u',r',q]:=hl j y v' W e2 e3;refine#[u',r',?_];rcases q with ⟨k,e⟩ | ⟨k,c,e,z⟩
    .refine .inl #[k,?_];have:y≠x:=λ e=>hj (lA hN W (e▸hi))
     simp [this,e]
    .exact .inr #[k,c,e,z.sameBut O (cne y c e)]
  .obtain ⟨w',z⟩:=I.cell y c e;show#[w',z.sameBut O (cne y c e)]
  .obtain ⟨e,n,ne,nf,d⟩:=I.pin p hp;show#[(O.2 p.1 ne).trans e,n,ne,nf,d]
 .have ad:X.fn x=true:=by
   rcases hf with z | z
   .exact z
   .rw [z] at hk;cases hk
  let#[c,hc]:=I.ok.has x (.inl hk);let#[w',z]:=I.cell x c hc;refine wpAny_storeName_cell I.ok.kind hk hc z (λ h' ag O=> ?_);let#[oc,ai,ae]:=id z;refine h { s with heap:=h' } ⟨I.ok,I.os,I.bare,⟨λ b o e n hb hx=> ?_,λ b o e n hb hx=> ?_,I.base.free,λ b o e hx=> ?_,I.base.tups,I.base.frzs,I.base.tbls⟩,⟨m,hn.sameBut O (Ne.symm (cne x c hc)),λ j y v' W e2 e3=> ?_⟩,λ y c' e=> ?_,I.free,I.freeC,λ p hp=> ?_,Y ⟨oc,ai,I.freeC x c hc⟩ O,by simpa using I.len⟩ ⟨c,O, .inr hc⟩
  .exact (O.2 b (Yb (Zx (Zh e) (I.ok.cab x c ad hc)))).trans (I.base.keep b o e n hb hx)
  .obtain ⟨sl,W⟩:=I.base.slot b o e n hb hx;show#[sl,(O.2 b (Yb (Zx (Zh e) (I.ok.cab x c ad hc)))).trans W]
  .obtain ⟨o',W⟩:=I.base.there b o e hx;show#[o',(O.2 b (Yb (Zx (Zh e) (I.ok.cab x c ad hc)))).trans W]
  .by_cases hj:j=i
   .subst hj;rw [hi] at W;cases W;rw [List.getElem?_set_self ac] at e2
    cases e2;show#[u,r, .inr #[.inl hk,c,hc,ag]]
   .rw [List.getElem?_set_ne (Ne.symm hj)] at e2;let#[u',r',q]:=hl j y v' W e2 e3;refine#[u',r',?_];rcases q with q | ⟨k,c',e,z'⟩
    .exact .inl q
    .refine .inr #[k,c',e,z'.sameBut O ?_];rintro rfl;show hj (lA hN W (I.ok.inj _ _ _ e hc▸hi))
  .by_cases af:c'=c
   .subst af;show#[_,ag]
   .obtain ⟨w2,z2⟩:=I.cell y c' e;show#[w2,z2.sameBut O af]
  .obtain ⟨e,n,ne,nf,d⟩:=I.pin p hp;refine#[(O.2 p.1 ?_).trans e,n,ne,nf,d];intro q;rw [q,ai] at e;have q':oc=p.2:=Yi e;show d w' (by rw [<- q'];show ae)
theorem gn {Q:Unit->Shared->Prop} (I:Inv X pins σ H s) (hN:X.N.Nodup) (hi:X.N[i]? =some x) (hx:Loc X.env.scope x) (r:RelV v u)
  (h: ∀s',Inv X pins (σ.set i (some v)) H s'->Q Unit.unit s') (hf:X.fn x=true\/X.env.scope.names.lookup x=some .local:=by first | show .inl rfl | show .inr rfl | assumption):wpAny M A (storeName X.env x u) Q E s:=
 nQ I hN hi hx r (λ s' O _=>h s' O) hf
theorem Inv.call' (I:Inv X pins σ H s) (ho:s'.os=s.os) (u:Un (frs X.stack) ch H H' s.heap s'.heap) (hok:HOk X.prog X.w H' s'.heap) (hg:AllBare s'.gens)
  (hch: ∀b∈ch,(b∈X.ex\/X.s₀.heap.objs.size<=b)/\b≠X.env.locals/\(∀x c,X.env.cells.lookup x=some c->c≠b)/\ ∀p∈X.pn++pins,p.1≠b):Inv X pins σ H' s':=by
 let#[h',g',d',t',O]:=s';have e:O=s.os:=ho;subst e;show I.call (g':=g') (t':=t') (d':=d') u hok hg hch
end
abbrev XK:=Value->Option Addr->Hp->Prop
abbrev St:=List (Option V)
variable {σ:St}
abbrev VK:=V->Hp->Prop
abbrev TE:=St->Hp->VK->Prop
variable {t te tl:TE}
abbrev TT:=St->Hp->(Bool->Hp->Prop)->Prop
variable {tc:TT}
abbrev TA:=St->Hp->(List V->Hp->Prop)->Prop
variable {ta:TA}
structure Ends where
 nx:St->Hp->Prop
 rt:VK
 bk:St->Hp->Prop:=λ _ _=>False
 ct:St->Hp->Prop:=λ _ _=>False
abbrev TS:=Ends->St->Hp->Prop
variable {tb:TS}
def EP (X:Cx) (pins:List (Addr×Obj)) (σ:St) (Q:VK) (u:Value) (s':Shared):Prop:= ∃v H',Inv X pins σ H' s'/\RelV v u/\Q v H'
def TP (X:Cx) (pins:List (Addr×Obj)) (σ:St) (Q:Bool->Hp->Prop) (b:Bool) (s':Shared):Prop:= ∃H',Inv X pins σ H' s'/\Q b H'
def AP (X:Cx) (pins:List (Addr×Obj)) (σ:St) (Q:List V->Hp->Prop) (us:List Value) (s':Shared):Prop:= ∃vs H',Inv X pins σ H' s'/\Vals vs us/\Q vs H'
def SP (X:Cx) (pins:List (Addr×Obj)) (D:Ends) (f:Flow) (s':Shared):Prop:=
 match f with
 | .next=> ∃σ' H',Inv X pins σ' H' s'/\D.nx σ' H'
 | .brk=> ∃σ' H',Inv X pins σ' H' s'/\D.bk σ' H'
 | .cont=> ∃σ' H',Inv X pins σ' H' s'/\D.ct σ' H'
 | .ret u=> ∃v σ' H',Inv X pins σ' H' s'/\RelV v u/\D.rt v H'
def PE (X:Cx) (e:Expr) (t:TE):Prop:=
 ∀ (pins:List (Addr×Obj)) (s:Shared) (σ:St) (H:Hp) (Q:VK),Inv X pins σ H s->t σ H Q->wpAny (model X.prog X.w) X.A (eval e X.env) (EP X pins σ Q) X.xe s
def PT (X:Cx) (e:Expr) (t:TT):Prop:=
 ∀ (pins:List (Addr×Obj)) (s:Shared) (σ:St) (H:Hp) (Q:Bool->Hp->Prop),Inv X pins σ H s->t σ H Q->wpAny (model X.prog X.w) X.A (isTrue e X.env (eval e X.env)) (TP X pins σ Q) X.xe s
def PW (X:Cx) (e:Expr) (t:TT):Prop:=
 ∀ (whole:Sem Value) (pins:List (Addr×Obj)) (s:Shared) (σ:St) (H:Hp) (Q:Bool->Hp->Prop),Inv X pins σ H s->t σ H Q->wpAny (model X.prog X.w) X.A (isTrue e X.env whole) (TP X pins σ Q) X.xe s
theorem PW.pt {X:Cx} {t:TT} (h:PW X e t):PT X e t:=h _
def PA (X:Cx) (es:List Expr) (t:TA):Prop:=
 ∀ (pos:Pos) (pins:List (Addr×Obj)) (s:Shared) (σ:St) (H:Hp) (Q:List V->Hp->Prop),Inv X pins σ H s->t σ H Q->wpAny (model X.prog X.w) X.A (spliced (backTo pos (starEach es X.env))) (AP X pins σ Q) X.xe s
def PS (X:Cx) (st:Stmt) (t:TS):Prop:=
 ∀ (pins:List (Addr×Obj)) (s:Shared) (σ:St) (H:Hp) (D:Ends),Inv X pins σ H s->t D σ H->wpAny (model X.prog X.w) X.A (exec st X.env) (SP X pins D) X.xe s
def PSs (X:Cx) (st:List Stmt) (t:TS):Prop:=
 ∀ (pins:List (Addr×Obj)) (s:Shared) (σ:St) (H:Hp) (D:Ends),Inv X pins σ H s->t D σ H->wpAny (model X.prog X.w) X.A (execs st X.env) (SP X pins D) X.xe s
theorem aW {α:Type} {t:Sem α} {Q Q':α->Shared->Prop} {s:Shared} (h:wpAny M A t Q E s) (hQ: ∀a s,Q a s->Q' a s):wpAny M A t Q' E s:=Yv h hQ λ _ _ x=>x
section
variable {X:Cx}
def aj (i:Nat):TE:=λ σ H Q=> ∃v,σ[i]? =some (some v)/\Q v H
def tC (v:V):TE:=λ _ H Q=>Q v H
theorem Kd (hN:X.N[i]? =some x) (hv:Ux X.env.scope x) (hd:(x==("__debug__":Str))=false:=by decide) (hcd:(x==("__classdict__":Str))=false:=by decide):PE X (.Name x pos) (aj i):=by
 intro O s W H Q I h;let#[v,e,h]:=h;let#[m,hn,Y]:=I.loc;let#[u,r,l]:=Y i x v hN e hv;have fin:EP X O W Q u s:=#[v,H,I,r,h];rcases l with ⟨hk,hm⟩ | ⟨hk,c,hc,hcell⟩
 .exact wpAny_Name (wpAny_loadName_local I.ok.kind hk hn hm fin) hd
 .rcases hk with hk | hk
  .exact wpAny_Name (wpAny_loadName_cell I.ok.kind hk hc hcell fin) hd
  .exact wpAny_Name (wpAny_loadName_free I.ok.kind hk hc hcell fin hcd) hd
theorem ak {i j pos}:PE X (.Constant (.int i) j pos) (tC (.int i)):=λ _ _ _ H _ I h=>wpAny_Constant_int #[.int i,H,I.tok _,#[_,rfl],h]
theorem j4 {b j pos}:PE X (.Constant (.bool b) j pos) (tC (.bl b)):=λ _ _ _ H _ I h=>Constant_bool #[.bl b,H,I,rfl,h]
theorem dJ {j pos}:PE X (.Constant .none j pos) (tC .non):=λ _ _ _ H _ I h=>Constant_none #[.non,H,I,rfl,h]
theorem cN {x j pos}:PE X (.Constant (.str x) j pos) (tC (.str x)):=λ _ _ _ H _ I h=>Calls.Constant_str #[.str x,H,I.tok _,#[_,rfl],h]
def Gl (X:Cx) (x:Str):Prop:=X.env.kindOf x=some .globalImplicit
theorem km {s:Shared} (I:Inv X pins σ H s) (hg:Gl X x) (hm:X.mg x=some u) (h:Q u s)
  (hd:(x==("__debug__":Str))=false:=by decide):wpAny (model X.prog X.w) X.A (eval (.Name x pos) X.env) Q E s:=
 Calls.Name_function_global I.ok.kind hg (Calls.loadGlobal_global (by rw [I.ok.glob];show I.mod.glob.keeps I.bk) hm h) hd
theorem fG {s:Shared} (I:Inv X pins σ H s) (hg:Gl X x) (hm:X.mg x=none) (hv:bootBuiltins x=some u) (h:Q u s)
  (hn:x≠"__name__":=by decide) (hd:(x==("__debug__":Str))=false:=by decide):wpAny (model X.prog X.w) X.A (eval (.Name x pos) X.env) Q E s:=by
 let#[Y,W,O]:=I.mod.blt;show Calls.Name_function_global I.ok.kind hg (Calls.loadGlobal_builtin (by rw [I.ok.glob];show I.mod.glob.keeps I.bk) hm (by rw [I.ok.blt];show W.keeps I.bk) ((O x hn).trans hv) h) hd
theorem gR (hg:Gl X x) (hm:X.mg x=some u) (r:RelV v u) (hd:(x==("__debug__":Str))=false:=by decide):PE X (.Name x pos) (tC v):=
 λ _ _ _ H _ I h=>km I hg hm #[v,H,I,r,h] hd
theorem fH (hg:Gl X x) (hm:X.mg x=none) (hv:bootBuiltins x=some u) (r:RelV v u) (hn:x≠"__name__":=by decide) (hd:(x==("__debug__":Str))=false:=by decide):PE X (.Name x pos) (tC v):=
 λ _ _ _ H _ I h=>fG I hg hm hv #[v,H,I,r,h] hn hd
variable {a b:Expr} {ta tb:TE} {pos:Pos}
def PC (X:Cx) (op:CmpOp) (a b:Expr) (t:TE):Prop:=
 ∀ (pins:List (Addr×Obj)) (s:Shared) (σ:St) (H:Hp) (Q:VK),Inv X pins σ H s->t σ H Q->
  wpAny (model X.prog X.w) X.A (eval a X.env) (λ v s₁=>wpAny (model X.prog X.w) X.A (eval b X.env) (λ u s₂=>wpAny (model X.prog X.w) X.A (compareOp op v u) (EP X pins σ Q) X.xe s₂) X.xe s₁) X.xe s
def tB (t:TE):TT:=λ σ H Q=>t σ H λ x H1=> ∃c,x= .bl c/\Q c H1
theorem gr (h:PC X op a b t) (h1:behindInMarks op b=false:=by first | show nobehind _ (by decide) (by decide) | rfl):PT X (.Compare a [op] [b] pos) (tB t):=by
 intro O s Y H Q I W;refine wpAny_isTrue_Compare1 (aW (h O s Y H _ I W) λ v s1 h1=>aW h1 λ u s2 h2=>aW h2 λ c s3 ⟨x,H1,I1,r1,q1⟩=> ?_) h1;let#[d,rfl,q]:=q1
 cases r1;show wpAny_truthy_bool #[H1,I1,q]
variable {tA tB':TT} {rest:List Expr}
def pF (t u:TT):TT:=λ σ H Q=>t σ H λ c H1=>if c=true then u σ H1 Q else Q false H1
def Ke (t u:TT):TT:=λ σ H Q=>t σ H λ c H1=>if c=true then Q true H1 else u σ H1 Q
def lB (t:TT):TT:=λ σ H Q=>t σ H λ c H1=>Q (!c) H1
theorem gU (ha:PT X a tA):PW X (.BoolOp .And [a] pos) tA:=by
 intro Y O s W H Q I h;refine isTrue_and (aW (ha O s W H Q I h) λ c s1 e=> ?_)
 cases c with
 | true=>show isTrue_and_nil e
 | false=>show e
theorem lC (ha:PT X a tA):PW X (.BoolOp .Or [a] pos) tA:=by
 intro Y O s W H Q I h;refine isTrue_or (aW (ha O s W H Q I h) λ c s1 e=> ?_)
 cases c with
 | false=>show isTrue_or_nil e
 | true=>show e
theorem iQ (ha:PT X a tA) (hb:PW X (.BoolOp .And (b::rest) pos) tB'):PW X (.BoolOp .And (a::b::rest) pos) (pF tA tB'):=by
 intro wh O s W H Q I h;refine isTrue_and (aW (ha O s W H _ I h) λ c s1 ⟨H1,I1,Y⟩=> ?_)
 cases c with
 | true=>show hb wh O s1 W H1 Q I1 Y
 | false=>show#[H1,I1,Y]
theorem rA (ha:PT X a tA) (hb:PW X (.BoolOp .Or (b::rest) pos) tB'):PW X (.BoolOp .Or (a::b::rest) pos) (Ke tA tB'):=by
 intro wh O s W H Q I h;refine isTrue_or (aW (ha O s W H _ I h) λ c s1 ⟨H1,I1,Y⟩=> ?_)
 cases c with
 | true=>show#[H1,I1,Y]
 | false=>show hb wh O s1 W H1 Q I1 Y
theorem fJ (ha:PT X a tA):PT X (.UnaryOp .Not a pos) (lB tA):=by
 intro O s W H Q I h;show isTrue_not (ha O s W H (λ c H1=>Q (!c) H1) I h)
def lD (ta tb:TE):TE:=λ σ H Q=>ta σ H λ x H1=> ∃c,x= .bl c/\if c=true then tb σ H1 Q else Q (.bl false) H1
def GF (ta tb:TE):TE:=λ σ H Q=>ta σ H λ x H1=> ∃c,x= .bl c/\if c=true then Q (.bl true) H1 else tb σ H1 Q
def wY (ta:TE):TE:=λ σ H Q=>ta σ H λ x H1=> ∃c,x= .bl c/\Q (.bl (!c)) H1
theorem jm {op} (h:PE X a t):PE X (.BoolOp op [a] pos) t:=λ O s W H Q I Y=>BoolOp_one (h O s W H Q I Y)
theorem lE (ha:PE X a ta) (hb:PE X (.BoolOp .And (b::rest) pos) tb):PE X (.BoolOp .And (a::b::rest) pos) (lD ta tb):=by
 intro O s Y H Q I h;refine BoolOp_and (aW (ha O s Y H _ I h) λ v s1 ⟨x,H1,I1,r1,W⟩=> ?_);let#[c,rfl,W]:=W
 cases r1;refine wpAny_truthy_bool ?_
 cases c with
 | true=>show hb O s1 Y H1 Q I1 W
 | false=>show#[.bl false,H1,I1,rfl,W]
theorem Jv (ha:PE X a ta) (hb:PE X (.BoolOp .Or (b::rest) pos) tb):PE X (.BoolOp .Or (a::b::rest) pos) (GF ta tb):=by
 intro O s Y H Q I h;refine BoolOp_or (aW (ha O s Y H _ I h) λ v s1 ⟨x,H1,I1,r1,W⟩=> ?_);let#[c,rfl,W]:=W
 cases r1;refine wpAny_truthy_bool ?_
 cases c with
 | false=>show hb O s1 Y H1 Q I1 W
 | true=>show#[.bl true,H1,I1,rfl,W]
theorem zL (ha:PE X a ta):PE X (.UnaryOp .Not a pos) (wY ta):=by
 intro O s Y H Q I h;refine UnaryOp_ (aW (ha O s Y H _ I h) λ v s1 ⟨x,H1,I1,r1,W⟩=> ?_);let#[c,rfl,W]:=W
 cases r1;show not_of (wpAny_truthy_bool #[.bl (!c),H1,I1,rfl,W])
def QG (t:TT) (ta tb:TE):TE:=λ σ H Q=>t σ H λ c H1=>if c=true then ta σ H1 Q else tb σ H1 Q
theorem lF (hc:PT X c tA) (ha:PE X a ta) (hb:PE X b tb):PE X (.IfExp c a b pos) (QG tA ta tb):=by
 intro O s W H Q I h;refine wpAny_IfExp (aW (hc O s W H _ I h) λ d s1 ⟨H1,I1,Y⟩=> ?_)
 cases d with
 | true=>show ha O s1 W H1 Q I1 Y
 | false=>show hb O s1 W H1 Q I1 Y
end
def SqL (K:W.Frag) (H:Hp) (a:Addr) (xs:List V):Prop:=
 Rd H a (.lst xs)\/
  ∃ (o:Obj) (its:Array Value) (n:Nat),K.lookup a=some o/\o.cls= .type "list"/\o.dict=none/\o.data= .seq its n/\its.size<=sizeLine/\Vals xs its.toList
def SqT (K:W.Frag) (H:Hp) (a:Addr) (xs:List V):Prop:=
 Rd H a (.tup xs)\/
  ∃ (o:Obj) (its:Array Value) (n:Nat),K.lookup a=some o/\o.cls= .type "tuple"/\o.data= .seq its n/\its.size<=sizeLine/\Vals xs its.toList
def V8:Value->Option V
 | .none=>some .non
 | .bool b=>some (.bl b)
 | .int i _=>some (.int i)
 | .str x _=>some (.str x)
 | .bytes b _=>some (.byt b)
 | .float b _=>some (.flt b)
 | .ref a=>some (.ref a)
 | .type n=>some (.ty n)
 | _=>none
theorem RelV.abs {x:V} (r:RelV x u):V8 u=some x:=by
 cases x with
 | non=>cases r;rfl
 | bl _=>cases r;rfl
 | int _=>let#[t,rfl]:=r;rfl
 | str _=>let#[t,rfl]:=r;rfl
 | byt _=>let#[t,rfl]:=r;rfl
 | flt _=>let#[t,rfl]:=r;rfl
 | ref _=>cases r;rfl
 | ty _=>cases r;rfl
theorem RelV.inj {x:V} (r:RelV x u) (q:RelV y u):x=y:=Yi (r.abs.symm.trans q.abs)
theorem Vals.inj: ∀ {xs ys:List V} {us:List Value},Vals xs us->Vals ys us->xs=ys
 | _,_,_, .nil, .nil=>rfl
 | _,_,_, .cons r t, .cons r' t'=>by rw [r.inj r',Vals.inj t t']
section
variable {X:Cx} {pins:List (Addr×Obj)} {σ:St} {H:Hp} {s:Shared} {a:Addr} {xs ys:List V}
theorem SqL.of {K:W.Frag} (h:H a=some (.lst xs)):SqL K H a xs:= .inl (.inl h)
theorem SqT.of {K:W.Frag} (h:H a=some (.tup xs)):SqT K H a xs:= .inl (.inl h)
theorem Inv.list (I:Inv X pins σ H s) (h:SqL X.K H a xs): ∃its:List Value,Vals xs its/\PlainL s.heap a its.toArray/\xs.length<=sizeLine:=by
 rcases h with h | ⟨o,its,n,hk,hc,hd,hs,hz,r⟩
 .obtain ⟨z,its,n,r,e⟩:=h.ok I.hok;show#[its,r,#[_,n,e,rfl,rfl,rfl],z]
 .refine #[its.toList,r,#[o,n,I.kIn a o hk,hc,hd,by simpa using hs],?_];have e:=r.length;simp only [Array.length_toList] at e;rfl'
theorem Inv.tuple (I:Inv X pins σ H s) (h:SqT X.K H a xs): ∃its:List Value,Vals xs its/\IsTup s.heap a its.toArray/\xs.length<=sizeLine:=by
 rcases h with h | ⟨o,its,n,hk,hc,hs,hz,r⟩
 .obtain ⟨z,its,r,p⟩:=h.ok I.hok;show#[its,r,p,z]
 .refine #[its.toList,r,#[o,I.kIn a o hk,hc,n,by simpa using hs],?_];have e:=r.length;simp only [Array.length_toList] at e;rfl'
theorem Inv.list_inj (I:Inv X pins σ H s) (h:SqL X.K H a xs) (h':SqL X.K H a ys):xs=ys:=by
 let#[O,r,#[o,n,e,_,_,d],_]:=I.list h;let#[its',Y,#[o',n',W,_,_,d'],_]:=I.list h';rw [e] at W;cases W;rw [d] at d';injection d' with d1 _
 have:O=its':=by simpa using Yc Array.toList d1
 subst this;show r.inj Y
theorem Inv.tuple_inj (I:Inv X pins σ H s) (h:SqT X.K H a xs) (h':SqT X.K H a ys):xs=ys:=by
 let#[O,r,#[o,e,_,n,d],_]:=I.tuple h;let#[its',Y,#[o',W,_,n',d'],_]:=I.tuple h';rw [e] at W;cases W;rw [d] at d';injection d' with d1 _
 have:O=its':=by simpa using Yc Array.toList d1
 subst this;show r.inj Y
end
abbrev Cx.wish (X:Cx) (E:Value->Shared->Prop):Cx:={ X with xe:=E }
abbrev Cx.nox (X:Cx):Cx:=X.wish λ _ _=>False
theorem Cx.Ok.wish {X:Cx} (ok:X.Ok) (E:Value->Shared->Prop):(X.wish E).Ok:=
 #[ok.mod,ok.kind,ok.glob,ok.blt,ok.above,ok.inj,ok.has,ok.cab,ok.hd,ok.frames,ok.stk,ok.exf,ok.bs,ok.bsz,ok.noex,ok.exfs,ok.funs,ok.frf]
theorem Cx.Ok.unwish {X:Cx} (ok:(X.wish E).Ok):X.Ok:=
 #[ok.mod,ok.kind,ok.glob,ok.blt,ok.above,ok.inj,ok.has,ok.cab,ok.hd,ok.frames,ok.stk,ok.exf,ok.bs,ok.bsz,ok.noex,ok.exfs,ok.funs,ok.frf]
section
variable {X:Cx} {pins:List (Addr×Obj)} {σ:St} {H:Hp} {s:Shared} {E:Value->Shared->Prop}
theorem Inv.wish (I:Inv X pins σ H s) (E:Value->Shared->Prop):Inv (X.wish E) pins σ H s:=#[I.ok.wish E,I.os,I.bare,I.base,I.loc,I.cell,I.free,I.freeC,I.pin,I.hok,I.len]
theorem Inv.unwish (I:Inv (X.wish E) pins σ H s):Inv X pins σ H s:=#[I.ok.unwish,I.os,I.bare,I.base,I.loc,I.cell,I.free,I.freeC,I.pin,I.hok,I.len]
theorem SP.unwish {D:Ends} {f:Flow} (h:SP (X.wish E) pins D f s'):SP X pins D f s':=by
 cases f with
 | next=>let#[σ',O,I,q]:=h;show#[σ',O,I.unwish,q]
 | brk=>let#[σ',O,I,q]:=h;show#[σ',O,I.unwish,q]
 | cont=>let#[σ',O,I,q]:=h;show#[σ',O,I.unwish,q]
 | ret u=>let#[v,σ',O,I,r,q]:=h;show#[v,σ',O,I.unwish,r,q]
theorem PSs.nox {t:TS} (h:PSs X.nox st t):PSs X st t:=λ O s W H D I Y=>
 Yv (h O s W H D (I.wish _) Y) (λ _ _ q=>q.unwish) λ _ _ z=>False.elim z
end
section
variable {X:Cx} {st:Stmt} {rest:List Stmt} {t u:TS} {e:Expr} {te:TE} {pos:Pos}
def bF:TS:=λ D σ H=>D.nx σ H
def aG (t u:TS):TS:=λ D σ H=>t { D with nx:=u D } σ H
theorem aQ:PSs X [] bF:=λ _ _ O H _ I h=>wpAny_execs_nil #[O,H,I,h]
theorem rB (h1:PS X st t) (h2:PSs X rest u):PSs X (st::rest) (aG t u):=by
 intro O s Y H D I h;refine wpAny_execs_cons (aW (h1 O s Y H { D with nx:=u D } I h) λ f s1 q=> ?_)
 cases f with
 | next=>
  let#[σ',W,I',q]:=q;show h2 O s1 σ' W D I' q
 | ret v=>show q
 | brk=>show q
 | cont=>show q
theorem aD (h1:PS X st t):PSs X [st] t:=by
 intro O s W H D I h;refine wpAny_execs_cons (aW (h1 O s W H D I h) λ f Y q=> ?_)
 cases f with
 | next=>show wpAny_execs_nil q
 | ret v=>show q
 | brk=>show q
 | cont=>show q
def V9:TS:=λ D σ H=>D.bk σ H
def W8:TS:=λ D σ H=>D.ct σ H
theorem Inv.quiet {s:Shared} (I:Inv X pins σ H s):interactive X.env=false:=by simp [interactive,I.ok.kind]
def cC (te:TE):TS:=λ D σ H=>te σ H λ _ H1=>D.nx σ H1
theorem bD (he:PE X e te) (hs:swapsWith e none pos.line X.env=pure false:=by rfl):PS X (.Expr e pos) (cC te):=by
 intro O s W H D I h;show wpAny_Expr_any (aW (he O s W H _ I h) λ v s1 ⟨x,H1,I1,r1,Y⟩=>#[W,H1,I1,Y]) I.quiet hs
def bh (te:TE):TS:=λ D σ H=>te σ H D.rt
theorem aL (he:PE X e te):PS X (.Return (some e) pos) (bh te):=by
 intro O s W H D I h;show wpAny_Return_some (aW (he O s W H _ I h) λ v s1 ⟨x,H1,I1,Y,q1⟩=>#[x,W,H1,I1,Y,q1])
def W9:TS:=λ D _ H=>D.rt .non H
def cF (c:TT) (t u:TS):TS:=λ D σ H=>c σ H λ b H1=>if b=true then t D σ H1 else u D σ H1
theorem bH {a b:List Stmt} (hc:PT X c tc) (ha:PSs X a t) (hb:PSs X b u):PS X (.If c a b pos) (cF tc t u):=by
 intro O s W H D I h;refine wpAny_If (aW (hc O s W H _ I h) λ d s1 ⟨H1,I1,Y⟩=> ?_)
 cases d with
 | true=>show ha O s1 W H1 D I1 Y
 | false=>show hb O s1 W H1 D I1 Y
def zM:TS:=λ _ _ _=>False
theorem zN:PS X st zM:=λ _ _ _ _ _ _ h=>h.elim
end
abbrev TG:=V->St->Hp->(St->Hp->Prop)->Prop
abbrev Gu:=List V->St->Hp->(St->Hp->Prop)->Prop
def PG (X:Cx) (target:Expr) (t:TG):Prop:=
 ∀ (pins:List (Addr×Obj)) (s:Shared) (σ:St) (H:Hp) (v:V) (u:Value) (Q:St->Hp->Prop),Inv X pins σ H s->RelV v u->t v σ H Q->
  wpAny (model X.prog X.w) X.A (assign target X.env u) (λ _ s'=> ∃σ' H',Inv X pins σ' H' s'/\Q σ' H') X.xe s
def QH (X:Cx) (ts:List Expr) (t:Gu):Prop:=
 ∀ (pins:List (Addr×Obj)) (s:Shared) (σ:St) (H:Hp) (vs:List V) (us:List Value) (Q:St->Hp->Prop),Inv X pins σ H s->Vals vs us->t vs σ H Q->
  wpAny (model X.prog X.w) X.A (assignInOrder ((assignEach ts X.env).map (·.2)) us) (λ _ s'=> ∃σ' H',Inv X pins σ' H' s'/\Q σ' H') X.xe s
abbrev zO:=V->V->V->Hp->(Hp->Prop)->Prop
def QJ (X:Cx) (t:zO):Prop:=
 ∀ (pins:List (Addr×Obj)) (s:Shared) (σ:St) (H:Hp) (o i v:V) (ov iv u:Value) (Q:Hp->Prop),Inv X pins σ H s->RelV o ov->RelV i iv->RelV v u->t o i v H Q->
  wpAny (model X.prog X.w) X.A (setItem ov iv u) (λ _ s'=> ∃H',Inv X pins σ H' s'/\Q H') X.xe s
abbrev Kf:=V->V->Hp->VK->Prop
def Wa (X:Cx) (op:Operator) (t:Kf):Prop:=
 ∀ (pins:List (Addr×Obj)) (s:Shared) (σ:St) (H:Hp) (x y:V) (v u:Value) (Q:VK),Inv X pins σ H s->RelV x v->RelV y u->t x y H Q->
  wpAny (model X.prog X.w) X.A (inplaceOp op v u) (EP X pins σ Q) X.xe s
section
variable {X:Cx} {pos:Pos}
def aA (i:Nat):TG:=λ v σ H Q=>Q (σ.set i (some v)) H
theorem pG (hN:X.N.Nodup) (hi:X.N[i]? =some x) (hx:Loc X.env.scope x) (hf:X.fn x=true\/X.env.scope.names.lookup x=some .local:=by first | show .inl rfl | show .inr rfl | assumption):PG X (.Name x pos) (aA i):=by
 intro O s Y H v u Q I r h;show wpAny_assign_Name (gn I hN hi hx r (λ s' W=>#[_,H,W,h]) hf)
def jn:Gu:=λ vs σ H Q=>vs=[]/\Q σ H
def bO (t:TG) (u:Gu):Gu:=λ vs σ H Q=> ∃v r,vs=v::r/\t v σ H λ σ' H'=>u r σ' H' Q
theorem cO:QH X [] jn:=by
 intro O s W H vs us Q I r h;let#[e,h]:=h;subst e
 cases r;show assignInOrder_nil #[W,H,I,h]
theorem aR {es:List Expr} {t:TG} {u:Gu} (h1:PG X e t) (h2:QH X es u)
  (hs:(assignEach (e::es) X.env).map (·.2)=assign e X.env::(assignEach es X.env).map (·.2):=by rfl):QH X (e::es) (bO t u):=by
 intro O s σ H vs us Q I r h;let#[v,vr,Y,h]:=h;subst Y
 cases r with
 | cons r rr=>
  rw [hs];refine assignInOrder_cons (aW (h1 O s σ H _ _ _ I r h) λ _ s1 ⟨W,H1,I1,q1⟩=> ?_);show h2 O s1 W H1 _ _ Q I1 rr q1
def j5 (K:W.Frag) (n:Nat) (t:Gu):TG:=λ v σ H Q=> ∃a xs,v= .ref a/\SqT K H a xs/\xs.length=n/\t xs σ H Q
theorem Kg {es:List Expr} {t:Gu} (hc:X.calm=true) (h:QH X es t)
  (hn:(assignEach es X.env).length=n:=by rfl) (hst:(assignEach es X.env).findIdx? (·.1)=none:=by rfl):PG X (.Tuple es k pos) (j5 X.K n t):=by
 intro O s Y H v u Q I r W;let#[a,xs,e1,hq,hl,W]:=W;subst e1
 cases r;let#[ab,rv,ht,hz]:=I.tuple hq;refine assign_Tuple_tuple (I.ok.hd hc) ht (by simp [hn,<- hl,rv.length]) hst λ h' hx=> ?_
 have I1:Inv X O Y H { s with heap:=h' }:=I.kept (t':=s.toks) λ b o e=>hx b o (Yb (Zh e)) e
 show h O _ Y H xs _ Q I1 (by simpa using rv) W
def Kh (to ti:TE) (t:zO):TG:=λ v σ H Q=>to σ H λ o H1=>ti σ H1 λ i H2=>t o i v H2 λ H3=>Q σ H3
theorem Kl {o i:Expr} {to ti:TE} {t:zO} (ho:PE X o to) (hi:PE X i ti) (hs:QJ X t)
  (ha: ∀v,assign (.Subscript o i pos) X.env v=(do
   let ov <- holding [v] (eval o X.env)
   let W <- holding [v,ov] (eval i X.env)
   standAt pos
   holding [v,ov,W] (setItem ov W v)
   release [v,ov,W] []):=by intro _;rfl):PG X (.Subscript o i pos) (Kh to ti t):=by
 intro O s Y H v u Q I r h;rw [ha];refine Qb (Yp (aW (ho O s Y H _ I h) λ ov s1 ⟨x,H1,I1,r1,q1⟩=> ?_));refine Qb (Yp (aW (hi O s1 Y H1 _ I1 q1) λ W s2 ⟨y,H2,I2,r2,q2⟩=> ?_));refine Qb (wpAny_standAt (Qb (Yp (aW (hs O s2 Y H2 x y v ov W u _ I2 r1 r2 r q2) λ _ s3 ⟨H3,I3,q3⟩=> ?_))));show wpAny_release #[Y,H3,I3,q3]
def aM (te:TE) (g:TG):TS:=λ D σ H=>te σ H λ x H1=>g x σ H1 D.nx
theorem Km {g:TG} (he:PE X e te) (hg:PG X tg g) (hs:swapsWithSole [tg] e pos.line X.env=pure false:=by rfl) (hw:swappedStores [tg] e X.env=pure none:=by rfl)
  (h1:(assignEach [tg] X.env).map (·.2)=[assign tg X.env]:=by rfl):PS X (.Assign [tg] e pos) (aM te g):=by
 intro O s W H D I h;refine wpAny_Assign_stores (aW (he O s W H _ I h) λ v s1 ⟨x,H1,I1,Y,q1⟩=> ?_) hs hw;rw [h1];show aW (hg O s1 W H1 x v _ I1 Y q1) λ _ s2 q=>q
theorem jo (hN:X.N.Nodup) (hi:X.N[i]? =some x) (hx:Loc X.env.scope x) (he:PE X e te) (hs:swapsWith e (some (.Name x pos')) pos.line X.env=pure false:=by rfl) (hf:X.fn x=true\/X.env.scope.names.lookup x=some .local:=by first | show .inl rfl | show .inr rfl | assumption):
  PS X (.Assign [.Name x pos'] e pos) (aM te (aA i)):=by
 intro O s W H D I h;refine wpAny_Assign_Name (aW (he O s W H _ I h) λ v s1 ⟨y,H1,I1,Y,q1⟩=> ?_) hs;show gn I1 hN hi hx Y (λ s2 I2=>#[_,H1,I2,q1]) hf
def Ko (i:Nat) (te:TE) (ti:Kf):TS:=λ D σ H=> ∃x,σ[i]? =some (some x)/\te σ H λ y H1=>ti x y H1 λ z H2=>D.nx (σ.set i (some z)) H2
theorem Kq {op:Operator} {ti:Kf} (hN:X.N.Nodup) (hi:X.N[i]? =some x) (hx:Loc X.env.scope x) (he:PE X e te) (ho:Wa X op ti) (hf:X.fn x=true\/X.env.scope.names.lookup x=some .local:=by first | show .inl rfl | show .inr rfl | assumption):
  PS X (.AugAssign (.Name x pos') op e pos) (Ko i te ti):=by
 intro O s σ H D I h;let#[v,e1,h]:=h;let#[m,hn,hl]:=I.loc;have ab:Ux X.env.scope x:=by rcases hx with k | k;show .inl k;show .inr (.inl k)
 let#[u,r,l]:=hl i x v hi e1 ab;refine wpAny_AugAssign_Name ?_;have go:wpAny (model X.prog X.w) X.A (eval e X.env) (λ w W=>wpAny (model X.prog X.w) X.A (inplaceOp op u w) (λ r Y=>wpAny (model X.prog X.w) X.A (storeName X.env x r) (λ _=>SP X O D .next) X.xe Y) X.xe W) X.xe s:=by
  refine aW (he O s σ H _ I h) λ w s1 ⟨y,H1,I1,r1,q1⟩=> ?_
  refine aW (ho O s1 σ H1 v y u w _ I1 r r1 q1) λ z s2 ⟨zv,H2,I2,r2,q2⟩=> ?_
  show gn I2 hN hi hx r2 (λ s3 I3=>#[_,H2,I3,q2]) hf
 rcases l with ⟨hk,hm⟩ | ⟨hk,c,hc,hcell⟩
 .exact wpAny_loadName_local I.ok.kind hk hn hm go
 .rcases hk with hk | hk
  .exact wpAny_loadName_cell I.ok.kind hk hc hcell go
  .rcases hx with k | k
   .have:X.env.scope.names.lookup x=some .free:=hk;rw [k] at this;cases this
   .have:X.env.scope.names.lookup x=some .free:=hk;rw [k] at this;cases this
def Wb (to ti te:TE) (tget:V->V->Hp->VK->Prop) (tip:Kf) (tset:zO):TS:=λ D σ H=>to σ H λ o H1=>ti σ H1 λ i H2=>tget o i H2 λ x H3=>te σ H3 λ y H4=>tip x y H4 λ z H5=>tset o i z H5 λ H6=>D.nx σ H6
def Va (f:Int->Int->Int):Kf:=λ x y H Q=> ∃i j,x= .int i/\y= .int j/\Q (.int (f i j)) H
theorem Kr:Wa X .Add (Va λ i j=>i+j):=by
 intro O s σ H x y v u Q I r1 Y h;let#[i,j,W,e2,q]:=h;subst W;subst e2;let#[t,rfl]:=r1;let#[t',rfl]:=Y;show iadd_int #[.int _,H,I.tok _,#[_,rfl],q]
end
section
variable {X:Cx} {pos:Pos}
def fK (c:TT) (tb:TS):TS:=λ D σ H=> ∃W:Nat->St->Hp->Prop,(∃m,W m σ H)/\ ∀m σ H,W m σ H->
 c σ H λ b H1=>if b=true then ∃N:St->Hp->Prop,(∀σ' H',N σ' H'-> ∃m',m'<m/\W m' σ' H')/\tb { D with nx:=N,ct:=N,bk:=D.nx } σ H1 else D.nx σ H1
theorem gw (hp:PassesOwn (model X.prog X.w) X.A X.env X.xe) (hc:PT X c tc) (hb:PSs X body tb):PS X (.While c body [] pos) (fK tc tb):=by
 intro O s σ H D I h;let#[W,#[m0,w0],ac]:=h;refine wpAny_While (codeAny_whileLoop (λ n s'=> ∃σ' H',Inv X O σ' H' s'/\W n σ' H') ?_ m0 #[σ,H,I,w0]);rintro n s1 ⟨ab,H1,I1,w1⟩;refine wpAny_passesOwn hp (aW (hc O s1 ab H1 _ I1 (ac n ab H1 w1)) λ b s2 ⟨H2,I2,q2⟩=> ?_)
 cases b with
 | true=>
  let#[N,hN,q2]:=q2;rw [if_pos rfl];refine wpAny_passesOwn hp (aW (hb O s2 ab H2 _ I2 q2) λ f s3 q3=> ?_)
  cases f with
  | next=>
   let#[Y,H3,I3,n3]:=q3;let#[m',hm,w3]:=hN Y H3 n3;show#[m',hm,Y,H3,I3,w3]
  | cont=>
   let#[Y,H3,I3,n3]:=q3;let#[m',hm,w3]:=hN Y H3 n3;show#[m',hm,Y,H3,I3,w3]
  | brk=>show q3
  | ret v=>show q3
 | false=>
  rw [if_neg Zu];show wpAny_execs_nil #[ab,H2,I2,q2]
end
structure It where
 go:Nat->Hp->Prop
 yld:Nat->Hp->V->Hp->Prop
 stop:Nat->Hp->Prop
def jq (X:Cx) (pins:List (Addr×Obj)) (H:Hp) (b:Addr):Prop:=
 H b=none/\b≠X.env.locals/\b∉X.fs/\(b∈X.ex\/X.s₀.heap.objs.size<=b)/\(∀x c,X.env.cells.lookup x=some c->c≠b)/\ ∀p∈X.pn++pins,p.1≠b
theorem Inv.fpOk {X:Cx} {H':Hp} {s:Shared} (I:Inv X pins σ H s) (hb:s.heap.objs.size<=b) (hn:H' b=none):jq X pins H' b:=by
 refine#[hn,Nat.ne_of_gt (Zx I.lt hb),I.nofs hb, .inr (Yl I.sz hb),λ x c e z=> ?_,λ p O z=> ?_]
 .obtain ⟨v,q⟩:=I.cell x c e;show absurd (Zx q.lt (by rw [z];show hb)) (Nat.lt_irrefl _)
 .exact absurd (Zx (Zh (I.pin p O).1) (by rw [z];show hb)) (Nat.lt_irrefl _)
structure Turn (P:Program) (w:World) (K:W.Frag) (tg:Expr) (J:It) (fp:List Addr) (it:Addr) (tn:Nat->Heap->Prop):Prop where
 mem:it∈fp
 obj: ∀i h,tn i h-> ∀b∈fp,∃o,h.get? b=some o/\ ∀v,o.data≠ .cell v
 keep: ∀i h h',tn i h->(∀b∈fp,∀o,h.get? b=some o->h'.get? b=some o)->tn i h'
 item: ∀ (X:Cx),X.prog=P->X.w=w->X.K=K->X.calm=true-> ∀ (i:Nat) (pins:List (Addr×Obj)) (s:Shared) (σ:St) (H:Hp) (E:Value->Shared->Prop),Inv X pins σ H s->(∀b∈fp,jq X pins H b)->tn i s.heap->J.go i H->
  wpAny (model P w) X.A (pyNext (.ref it)) (λ r s1=> ∃u,r=some u/\
   wpAny (model P w) X.A (letOwnedTupleGo tg (.ref it) u) (λ _ s2=> ∃x H',Inv X pins σ H' s2/\RelV x u/\J.yld i H x H'/\tn (i+1) s2.heap/\ ∀b∈fp,H' b=none) E s1) E s
 done: ∀ (X:Cx),X.prog=P->X.w=w->X.K=K->X.calm=true-> ∀ (i:Nat) (pins:List (Addr×Obj)) (s:Shared) (σ:St) (H:Hp) (E:Value->Shared->Prop),Inv X pins σ H s->(∀b∈fp,jq X pins H b)->tn i s.heap->J.stop i H->
  wpAny (model P w) X.A (pyNext (.ref it)) (λ r s1=>r=none/\Inv X pins σ H s1) E s
 self: ∀ (A:Around) (i:Nat) (s:Shared) (Q:Value->Shared->Prop) (E:Value->Shared->Prop),tn i s.heap->Q (.ref it) s->wpAny (model P w) A (pyIter (.ref it)) Q E s
abbrev TI:=St->Hp->(It->Hp->Prop)->Prop
def PIE (X:Cx) (pins:List (Addr×Obj)) (σ:St) (tg:Expr) (R:It->Hp->Prop) (itv:Value) (s2:Shared):Prop:=
 ∃ (it:Addr) (fp:List Addr) (tn:Nat->Heap->Prop) (J:It) (H':Hp),itv= .ref it/\Inv X pins σ H' s2/\Turn X.prog X.w X.K tg J fp it tn/\tn 0 s2.heap/\(∀b∈fp,jq X pins H' b)/\R J H'
def PI (X:Cx) (tg iter:Expr) (wi:TI):Prop:=
 ∀ (pins:List (Addr×Obj)) (s:Shared) (σ:St) (H:Hp) (R:It->Hp->Prop),Inv X pins σ H s->wi σ H R->
  wpAny (model X.prog X.w) X.A (eval iter X.env) (λ v s1=>wpAny (model X.prog X.w) X.A (pyIter v) (PIE X pins σ tg R) X.xe s1) X.xe s
theorem rC {s:Shared} {o:Obj} {n:String} {vs:Array Value} {Q:Unit->Shared->Prop} (ho:s.heap.get? it=some o) (hc:o.cls= .type n) (hd:o.data= .fields vs)
  (hn:["enumerate","zip","dict_itemiterator","dict_reverseitemiterator","odict_iterator","itertools.zip_longest","itertools.pairwise"].contains n=false) (hQ:Q Unit.unit s):wpAny M A (letOwnedTupleGo tg (.ref it) u) Q E s:=by
 unfold letOwnedTupleGo
 cases tg <;> first
  | show Zc hQ
  | (cases u<;>first
    | show Zc hQ
    | (refine Qb (wpAny_load ho ?_)
       rw [hc,hd];change wpAny M A (if (["enumerate","zip","dict_itemiterator","dict_reverseitemiterator","odict_iterator","itertools.zip_longest","itertools.pairwise"].contains n&&vs[0]? ==some (rawInt _))=true then _ else _) Q E s;rw [if_neg (by intro h;rw [hn,Bool.false_and] at h;cases h)];show Zc hQ))
def GJ (K:W.Frag) (a:Addr):It:=
 #[λ i H=> ∃xs x,SqL K H a xs/\xs[i]? =some x,λ i H x H'=>H'=H/\ ∀xs,SqL K H a xs->xs[i]? =some x,λ i H=> ∃xs,SqL K H a xs/\xs.length<=i]
def Qu (K:W.Frag) (a:Addr):It:=
 #[λ i H=> ∃xs x,SqT K H a xs/\xs[i]? =some x,λ i H x H'=>H'=H/\ ∀xs,SqT K H a xs->xs[i]? =some x,λ i H=> ∃xs,SqT K H a xs/\xs.length<=i]
def yw (lo:Int) (n:Nat):It:=#[λ i _=>i<n,λ i H x H'=>H'=H/\x= .int (lo+i),λ i _=>n<=i]
theorem yx {P:Program} {K:W.Frag} (a it:Addr):Turn P w K tg (GJ K a) [it] it (λ i h=>h.IsListIter it a i) where
 mem:=by simp
 obj:=λ i h st b Y=>by
  have e:b=it:=by simpa using Y
  subst e;let#[o,e,c,d]:=st;show#[o,e,λ v z=>by rw [d] at z;cases z]
 keep:=λ i h h' st k=>st.at λ o e=>k it (by simp) o e
 item:=by
  intro X hP hw hK hc i O s σ H E I hf st hg;subst hP hw hK;let#[xs,x,hq,hx]:=hg;let#[ac,rv,p,hz]:=I.list hq;let#[u,hu,ru]:=rv.get hx;let#[f0,f1,f2,f3,f4,f5]:=hf it (by simp);refine wpAny_pyNext_list_item st p.isList (x:=u) (by simpa using hu) λ h' ab sb=> ?_
  have I1:Inv X O σ H { s with heap:=h' }:=I.turned (t':=s.toks) (λ b o Y e=>(sb.2 b Y).trans e) f0 f1 f3 f4 f5;let#[o,e,c,d]:=id ab;show#[u,rfl,rC (s:={ s with heap:=h' }) e c d (by decide) ⟨x,H,I1,ru,⟨rfl,λ ys hy=>by rw [I.list_inj hy hq];show hx⟩,ab,λ b Y=>(hf b Y).1⟩]
 done:=by
  intro X hP hw hK hc i O s σ H E I hf st hg;subst hP hw hK;let#[xs,hq,hx]:=hg;let#[ac,rv,p,hz]:=I.list hq;let#[f0,f1,f2,f3,f4,f5]:=hf it (by simp);have hl:=rv.length;show wpAny_pyNext_list_end (I.ok.hd hc) st p.isList (by simp;rfl') λ h' eb=>#[rfl,I.turned (t':=s.toks) (λ b o Y e=>eb b o Y e) f0 f1 f3 f4 f5]
 self:=λ _ _ _ _ _ st h=>wpAny_pyIter_listiter st h
theorem ul {P:Program} {K:W.Frag} (a it:Addr):Turn P w K tg (Qu K a) [it] it (λ i h=>h.IsTupleIter it a i) where
 mem:=by simp
 obj:=λ i h st b hb=>by
  have e:b=it:=by simpa using hb
  subst e;let#[o,e,c,d]:=st;show#[o,e,λ v z=>by rw [d] at z;cases z]
 keep:=λ i h h' st k=>st.at λ o e=>k it (by simp) o e
 item:=by
  intro X hP hw hK hc i O s σ H E I hf st hg;subst hP hw hK;let#[xs,x,hq,hx]:=hg;let#[Y,rv,p,hz]:=I.tuple hq;let#[u,hu,ru]:=rv.get hx;let#[f0,f1,f2,f3,f4,f5]:=hf it (by simp);refine wpAny_pyNext_tuple_item st (show s.heap.IsTuple a Y.toArray from p) (x:=u) (by simpa using hu) λ h' ab sb=> ?_
  have I1:Inv X O σ H { s with heap:=h' }:=I.turned (t':=s.toks) (λ b o hb e=>(sb.2 b hb).trans e) f0 f1 f3 f4 f5;let#[o,e,c,d]:=id ab;show#[u,rfl,rC (s:={ s with heap:=h' }) e c d (by decide) ⟨x,H,I1,ru,⟨rfl,λ ys hy=>by rw [I.tuple_inj hy hq];show hx⟩,ab,λ b hb=>(hf b hb).1⟩]
 done:=by
  intro X hP hw hK hc i O s σ H E I hf st hg;subst hP hw hK;let#[xs,hq,hx]:=hg;let#[Y,rv,p,hz]:=I.tuple hq;let#[f0,f1,f2,f3,f4,f5]:=hf it (by simp);have hl:=rv.length;show wpAny_pyNext_tuple_end (I.ok.hd hc) st (show s.heap.IsTuple a Y.toArray from p) (by simp;rfl') λ h' eb=>#[rfl,I.turned (t':=s.toks) (λ b o hb e=>eb b o hb e) f0 f1 f3 f4 f5]
 self:=λ _ _ _ _ _ st h=>wpAny_pyIter_tupleiter st h
theorem uo {P:Program} {K:W.Frag} (it:Addr) (lo:Int) (n:Nat):Turn P w K tg (yw lo n) [it] it (λ i h=>IsRangeIter h it (lo+(i:Nat)*1) ((n:Int)-(i:Nat)) 1) where
 mem:=by simp
 obj:=λ i h st b Y=>by
  have e:b=it:=by simpa using Y
  subst e;show⟨_,st,λ v z=>by
   have z':Data.fields _=Data.cell v:=z
   cases z'⟩
 keep:=λ i h h' st k=>k it (by simp) _ st
 item:=by
  intro X hP hw hK hc i O s σ H E I hf st hg;subst hP hw hK;let#[f0,f1,f2,f3,f4,f5]:=hf it (by simp);have W:=Walks.range (prog:=X.prog) (w:=X.w) (I.ok.hd hc) it lo 1 n;refine W.item i s _ _ hg st λ v h' tk hv ab kk=> ?_
  let#[t,rfl]:=hv;have I1:Inv X O σ H { s with heap:=h',toks:=tk }:=I.turned (λ b o Y e=>kk b o (by simpa using Y) e) f0 f1 f3 f4 f5;refine⟨_,rfl,rC (s:={ s with heap:=h',toks:=tk }) (n:="range_iterator") ab rfl rfl (by decide) ⟨.int (lo+i),H,I1,⟨t,?_⟩,⟨rfl,rfl⟩,ab,λ b Y=>(hf b Y).1⟩⟩;rw [Int.mul_one]
 done:=by
  intro X hP hw hK hc i O s σ H E I hf st hg;subst hP hw hK;let#[f0,f1,f2,f3,f4,f5]:=hf it (by simp);show wpAny_pyNext_range_end (I.ok.hd hc) st (by have:n<=i:=hg;rfl') λ h' eb=>#[rfl,I.turned (t':=s.toks) (λ b o Y e=>eb b o Y e) f0 f1 f3 f4 f5]
 self:=λ _ _ _ _ _ st h=>wpAny_pyIter_rangeiter st h
section
variable {X:Cx} {tg:Expr}
def dC (K:W.Frag) (tl:TE):TI:=λ σ H R=>tl σ H λ x H1=> ∃a,x= .ref a/\(∃xs,SqL K H1 a xs)/\R (GJ K a) H1
def rD (K:W.Frag) (tl:TE):TI:=λ σ H R=>tl σ H λ x H1=> ∃a,x= .ref a/\(∃xs,SqT K H1 a xs)/\R (Qu K a) H1
theorem GK {l:Expr} (hl:PE X l tl):PI X tg l (dC X.K tl):=by
 intro O s σ H R I h;refine aW (hl O s σ H _ I h) λ v W ⟨x,H1,Y,r1,q1⟩=> ?_
 let#[a,e,#[xs,hq],q]:=q1;subst e
 cases r1;let#[ab,rv,p,hz]:=Y.list hq;refine wpAny_pyIter_list p.isList ?_;refine#[W.heap.objs.size,[W.heap.objs.size],_,_,H1,rfl,Y.kept (t':=W.toks) λ b o e=>Zd _ e,yx a _,#[_,Zo _ rfl,rfl,rfl],λ b hb=> ?_,q];have e:b=W.heap.objs.size:=by simpa using hb
 subst e;show Y.fpOk (Zm _) (Y.hok.fresh (Zm _))
theorem Ks {l:Expr} (hl:PE X l tl):PI X tg l (rD X.K tl):=by
 intro O s σ H R I h;refine aW (hl O s σ H _ I h) λ v W ⟨x,H1,Y,r1,q1⟩=> ?_
 let#[a,e,#[xs,hq],q]:=q1;subst e
 cases r1;let#[ab,rv,p,hz]:=Y.tuple hq;refine wpAny_pyIter_tuple (show W.heap.IsTuple a ab.toArray from p) ?_;refine#[W.heap.objs.size,[W.heap.objs.size],_,_,H1,rfl,Y.kept (t':=W.toks) λ b o e=>Zd _ e,ul a _,#[_,Zo _ rfl,rfl,rfl],λ b hb=> ?_,q];have e:b=W.heap.objs.size:=by simpa using hb
 subst e;show Y.fpOk (Zm _) (Y.hok.fresh (Zm _))
theorem rE {s:Shared} {R:It->Hp->Prop} {hi:Int} {t u v:Tok} {tk:Nat} (I:Inv X pins σ H s) (h1: -(2^62)<=lo) (h2:lo<2^62) (h3: -(2^62)<=hi) (h4:hi<2^62)
  (q:R (yw lo (hi-lo).toNat) H):wpAny (model X.prog X.w) X.A (pyIter (.ref s.heap.objs.size)) (PIE X pins σ tg R) E { s with heap:=s.heap.push { cls:= .type "range",data:= .fields ([.int lo t, .int hi u, .int 1 v].toArray) },toks:=tk }:=by
 refine wpAny_pyIter_range (IsRange.new ..) (small_one h1 h2 h3 h4) ?_;have O:Inv X pins σ H { s with heap:=s.heap.push { cls:= .type "range",data:= .fields ([.int lo t, .int hi u, .int 1 v].toArray) },toks:=tk }:=I.kept λ b o e=>Zd _ e
 refine⟨(s.heap.push { cls:= .type "range",data:= .fields ([.int lo t, .int hi u, .int 1 v].toArray) }).objs.size,[(s.heap.push { cls:= .type "range",data:= .fields ([.int lo t, .int hi u, .int 1 v].toArray) }).objs.size],_,_,H,rfl,
  O.kept (t':=tk) λ b o e=>Zd _ e,uo _ lo (hi-lo).toNat,?_,λ b hb=> ?_,q⟩
 .have Y:lo+((0:Nat):Int)*1=lo:=by simp
  have W:(((hi-lo).toNat:Nat):Int)-((0:Nat):Int)=Builtin.Range.rangeSize lo hi 1:=by rw [rangeSize_one];split<;>rfl'
  change IsRangeIter _ _ (lo+((0:Nat):Int)*1) ((((hi-lo).toNat:Nat):Int)-((0:Nat):Int)) 1;rw [Y,W];show Zo _ rfl
 .have e:b=(s.heap.push { cls:= .type "range",data:= .fields ([.int lo t, .int hi u, .int 1 v].toArray) }).objs.size:=by simpa using hb
  subst e;show O.fpOk (Zm _) (O.hok.fresh (Zm _))
def iB (ta:TA):TI:=λ σ H R=>ta σ H λ vs H1=> ∃j:Int,vs=[.int j]/\ -(2^62)<=j/\j<2^62/\R (yw 0 j.toNat) H1
def zP (ta:TA):TI:=λ σ H R=>ta σ H λ vs H1=> ∃i j:Int,vs=[.int i, .int j]/\(-(2^62)<=i/\i<2^62/\ -(2^62)<=j/\j<2^62)/\R (yw i (j-i).toNat) H1
theorem cI {a:Expr} {p:Pos} (hg:Gl X "range") (hm:X.mg "range"=none) (ha:PA X [a] ta) (hs:starEach [a] X.env=[(false,eval a X.env)]:=by rfl):PI X tg (.Call (.Name "range" p) [a] [] pos) (iB ta):=by
 intro O s σ H R I h;refine Call_ (fG I hg hm boot_range (PyProof.Rows.callWith_type1 (aW (ha pos O s σ H _ I h) λ us s1 ⟨vs,H1,I1,r1,W⟩=> ?_) hs rfl));let#[j,e,W,Y,q]:=W;subst e
 cases r1 with
 | cons r rr=>
  cases rr;let#[t,rfl]:=r;show call_range_1 (rE I1 () () W Y (by simpa using q))
theorem yz {a b:Expr} {p:Pos} (hg:Gl X "range") (hm:X.mg "range"=none) (ha:PA X [a,b] ta) (hs:starEach [a,b] X.env=[(false,eval a X.env),(false,eval b X.env)]:=by rfl) (hs2:starEach [b] X.env=[(false,eval b X.env)]:=by rfl):
  PI X tg (.Call (.Name "range" p) [a,b] [] pos) (zP ta):=by
 intro O s σ H R I h;refine Call_ (fG I hg hm boot_range (PyProof.Rows.callWith_type1 (aW (ha pos O s σ H _ I h) λ us s1 ⟨vs,H1,I1,r1,W⟩=> ?_) (by rw [hs,hs2]) (by rw [hs2];rfl)));let#[i,j,e,#[W,Y,q3,q4],q]:=W;subst e
 cases r1 with
 | cons r rr=>
  cases rr with
  | cons r' rr=>
   cases rr;let#[t,rfl]:=r;let#[t',rfl]:=r';show call_range_2 (rE I1 W Y q3 q4 q)
def dF (wi:TI) (g:TG) (tb:TS):TS:=λ D σ H=>wi σ H λ J H1=> ∃W:Nat->Nat->St->Hp->Prop,(∃m,W 0 m σ H1)/\ ∀i m σ H,W i m σ H->
 (J.stop i H/\D.nx σ H)\/(J.go i H/\ ∃N:St->Hp->Prop,(∀σ' H',N σ' H'-> ∃m',m'<m/\W (i+1) m' σ' H')/\ ∀x H',J.yld i H x H'->g x σ H' λ σ2 H2=>tb { D with nx:=N,ct:=N,bk:=D.nx } σ2 H2)
def jr (fp:List Addr) (h:Heap):List (Addr×Obj):=fp.filterMap λ b=>(h.get? b).map λ o=>(b,o)
theorem cZ {h:Heap} {o:Obj} (hb:b∈fp) (e:h.get? b=some o):(b,o)∈jr fp h:=List.mem_filterMap.mpr #[b,hb,by rw [e];rfl]
theorem yC {h:Heap} (hp:p∈jr fp h):p.1∈fp/\h.get? p.1=some p.2:=by
 let#[b,W,e]:=List.mem_filterMap.mp hp
 cases q:h.get? b with
 | none=>rw [q] at e;cases e
 | some o=>
  rw [q] at e;have O:(b,o)=p:=Yi e;subst O;show#[W,q]
theorem Inv.pinned {s:Shared} (I:Inv X pins σ H s) (hf: ∀b∈fp,jq X pins H b) (ho: ∀b∈fp,∃o,s.heap.get? b=some o/\ ∀v,o.data≠ .cell v):Inv X (pins++jr fp s.heap) σ H s:=
 I.pins_of λ p hp=>(Zp.mp hp).elim (λ z=>I.pin p (Zw _ z)) λ z=>by
  let#[W,e]:=yC z;let#[f0,f1,Y,_]:=hf p.1 W;let#[o,O,d]:=ho p.1 W;rw [e] at O;cases O;show#[e,f0,f1,Y,d]
theorem Inv.unpinned {pl:List (Addr×Obj)} {s:Shared} (I:Inv X (pins++pl) σ H s):Inv X pins σ H s:=I.pins_of λ p O=>I.pin p (Zw _ (Ym _ O))
theorem jt {iter:Expr} {wi:TI} {g:TG} (hp:PassesOwn (model X.prog X.w) X.A X.env X.xe) (hc:X.calm=true) (hi:PI X tg iter wi) (hg:PG X tg g) (hb:PSs X body tb)
  (hs: ∀x,foldedSetIterable iter X.env x=pure x:=by intro _;rfl):PS X (.For tg iter body [] pos) (dF wi g tb):=by
 intro O s σ H D I h;refine wpAny_For (aW (hi O s σ H _ I h) λ v s1 h1=>aW h1 λ ar s2 h2=> ?_) hs;let#[it,fp,tn,J,H2,e,I2,T,am,f2,W,#[m0,w0],ah]:=h2;subst e;have ac: ∀ {H':Hp},(∀b∈fp,H' b=none)-> ∀b∈fp,jq X O H' b:=λ hn b hb=>#[hn b hb,(f2 b hb).2]
 refine codeAny_forLoop_any (λ n s'=> ∃i σ' H',Inv X O σ' H' s'/\tn i s'.heap/\(∀b∈fp,H' b=none)/\W i n σ' H') ?_ m0 #[0,σ,H2,I2,am,λ b hb=>(f2 b hb).1,w0];rintro n s3 ⟨i,ab,H3,I3,ag,af,w3⟩;rcases ah i n ab H3 w3 with ⟨stop,qn⟩ | ⟨go,N,hN,step⟩
 .refine wpAny_passesOwn hp (aW (T.done X rfl rfl rfl hc i O s3 ab H3 X.xe I3 (ac af) ag stop) λ r s4 ⟨hr,I4⟩=> ?_);subst hr;show wpAny_execs_nil #[ab,H3,I4,qn]
 .refine wpAny_passesOwn hp (aW (T.item X rfl rfl rfl hc i O s3 ab H3 X.xe I3 (ac af) ag go) λ r s4 ⟨u,hr,h4⟩=> ?_);subst hr;refine wpAny_passesOwn hp (aW h4 λ _ s5 ⟨x,H5,I5,r5,y5,ae,ap⟩=> ?_);have al:=I5.pinned (ac ap) (T.obj _ _ ae);refine wpAny_passesOwn hp (aW (hg _ s5 ab H5 x u _ al r5 (step x H5 y5)) λ _ s6 ⟨ai,H6,I6,q6⟩=> ?_);refine wpAny_passesOwn hp (aW (hb _ s6 ai H6 _ I6 q6) λ f s7 q7=> ?_);have ad: ∀ {Y:St} {H7:Hp},Inv X (O++jr fp s5.heap) Y H7 s7->N Y H7-> ∃m,m<n/\ ∃i σ' H',Inv X O σ' H' s7/\tn i s7.heap/\(∀b∈fp,H' b=none)/\W i m σ' H':=λ {Y H7} I7 n7=>by
   let#[m',hm,w7]:=hN Y H7 n7;refine#[m',hm,i+1,Y,H7,I7.unpinned,T.keep _ _ _ ae λ b hb o e=>(I7.pin (b,o) (Zw _ (Zw _ (cZ hb e)))).1,λ b hb=> ?_,w7];let#[o,e,d]:=T.obj _ _ ae b hb;show(I7.pin (b,o) (Zw _ (Zw _ (cZ hb e)))).2.1
  cases f with
  | next=>let#[Y,H7,I7,n7]:=q7;show ad I7 n7
  | cont=>let#[Y,H7,I7,n7]:=q7;show ad I7 n7
  | brk=>let#[Y,H7,I7,q7]:=q7;show#[Y,H7,I7.unpinned,q7]
  | ret v=>let#[x7,Y,H7,I7,r7,q7]:=q7;show#[x7,Y,H7,I7.unpinned,r7,q7]
end
theorem zQ {K:W.Frag} {xs:List V} {g:TG} {D:Ends} (Pv:Nat->St->Hp->Prop) (h0:Pv 0 σ H) (hl: ∀i σ H,i<=xs.length->Pv i σ H->SqL K H a xs)
  (hs: ∀i x σ H,xs[i]? =some x->Pv i σ H->g x σ H λ O H2=>tb { D with nx:=Pv (i+1),ct:=Pv (i+1),bk:=D.nx } O H2) (hd: ∀σ H,Pv xs.length σ H->D.nx σ H):
  ∃W:Nat->Nat->St->Hp->Prop,(∃m,W 0 m σ H)/\ ∀i m σ H,W i m σ H->
   ((GJ K a).stop i H/\D.nx σ H)\/((GJ K a).go i H/\ ∃N:St->Hp->Prop,(∀σ' H',N σ' H'-> ∃m',m'<m/\W (i+1) m' σ' H')/\ ∀x H',(GJ K a).yld i H x H'->g x σ H' λ O H2=>tb { D with nx:=N,ct:=N,bk:=D.nx } O H2):=by
 refine#[λ i m σ H=>m=xs.length-i/\i<=xs.length/\Pv i σ H,#[xs.length,by simp,Yr _,h0],?_];rintro i m σ H ⟨rfl,hi,p⟩;have q:=hl i σ H hi p;by_cases Y:i<xs.length
 .refine .inr #[#[xs,xs[i],q,by simp [Y]],Pv (i+1),λ σ' H' p'=>#[xs.length-(i+1),(),rfl,Y,p'],λ x H' y=> ?_];let#[e,y]:=y;subst e;show hs i x σ _ (y xs q) p
 .have e:i=xs.length:=()
  subst e;show .inl #[#[xs,q,Zm _],hd σ H p]
theorem GP {K:W.Frag} {xs:List V} {g:TG} {D:Ends} (Pv:Nat->St->Hp->Prop) (h0:Pv 0 σ H) (hl: ∀i σ H,i<=xs.length->Pv i σ H->SqT K H a xs)
  (hs: ∀i x σ H,xs[i]? =some x->Pv i σ H->g x σ H λ O H2=>tb { D with nx:=Pv (i+1),ct:=Pv (i+1),bk:=D.nx } O H2) (hd: ∀σ H,Pv xs.length σ H->D.nx σ H):
  ∃W:Nat->Nat->St->Hp->Prop,(∃m,W 0 m σ H)/\ ∀i m σ H,W i m σ H->
   ((Qu K a).stop i H/\D.nx σ H)\/((Qu K a).go i H/\ ∃N:St->Hp->Prop,(∀σ' H',N σ' H'-> ∃m',m'<m/\W (i+1) m' σ' H')/\ ∀x H',(Qu K a).yld i H x H'->g x σ H' λ O H2=>tb { D with nx:=N,ct:=N,bk:=D.nx } O H2):=by
 refine#[λ i m σ H=>m=xs.length-i/\i<=xs.length/\Pv i σ H,#[xs.length,by simp,Yr _,h0],?_];rintro i m σ H ⟨rfl,hi,p⟩;have q:=hl i σ H hi p;by_cases Y:i<xs.length
 .refine .inr #[#[xs,xs[i],q,by simp [Y]],Pv (i+1),λ σ' H' p'=>#[xs.length-(i+1),(),rfl,Y,p'],λ x H' y=> ?_];let#[e,y]:=y;subst e;show hs i x σ _ (y xs q) p
 .have e:i=xs.length:=()
  subst e;show .inl #[#[xs,q,Zm _],hd σ H p]
theorem nR {g:TG} {D:Ends} (Pv:Nat->St->Hp->Prop) (h0:Pv 0 σ H)
  (hs: ∀i σ H,i<n->Pv i σ H->g (.int (lo+i)) σ H λ O H2=>tb { D with nx:=Pv (i+1),ct:=Pv (i+1),bk:=D.nx } O H2) (hd: ∀σ H,Pv n σ H->D.nx σ H):
  ∃W:Nat->Nat->St->Hp->Prop,(∃m,W 0 m σ H)/\ ∀i m σ H,W i m σ H->
   ((yw lo n).stop i H/\D.nx σ H)\/((yw lo n).go i H/\ ∃N:St->Hp->Prop,(∀σ' H',N σ' H'-> ∃m',m'<m/\W (i+1) m' σ' H')/\ ∀x H',(yw lo n).yld i H x H'->g x σ H' λ O H2=>tb { D with nx:=N,ct:=N,bk:=D.nx } O H2):=by
 refine#[λ i m σ H=>m=n-i/\i<=n/\Pv i σ H,#[n,by simp,Yr _,h0],?_];rintro i m σ H ⟨rfl,hi,p⟩;by_cases Y:i<n
 .refine .inr #[Y,Pv (i+1),λ σ' H' p'=>#[n-(i+1),(),rfl,Y,p'],λ x H' y=> ?_];let#[e,y]:=y;subst e y;show hs i σ _ Y p
 .have e:i=n:=()
  subst e;show .inl #[Nat.le_refl _,hd σ H p]
theorem rG {c:TT} {D:Ends} (Pv:St->Hp->Prop) (μ:St->Hp->Nat) (h0:Pv σ H)
  (hs: ∀σ H,Pv σ H->c σ H λ b H1=>if b=true then tb { D with nx:=λ σ' H'=>Pv σ' H'/\μ σ' H'<μ σ H,ct:=λ σ' H'=>Pv σ' H'/\μ σ' H'<μ σ H,bk:=D.nx } σ H1 else D.nx σ H1)
  (mono: ∀σ H Q O,(∀b H1,Q b H1->O b H1)->c σ H Q->c σ H O):fK c tb D σ H:=by
 refine#[λ m σ H=>m=μ σ H/\Pv σ H,#[_,rfl,h0],?_];rintro m σ H ⟨rfl,p⟩;refine mono σ H _ _ (λ b H1 q=> ?_) (hs σ H p)
 cases b with
 | true=>show#[_,λ σ' H' ⟨W,l⟩=>#[_,l,rfl,W],q]
 | false=>show q
abbrev R2:=V->V->Hp->VK->Prop
variable {r r':R2}
def gA (X:Cx) (f:Value->Value->Sem Value) (r:R2):Prop:=
 ∀ (pins:List (Addr×Obj)) (s:Shared) (σ:St) (H:Hp) (x y:V) (v u:Value) (Q:VK),Inv X pins σ H s->RelV x v->RelV y u->r x y H Q->
  wpAny (model X.prog X.w) X.A (f v u) (EP X pins σ Q) X.xe s
def Vb (X:Cx) (f:Value->Sem Value) (r:V->Hp->VK->Prop):Prop:=
 ∀ (pins:List (Addr×Obj)) (s:Shared) (σ:St) (H:Hp) (x:V) (v:Value) (Q:VK),Inv X pins σ H s->RelV x v->r x H Q->
  wpAny (model X.prog X.w) X.A (f v) (EP X pins σ Q) X.xe s
def bG (X:Cx) (f:Value) (r:List V->Hp->VK->Prop):Prop:=
 ∀ (pins:List (Addr×Obj)) (s:Shared) (σ:St) (H:Hp) (xs:List V) (us:List Value) (Q:VK),Inv X pins σ H s->Vals xs us->r xs H Q->
  wpAny (model X.prog X.w) X.A (call f us) (EP X pins σ Q) X.xe s
def Vc (X:Cx) (r:V->Hp->(Bool->Hp->Prop)->Prop):Prop:=
 ∀ (pins:List (Addr×Obj)) (s:Shared) (σ:St) (H:Hp) (x:V) (v:Value) (Q:Bool->Hp->Prop),Inv X pins σ H s->RelV x v->r x H Q->
  wpAny (model X.prog X.w) X.A (truthy v) (TP X pins σ Q) X.xe s
def aK (r:R2) (ta tb:TE):TE:=λ σ H Q=>ta σ H λ x H1=>tb σ H1 λ y H2=>r x y H2 Q
def Qv (r:V->Hp->VK->Prop) (ta:TE):TE:=λ σ H Q=>ta σ H λ x H1=>r x H1 Q
def rI (C:Int->Int->Prop) (g:Int->Int->V):R2:=λ x y H Q=> ∃i j,x= .int i/\y= .int j/\C i j/\Q (g i j) H
def pH (g:Int->Int->V):R2:=λ x y H Q=> ∃i j,x= .int i/\y= .int j/\Q (g i j) H
def rU (g:Int->V):V->Hp->VK->Prop:=λ x H Q=> ∃i,x= .int i/\Q (g i) H
section
variable {X:Cx} {a b c:Expr} {ta tb tc:TE} {pos:Pos}
theorem Ku (ha:PE X a ta) (hb:PE X b tb) {s:Shared} (I:Inv X pins σ H s)
  (h:ta σ H λ x H1=>tb σ H1 λ y H2=>R x y H2)
  (hf: ∀v u O x y H2,Inv X pins σ H2 O->RelV x v->RelV y u->R x y H2->wpAny (model X.prog X.w) X.A (f v u) Q X.xe O):
  wpAny (model X.prog X.w) X.A (eval a X.env) (λ v s₁=>wpAny (model X.prog X.w) X.A (eval b X.env) (λ u s₂=>wpAny (model X.prog X.w) X.A (f v u) Q X.xe s₂) X.xe s₁) X.xe s:=by
 refine aW (ha pins s σ H _ I h) λ v s1 ⟨x,H1,I1,W,Y⟩=> ?_
 refine aW (hb pins s1 σ H1 _ I1 Y) λ u O ⟨y,H2,I2,r2,q2⟩=> ?_
 show hf v u O x y H2 I2 W r2 q2
theorem aC {op:Operator} (ho:gA X (binaryOp op) r) (ha:PE X a ta) (hb:PE X b tb):PE X (.BinOp a op b pos) (aK r ta tb):=by
 intro O s W H Q I h;show wpAny_BinOp (Ku ha hb I h λ v u s2 x y H2 Y rx ry q=>ho O s2 W H2 x y v u Q Y rx ry q)
theorem wZ {op:UnaryOp} {r:V->Hp->VK->Prop} (ho:Vb X (unaryOp op) r) (ha:PE X a ta):PE X (.UnaryOp op a pos) (Qv r ta):=by
 intro O s W H Q I h;show UnaryOp_ (aW (ha O s W H _ I h) λ v s1 ⟨x,H1,I1,Y,q1⟩=>ho O s1 W H1 x v Q I1 Y q1)
theorem QK
  (rule: ∀ (i j:Int) (t u:Tok) (s:Shared) (Q:Value->Shared->Prop) (E:Value->Shared->Prop),C i j->Q (.int (g i j) s.toks) { s with toks:=s.toks+1 }->wpAny (model X.prog X.w) X.A (f (.int i t) (.int j u)) Q E s):
  gA X f (rI C λ i j=> .int (g i j)):=by
 intro O s σ H x y v u Q I rx W h;let#[i,j,rfl,rfl,Y,q]:=h;let#[t,rfl]:=rx;let#[t',rfl]:=W;show rule i j t t' s _ _ Y #[.int (g i j),H,I.tok _,#[_,rfl],q]
theorem GQ
  (rule: ∀ (i j:Int) (t u:Tok) (s:Shared) (Q:Value->Shared->Prop) (E:Value->Shared->Prop),Q (.int (g i j) s.toks) { s with toks:=s.toks+1 }->wpAny (model X.prog X.w) X.A (f (.int i t) (.int j u)) Q E s):
  gA X f (pH λ i j=> .int (g i j)):=by
 intro O s σ H x y v u Q I Y W h;let#[i,j,rfl,rfl,q]:=h;let#[t,rfl]:=Y;let#[t',rfl]:=W;show rule i j t t' s _ _ #[.int (g i j),H,I.tok _,#[_,rfl],q]
theorem GX {g:Int->Int->Bool}
  (rule: ∀ (i j:Int) (t u:Tok) (s:Shared) (Q:Value->Shared->Prop) (E:Value->Shared->Prop),Q (.bool (g i j)) s->wpAny (model X.prog X.w) X.A (f (.int i t) (.int j u)) Q E s):
  gA X f (pH λ i j=> .bl (g i j)):=by
 intro O s σ H x y v u Q I Y W h;let#[i,j,rfl,rfl,q]:=h;let#[t,rfl]:=Y;let#[t',rfl]:=W;show rule i j t t' s _ _ #[.bl (g i j),H,I,rfl,q]
def QL (i j:Int):Prop:=0<j/\j<1073741824
def GZ (i j:Int):Prop:=0<=j/\j<=1000000/\i.natAbs<2^64
def CMul (i j:Int):Prop:=(-(2^64)<i/\i<2^64)\/(-(2^64)<j/\j<2^64)
theorem CMul.ok {i j:Int} (h:CMul i j):IntMulOk i j:=by
 rcases h with ⟨h1,h2⟩ | ⟨h1,h2⟩
 .exact .of_left (intBits_le_64 h1 h2)
 .exact .of_right (intBits_le_64 h1 h2)
theorem aY:gA X (binaryOp .Add) (pH λ i j=> .int (i+j)):=GQ λ _ _ _ _ _ _ _ q=>add_int q
theorem iU:gA X (binaryOp .Sub) (pH λ i j=> .int (i-j)):=GQ λ _ _ _ _ _ _ _ q=>sub_int q
theorem eN:gA X (binaryOp .Mult) (rI CMul λ i j=> .int (i*j)):=QK λ _ _ _ _ _ _ _ O q=>mul_int q O.ok
theorem fL:gA X (binaryOp .FloorDiv) (rI QL λ i j=> .int (i / j)):=QK λ i j _ _ _ _ _ O q=>by
 have W:(0:Int)<j:=O.1;have Y:j<1073741824:=O.2;show floordiv_int () (by rw [Int.fdiv_eq_ediv_of_nonneg i ()];show q) (.inl (PyProof.noPylong_small ()))
theorem bj:gA X (binaryOp .Mod) (rI (λ _ j=>0<j) λ i j=> .int (i%j)):=QK λ i j _ _ _ _ _ O q=>by
 have W:(0:Int)<j:=O;show mod_int' () (by rw [Int.fmod_eq_emod_of_nonneg i ()];show q)
theorem zR:gA X (binaryOp .Pow) (rI GZ λ i j=> .int (i^j.toNat)):=QK λ _ _ _ _ _ _ _ O q=>pow_int_small O.1 O.2.1 O.2.2 q
theorem Kv:gA X (binaryOp .LShift) (rI GZ λ i j=> .int (i*2^j.toNat)):=QK λ _ _ _ _ _ _ _ O q=>lshift_int_small O.1 O.2.1 O.2.2 q
theorem Kw:gA X (binaryOp .BitAnd) (pH λ i j=> .int (Builtin.bitAnd i j)):=GQ λ _ _ _ _ _ _ _ q=>and_int q
theorem Ky:gA X (binaryOp .BitXor) (pH λ i j=> .int (Builtin.bitXor i j)):=GQ λ _ _ _ _ _ _ _ q=>xor_int q
theorem WR {f:Value->Sem Value} {g:Int->Int}
  (rule: ∀ (i:Int) (t:Tok) (s:Shared) (Q:Value->Shared->Prop) (E:Value->Shared->Prop),Q (.int (g i) s.toks) { s with toks:=s.toks+1 }->wpAny (model X.prog X.w) X.A (f (.int i t)) Q E s):
  Vb X f (rU λ i=> .int (g i)):=by
 intro O s Y H x v Q I W h;let#[i,rfl,q]:=h;let#[t,rfl]:=W;show rule i t s _ _ #[.int (g i),H,I.tok _,#[_,rfl],q]
theorem pI:Vb X (unaryOp .USub) (rU λ i=> .int (-i)):=WR λ _ _ _ _ _ q=>neg_int q
end
def KD:V->V->Bool
 | .non, .non=>true | .non, .int _=>true | .int _, .non=>true | .non, .bl _=>true | .bl _, .non=>true | .non, .str _=>true | .str _, .non=>true
 | .int _, .int _=>true | .bl _, .bl _=>true | .str _, .str _=>true | .byt _, .byt _=>true
 | .int _, .str _=>true | .str _, .int _=>true | .bl _, .str _=>true | .str _, .bl _=>true
 | _,_=>false
def zT:R2:=λ x y H Q=>KD x y=true/\Q (.bl (decide (x=y))) H
def KH:R2:=λ x y H Q=>KD x y=true/\Q (.bl (!decide (x=y))) H
theorem xf {i j:Int}:decide (V.int i=V.int j)=(i==j):=by
 rw [Bool.eq_iff_iff];simp
theorem zU {i j:Bool}:decide (V.bl i=V.bl j)=(i==j):=by
 rw [Bool.eq_iff_iff];simp
theorem xg {i j:Str}:decide (V.str i=V.str j)=(i==j):=by
 rw [Bool.eq_iff_iff];simp
theorem xj {i j:Array UInt8}:decide (V.byt i=V.byt j)=(i.toList==j.toList):=by
 rw [Bool.eq_iff_iff]
 cases i
 cases j;simp
section
variable {X:Cx} {a b c:Expr} {ta tb tc:TE} {pos:Pos}
theorem aU {s:Shared} {Q:VK} {k k':Bool} (I:Inv X pins σ H s) (q:Q (.bl k) H) (e:k=k'):EP X pins σ Q (.bool k') s:=by
 subst e;show#[.bl k,H,I,rfl,q]
theorem j6:gA X (compareOp .Eq) zT:=by
 intro ab s σ H x y v u Q I rx O h;let#[Y,q]:=h
 cases x with
 | non=>
  cases rx
  cases y with
  | non=>cases O;show PySem.EqNone.eq_none_none (aU I q (by simp))
  | bl j=>cases O;show PySem.EqNone.eq_none_bool (aU I q (by simp))
  | int j=>let#[t',rfl]:=O;show PySem.EqNone.eq_none_int (aU I q (by simp))
  | str j=>let#[t',rfl]:=O;show PySem.EqNone.eq_none_str (aU I q (by simp))
  | _=>show absurd (show false=true from Y) Zu
 | bl i=>
  cases rx
  cases y with
  | non=>cases O;show PySem.EqNone.eq_bool_none (aU I q (by simp))
  | bl j=>cases O;show eq_bool (aU I q zU)
  | str j=>let#[t',rfl]:=O;show PySem.EqMixed.eq_bool_str (aU I q (by simp))
  | _=>show absurd (show false=true from Y) Zu
 | int i=>
  let#[t,rfl]:=rx
  cases y with
  | non=>cases O;show PySem.EqNone.eq_int_none (aU I q (by simp))
  | int j=>let#[t',rfl]:=O;show eq_int (aU I q xf)
  | str j=>let#[t',rfl]:=O;show PySem.EqMixed.eq_int_str (aU I q (by simp))
  | _=>show absurd (show false=true from Y) Zu
 | str i=>
  let#[t,rfl]:=rx
  cases y with
  | non=>cases O;show PySem.EqNone.eq_str_none (aU I q (by simp))
  | bl j=>cases O;show PySem.EqMixed.eq_str_bool (aU I q (by simp))
  | int j=>let#[t',rfl]:=O;show PySem.EqMixed.eq_str_int (aU I q (by simp))
  | str j=>let#[t',rfl]:=O;show eq_str (aU I q xg)
  | _=>show absurd (show false=true from Y) Zu
 | byt i=>
  let#[t,rfl]:=rx
  cases y with
  | byt j=>let#[t',rfl]:=O;show PySem.W.eq_bytes (aU I q xj)
  | _=>show absurd (show false=true from Y) Zu
 | _=>cases y<;>show absurd (show false=true from Y) Zu
theorem xm:gA X (compareOp .NotEq) KH:=by
 intro ab s σ H x y v u Q I rx O h;let#[Y,q]:=h
 cases x with
 | non=>
  cases rx
  cases y with
  | non=>cases O;show PySem.EqNone.ne_none_none (aU I q (by simp))
  | bl j=>cases O;show PySem.EqNone.ne_none_bool (aU I q (by simp))
  | int j=>let#[t',rfl]:=O;show PySem.EqNone.ne_none_int (aU I q (by simp))
  | str j=>let#[t',rfl]:=O;show PySem.EqNone.ne_none_str (aU I q (by simp))
  | _=>show absurd (show false=true from Y) Zu
 | bl i=>
  cases rx
  cases y with
  | non=>cases O;show PySem.EqNone.ne_bool_none (aU I q (by simp))
  | bl j=>cases O;show ne_bool (aU I q (Yc not zU))
  | str j=>let#[t',rfl]:=O;show PySem.EqMixed.ne_bool_str (aU I q (by simp))
  | _=>show absurd (show false=true from Y) Zu
 | int i=>
  let#[t,rfl]:=rx
  cases y with
  | non=>cases O;show PySem.EqNone.ne_int_none (aU I q (by simp))
  | int j=>let#[t',rfl]:=O;show ne_int (aU I q (Yc not xf))
  | str j=>let#[t',rfl]:=O;show PySem.EqMixed.ne_int_str (aU I q (by simp))
  | _=>show absurd (show false=true from Y) Zu
 | str i=>
  let#[t,rfl]:=rx
  cases y with
  | non=>cases O;show PySem.EqNone.ne_str_none (aU I q (by simp))
  | bl j=>cases O;show PySem.EqMixed.ne_str_bool (aU I q (by simp))
  | int j=>let#[t',rfl]:=O;show PySem.EqMixed.ne_str_int (aU I q (by simp))
  | str j=>let#[t',rfl]:=O;show ne_str (aU I q (Yc not xg))
  | _=>show absurd (show false=true from Y) Zu
 | byt i=>
  let#[t,rfl]:=rx
  cases y with
  | byt j=>let#[t',rfl]:=O;show PySem.W.ne_bytes (aU I q (Yc not xj))
  | _=>show absurd (show false=true from Y) Zu
 | _=>cases y<;>show absurd (show false=true from Y) Zu
theorem rH:gA X (compareOp .Lt) (pH λ i j=> .bl (decide (i<j))):=GX λ _ _ _ _ _ _ _ q=>lt_int q
theorem jO:gA X (compareOp .LtE) (pH λ i j=> .bl (decide (i<=j))):=GX λ _ _ _ _ _ _ _ q=>le_int q
theorem lG:gA X (compareOp .Gt) (pH λ i j=> .bl (decide (j<i))):=GX λ _ _ _ _ _ _ _ q=>gt_int q
theorem zV:gA X (compareOp .GtE) (pH λ i j=> .bl (decide (j<=i))):=GX λ _ _ _ _ _ _ _ q=>ge_int q
theorem ju:gA X (compareOp .Is) (λ x y H Q=>y= .non/\Q (.bl (decide (x= .non))) H):=by
 intro O s σ H x y v u Q I W Y h;let#[rfl,q]:=h
 cases Y;refine is_none_gen (aU I q ?_)
 cases x<;>first
  | (cases W;rfl)
  | (let#[t,rfl]:=W;rfl)
theorem Ha:gA X (compareOp .IsNot) (λ x y H Q=>y= .non/\Q (.bl (!decide (x= .non))) H):=by
 intro O s σ H x y v u Q I W Y h;let#[rfl,q]:=h
 cases Y;refine isnot_none_gen (aU I q ?_)
 cases x<;>first
  | (cases W;rfl)
  | (let#[t,rfl]:=W;rfl)
theorem aN (b:Expr) (h:op≠ .In:=by decide) (h2:op≠ .NotIn:=by decide):behindInMarks op b=false:=by
 have O:(op==CmpOp.In)=false:=by cases op<;>first | rfl | show absurd rfl h
 have W:(op==CmpOp.NotIn)=false:=by cases op<;>first | rfl | show absurd rfl h2
 cases b<;>simp [behindInMarks,O,W]
theorem d9 (ho:gA X (compareOp op) r) (ha:PE X a ta) (hb:PE X b tb) (hm:behindInMarks op b=false):PE X (.Compare a [op] [b] pos) (aK r ta tb):=by
 intro O s W H Q I h;show wpAny_Compare1 (Ku ha hb I h λ v u s2 x y H2 Y rx ry q=>ho O s2 W H2 x y v u Q Y rx ry q) hm
def aZ (t:TE):TT:=λ σ H Q=>t σ H λ x H'=> ∃k,x= .bl k/\Q k H'
theorem aO (ho:gA X (compareOp op) r) (ha:PE X a ta) (hb:PE X b tb) (hm:behindInMarks op b=false):PT X (.Compare a [op] [b] pos) (aZ (aK r ta tb)):=by
 intro O s W H Q I h;refine wpAny_isTrue_Compare1 (aW (ha O s W H _ I h) λ v s1 ⟨x,H1,I1,r1,q1⟩=>aW (hb O s1 W H1 _ I1 q1) λ u s2 ⟨y,H2,I2,r2,q2⟩=>
  aW (ho O s2 W H2 x y v u _ I2 r1 r2 q2) λ c s3 ⟨z,H3,Y,r3,k,e,q3⟩=> ?_) hm
 subst e
 cases r3;show wpAny_truthy_bool #[H3,Y,q3]
def fM (r r':R2) (ta tb tc:TE):TE:=λ σ H Q=>ta σ H λ x H1=>tb σ H1 λ y H2=>r x y H2 λ z H3=> ∃k,z= .bl k/\
 (if k=true then tc σ H3 λ w' H4=>r' y w' H4 Q else Q (.bl false) H3)
theorem zW (ho:gA X (compareOp op) r) (ho':gA X (compareOp op') r') (ha:PE X a ta) (hb:PE X b tb) (hc:PE X c tc)
  (hm:lastMarks [op,op'] [b,c]=false:=by with_unfolding_all rfl):PE X (.Compare a [op,op'] [b,c] pos) (fM r r' ta tb tc):=by
 intro O s W H Q I h;refine Compare_chain (aW (ha O s W H _ I h) λ v s1 ⟨x,H1,I1,r1,q1⟩=>chain_link (aW (hb O s1 W H1 _ I1 q1) λ u s2 ⟨y,H2,I2,r2,q2⟩=>
  aW (ho O s2 W H2 x y v u _ I2 r1 r2 q2) λ d s3 ⟨z,H3,Y,r3,k,e,q3⟩=> ?_)) hm
 subst e
 cases r3;refine wpAny_truthy_bool ?_
 cases k with
 | false=>show ite_ff #[.bl false,H3,Y,rfl,q3]
 | true=>show ite_tt (chain_last (aW (hc O s3 W H3 _ Y q3) λ w' s4 ⟨z',H4,I4,r4,q4⟩=>ho' O s4 W H4 y z' u w' Q I4 r2 r4 q4))
theorem j7 (ho:gA X (compareOp op) r) (ho':gA X (compareOp op') r') (ha:PE X a ta) (hb:PE X b tb) (hc:PE X c tc)
  (hm:lastMarks [op,op'] [b,c]=false:=by with_unfolding_all rfl):PT X (.Compare a [op,op'] [b,c] pos) (aZ (fM r r' ta tb tc)):=by
 intro O s W H Q I h;refine isTrue_chain (aW (ha O s W H _ I h) λ v s1 ⟨x,H1,I1,r1,q1⟩=>test_link (aW (hb O s1 W H1 _ I1 q1) λ u s2 ⟨y,H2,I2,r2,q2⟩=>
  aW (ho O s2 W H2 x y v u _ I2 r1 r2 q2) λ d s3 ⟨z,H3,Y,r3,k,e,q3⟩=> ?_)) hm
 subst e
 cases r3;refine wpAny_truthy_bool ?_
 cases k with
 | false=>
  let#[k',e',q']:=q3
  cases e';show ite_ff #[H3,Y,q']
 | true=>
  refine ite_tt (test_last (aW (hc O s3 W H3 _ Y q3) λ w' s4 ⟨z',H4,I4,r4,q4⟩=>aW (ho' O s4 W H4 y z' u w' _ I4 r2 r4 q4) λ d' s5 ⟨z2,H5,I5,r5,k2,e2,q5⟩=> ?_));subst e2
  cases r5;show wpAny_truthy_bool #[H5,I5,q5]
def zX (K:W.Frag) (x:V) (H:Hp) (k:Bool):Prop:=
 match x with
 | .non=>k=false
 | .bl b=>k=b
 | .int i=>k=(i !=0)
 | .str y=>y.length<=sizeLine/\k=((y.length:Int)!=0)
 | .byt y=>y.size<=sizeLine/\k=((y.size:Int)!=0)
 | .ref p=>(∃xs,SqL K H p xs/\k= !xs.isEmpty)\/(∃xs,SqT K H p xs/\k= !xs.isEmpty)\/ ∃kvs,H p=some (.dK kvs)/\k= !kvs.isEmpty
 | _=>False
theorem ur {κ:Type} {kvs:List (κ×V)} {vs:List (κ×Value)} (r:KV kvs vs):(!vs.isEmpty)= !kvs.isEmpty:=by
 cases r<;>rfl
theorem lH {xs:List V} (r:Vals xs its):(!its.toArray.isEmpty)= !xs.isEmpty:=by
 cases r<;>simp
theorem jw:(sizeLine:Nat)<2^63:=by rw [sizeLine_eq];decide
theorem KJ:Vc X (λ x H Q=> ∃k,zX X.K x H k/\Q k H):=by
 intro ac s σ H x v Q I rx h;let#[k,e,q]:=h;have hl:=jw;have hs:sizeLine=16777216:=sizeLine_eq
 cases x with
 | non=>
  cases rx;have O:k=false:=e;subst O;show truthy_none #[H,I,q]
 | bl b=>
  cases rx;have O:k=b:=e;subst O;show wpAny_truthy_bool #[H,I,q]
 | int i=>
  let#[t,rfl]:=rx;have O:k=(i !=0):=e;subst O;show PySem.P.truthy_int #[H,I,q]
 | str y=>
  let#[t,rfl]:=rx;let#[hy,O]:y.length<=sizeLine/\k=((y.length:Int)!=0):=e;subst O;show PySem.P.truthy_str () #[H,I.tok _,q]
 | byt y=>
  let#[t,rfl]:=rx;let#[hy,O]:y.size<=sizeLine/\k=((y.size:Int)!=0):=e;subst O;show PySem.W.truthy_bytes () #[H,I.tok _,q]
 | ref p=>
  cases rx;have O:(∃xs,SqL X.K H p xs/\k= !xs.isEmpty)\/(∃xs,SqT X.K H p xs/\k= !xs.isEmpty)\/ ∃kvs,H p=some (.dK kvs)/\k= !kvs.isEmpty:=e;rcases O with ⟨xs,hx,O⟩ | ⟨xs,hx,O⟩ | ⟨kvs,hx,O⟩
  .subst O;let#[ab,r,pl,hz]:=I.list hx;have Y:=r.length;show wpAny_truthy_list pl.isList (by simp only [Zy];rfl') #[H,I.tok _,by rw [lH r];show q]
  .subst O;let#[ab,r,pl,hz]:=I.tuple hx;have Y:=r.length;show truthy_tuple pl (by simp only [Zy];rfl') #[H,I.tok _,by rw [lH r];show q]
  .subst O;let#[hz,hS,vs,r,m]:kvs.length<=sizeLine/\(p==sysModules)=false/\ ∃vs,KV kvs vs/\s.heap.DictOf (aX X.prog X.w) p vs:=I.hok p _ hx;have Y:kvs.length=vs.length:=Paired.length r;show wpAny_truthy_dict hS m () #[H,I.tok _,by rw [ur r];show q]
 | _=>show(show False from e).elim
theorem zY (ha:PE X a ta) (he: ∀O,isTrue a X.env O=(do let v <- O;standAt a.pos;holding [v] (truthy v))):
  PT X a (λ σ H Q=>ta σ H λ x H'=> ∃k,zX X.K x H' k/\Q k H'):=by
 intro W s σ H Q I h;show isTrue_plain (aW (ha W s σ H _ I h) λ v s1 ⟨x,H1,I1,Y,q1⟩=>KJ W s1 σ H1 x v Q I1 Y q1) (he _)
theorem bV:gA X (binaryOp .Add) (λ x y H Q=> ∃i j,x= .str i/\y= .str j/\i.length+j.length<=sizeLine/\Q (.str (i++j)) H):=by
 intro O s σ H x y v u Q I Y W h;let#[i,j,rfl,rfl,hz,q]:=h;let#[t,rfl]:=Y;let#[t',rfl]:=W;show add_str (λ t' tk=>#[.str (i++j),H,I.tok _,#[_,rfl],q]) hz
theorem vals1 {x:V} (r:Vals [x] us): ∃u,us=[u]/\RelV x u:=by
 cases r with
 | cons r1 r2=>cases r2;show#[_,rfl,r1]
theorem vals2 {x:V} (r:Vals [x,y] us): ∃u O,us=[u,O]/\RelV x u/\RelV y O:=by
 cases r with
 | cons r1 r2=>
  cases r2 with
  | cons r3 r4=>cases r4;show#[_,_,rfl,r1,r3]
theorem yD (hc:X.calm=true):bG X (.builtin "min") (λ xs H Q=> ∃i j,xs=[.int i, .int j]/\Q (.int (if j<i then j else i)) H):=by
 intro W s σ H xs us Q I r h;let#[i,j,rfl,q]:=h;let#[u,w',rfl,#[t,rfl],#[t',rfl]]:=vals2 r;refine min_two_ints (I.ok.hd hc) λ h' Y k=>#[_,H,I.kept k,?_,q]
 by_cases O:j<i
 .rw [if_pos O,if_pos O];show#[_,rfl]
 .rw [if_neg O,if_neg O];show#[_,rfl]
theorem zZ:bG X (.builtin "ord") (λ xs H Q=> ∃x,xs=[.str x]/\x.length=1/\Q (.int (x.cps.getD 0 0:Nat)) H):=by
 intro O s W H xs us Q I r h;let#[x,rfl,hz,q]:=h;let#[u,rfl,t,rfl]:=vals1 r;show ord_of_one hz #[.int _,H,I.tok _,#[_,rfl],q]
def QM (K:W.Frag) (x:V) (H:Hp) (n:Nat):Prop:=
 match x with
 | .str y=>y.length<=sizeLine/\n=y.length
 | .byt y=>y.size<=sizeLine/\n=y.size
 | .ref p=>(∃xs,SqL K H p xs/\n=xs.length)\/ ∃xs,SqT K H p xs/\n=xs.length
 | _=>False
theorem Aa:bG X (.builtin "len") (λ xs H Q=> ∃x n,xs=[x]/\QM X.K x H n/\Q (.int n) H):=by
 intro ac s σ H xs us Q I r h;let#[x,n,rfl,e,q]:=h;let#[u,rfl,rx]:=vals1 r;have hl:=jw;have hs:sizeLine=16777216:=sizeLine_eq
 cases x with
 | str y=>
  let#[t,rfl]:=rx;let#[hy,Y]:y.length<=sizeLine/\n=y.length:=e;subst Y;show len_str () #[.int _,H,I.tok _,#[_,rfl],q]
 | byt y=>
  let#[t,rfl]:=rx;let#[hy,Y]:y.size<=sizeLine/\n=y.size:=e;subst Y;show PySem.W.len_bytes () #[.int _,H,I.tok _,#[_,rfl],q]
 | ref p=>
  cases rx;have Y:(∃xs,SqL X.K H p xs/\n=xs.length)\/ ∃xs,SqT X.K H p xs/\n=xs.length:=e;rcases Y with ⟨xs,hx,Y⟩ | ⟨xs,hx,Y⟩
  .subst Y;let#[ab,r',pl,hz]:=I.list hx;have O:=r'.length;show Calls.call_len_list pl.isList (by simp only [Zy];rfl') #[.int xs.length,H,I.tok _,#[_,by simp only [Zy];rw [O]],q]
  .subst Y;let#[ab,r',pl,hz]:=I.tuple hx;have O:=r'.length;show len_tuple pl (by simp only [Zy];rfl') #[.int xs.length,H,I.tok _,#[_,by simp only [Zy];rw [O]],q]
 | _=>show(show False from e).elim
end
structure ObjM (h:Heap) (x dx C:Addr) (mA:Str->Option Value):Prop where
 obj:h.get? x=some (PySem.W.instObj C dx)
 ns:h.Ns1 dx mA
 ne:dx≠x
theorem yE {h:Heap} (n:h.Ns1 dx mA): ∃od,h.get? dx=some od/\ ∀name,PySem.W.lookIn name od=some (mA name):=by
 let#[o,es,ep,ho,hd,hk,_,hm]:=n;refine#[o,ho,λ name=> ?_];have e:=hm name;unfold nsFind findBy at e;rw [<- Array.find?_toList] at e;unfold PySem.W.lookIn;rw [hd];dsimp only;split
 .rename_i y q;rw [q] at e;show Yc some e
 .rename_i q;rw [q] at e;have a:es.toList.any (·.refKey)=false:=by
   rw [List.any_eq_false];intro y hy;let#[z,t,O]:=hk y (Array.mem_toList_iff.mp hy);simp [DictEntry.refKey,O]
  have Y: ¬es.toList.any (·.refKey)=true:=by rw [a];show Zu
  rw [if_neg Y];show Yc some e
theorem ObjM.look {h:Heap} {x C:Addr} (I:ObjM h x dx C mA): ∃od,PySem.W.InstAt h x (PySem.W.instObj C dx) C (some od)/\ ∀name,PySem.W.lookIn name od=some (mA name):=
 let ⟨od,ho,hl⟩:=yE I.ns
 #[od,#[I.obj,rfl,rfl,ho],hl]
theorem RelO.some_of {o:Option Value} (r:RelO (some v) o): ∃u,o=some u/\RelV v u:=by
 cases o with
 | none=>show(show False from r).elim
 | some u=>show#[u,rfl,r]
section
variable {P:Program} {w:World} {H H':Hp} {h h':Heap} {a C dx:Addr} {fs fs':List (Str×V)}
theorem Hb (hok:HOk P w H h) (e:H a=some (.ins C dx fs)): ∃mA,ObjM h a dx C mA/\(∀f,RelO (fs.lookup f) (mA f))/\PySem.Within mA (fs.map (·.1))/\fs.length<=1000/\H dx=some (.own a):=by
 let#[d,z,W,O,mA,n,r,q]:=(show ObjOk P w H h a (.ins C dx fs) from hok a _ e);show#[mA,#[O,n,W],r,q,z,d]
end
structure Cls (K:W.Frag) (C:Addr):Prop where
 pg:PySem.W.plainGet K C Str.empty=true
 hd:PySem.W.hasDictIn K C=true
 po:PySem.W.plainOver K C=true
 sa:PySem.W.findIn K (.ref C) "__setattr__"=some (some (.builtin "object.__setattr__"))
theorem Cls.get {K:W.Frag} {C:Addr} (c:Cls K C) (f:Str):PySem.W.plainGet K C f=true:=c.pg
def KN (K:W.Frag) (C:Addr) (f:Str):Prop:=PySem.W.findIn K (.ref C) f=some none
structure Con (K:W.Frag) (C:Addr) (f:Str) (v:V) (u:Value):Prop where
 at_:PySem.W.findIn K (.ref C) f=some (some u)
 rel:RelV v u
 get:PySem.W.specialIn K u "__get__"=some none
 cp:PySem.W.copiedNames.contains f=false
structure Meth (K:W.Frag) (C:Addr) (m:Str) (f:Addr):Prop where
 at_:PySem.W.findIn K (.ref C) m=some (some (.ref f))
 fn:PySem.W.isFn K (.ref f)=true
 kp:W.keepIn K (.ref f)=true
def WT (K:W.Frag) (ta:TE) (f:Str):TE:=λ σ H Q=>ta σ H λ x H1=> ∃a C dx fs v,x= .ref a/\H1 a=some (.ins C dx fs)/\Cls K C/\KN K C f/\fs.lookup f=some v/\Q v H1
section
variable {X:Cx} {pins:List (Addr×Obj)} {σ:St} {H:Hp} {s:Shared} {A:Around} {E:Value->Shared->Prop} {Q:Value->Shared->Prop} {c:Value} {b:Bool}
inductive TyOf (K:W.Frag) (H:Hp):V->Value->Prop where
 | non:TyOf K H .non (.type "NoneType")
 | bl (x:Bool):TyOf K H (.bl x) (.type "bool")
 | int (i:Int):TyOf K H (.int i) (.type "int")
 | str (x:Str):TyOf K H (.str x) (.type "str")
 | flt (x:UInt64):TyOf K H (.flt x) (.type "float")
 | lst {a:Addr} {xs:List V} (e:H a=some (.lst xs)):TyOf K H (.ref a) (.type "list")
 | frz {a:Addr} {o:Obj} {xs:List V} (e:H a=some (.frz o (.lst xs))):TyOf K H (.ref a) (.type "list")
 | tup {a:Addr} {xs:List V} (e:H a=some (.tup xs)):TyOf K H (.ref a) (.type "tuple")
 | dK {a:Addr} {kvs:List (Key×V)} (e:H a=some (.dK kvs)):TyOf K H (.ref a) (.type "dict")
 | dT {a:Addr} {kvs:List (List Key×V)} (e:H a=some (.dT kvs)):TyOf K H (.ref a) (.type "dict")
 | ins {a C dx:Addr} {fs:List (Str×V)} (e:H a=some (.ins C dx fs)) (cl:Cls K C) (ha:PySem.W.findIn K (.ref C) "__class__"=some (some (.builtin "object.__class__")))
   (hn:PySem.W.specialIn K (.builtin "object.__class__") "__get__"=some (some (.builtin "getset_descriptor.__get__"))) (htk:PySem.W.takesIn K (.builtin "object.__class__")=some true)
   (hm:PySem.W.mroIn K C (.type "object")=some true):TyOf K H (.ref a) (.ref C)
theorem yF {x:V} {t:Value} (I:Inv X pins σ H s) (rx:RelV x u) (ty:TyOf X.K H x t) (e:PySem.W.kitOne X.K t c=some b) (h: ∀tk,Q (.bool b) { s with toks:=tk }):
  wpAny (model X.prog X.w) A (call (.builtin "isinstance") [u,c]) Q E s:=by
 cases ty with
 | non=>cases (show u=Value.none from rx);show PySem.W.kia_one PySem.W.kitx_none I.kIn True.intro e (λ z=>nomatch z) h
 | bl y=>cases (show u=Value.bool y from rx);show PySem.W.kia_one PySem.W.kitx_bool I.kIn True.intro e (λ z=>nomatch z) h
 | int i=>let#[t,q]:=(show ∃t,u=Value.int i t from rx);cases q;show PySem.W.kia_one PySem.W.kitx_int I.kIn True.intro e (λ z=>nomatch z) h
 | str y=>let#[t,q]:=(show ∃t,u=Value.str y t from rx);cases q;show PySem.W.kia_one PySem.W.kitx_str I.kIn True.intro e (λ z=>nomatch z) h
 | flt y=>let#[t,q]:=(show ∃t,u=Value.float y t from rx);cases q;show PySem.W.kia_one PySem.W.kitx_float I.kIn True.intro e (λ z=>nomatch z) h
 | @lst a xs ea=>
  cases (show u=Value.ref a from rx);let#[_,_,n,_,Y]:=(show ObjOk X.prog X.w H s.heap a (.lst xs) from I.hok a _ ea);show PySem.W.kia_one PySem.W.kitx_list I.kIn #[_,Y,rfl] e (λ z=>nomatch z) h
 | @frz a ob xs ea=>
  cases (show u=Value.ref a from rx);let#[_,_,_,n,_,Y]:=(show ObjOk X.prog X.w H s.heap a (.frz ob (.lst xs)) from I.hok a _ ea);show PySem.W.kia_one PySem.W.kitx_list I.kIn #[_,Y,rfl] e (λ z=>nomatch z) h
 | @tup a xs ea=>
  cases (show u=Value.ref a from rx);let#[_,_,_,p]:=(show ObjOk X.prog X.w H s.heap a (.tup xs) from I.hok a _ ea);let#[o,Y,h2,_]:=p;show PySem.W.kia_one PySem.W.kitx_tuple I.kIn #[o,Y,h2] e (λ z=>nomatch z) h
 | @dK a kvs ea=>
  cases (show u=Value.ref a from rx);let#[_,_,vs,_,p]:=(show ObjOk X.prog X.w H s.heap a (.dK kvs) from I.hok a _ ea);let#[o,es,ep,Y,h2,_]:=p;show PySem.W.kia_one PySem.W.kitx_dict I.kIn #[o,Y,h2.1] e (λ z=>nomatch z) h
 | @dT a kvs ea=>
  cases (show u=Value.ref a from rx);let#[_,_,xs,_,o,es,ep,Y,h2,_]:=(show ObjOk X.prog X.w H s.heap a (.dT kvs) from I.hok a _ ea);show PySem.W.kia_one PySem.W.kitx_dict I.kIn #[o,Y,h2.1] e (λ z=>nomatch z) h
 | @ins a C dx fs ea cl ha hn htk hm=>
  cases (show u=Value.ref a from rx);let#[mA,O,_]:=Hb I.hok ea;let#[od,J,_]:=O.look;show PySem.W.kia_one (PySem.W.kitx_own (cl.get _) cl.hd ha hn htk hm) I.kIn J e (λ z=>nomatch z) h
end
structure Room (k:Nat) (A:Around):Prop where
 hd:A.handled=none
 dp:A.depth+3*k+5<recursionLimit
 un:A.units+16*k+200<cLine
theorem Room.mono (r:Room k A) (h:j<=k):Room j A:=#[r.hd,by have:=r.dp;rfl',by have:=r.un;rfl']
theorem Room.deeper (r:Room (k+1) A) (env:Env):Room k (A.deeper env):=
 #[r.hd,by have:=r.dp;change A.depth+1+3*k+5<_;rfl',by have:=r.un;change A.units+3+16*k+200<_;rfl']
theorem Room.depth (r:Room k A):A.depth<recursionLimit:=by have:=r.dp;rfl'
theorem Room.units (r:Room k A):A.units+64<cLine:=by have:=r.un;rfl'
def az:TA:=λ _ H Q=>Q [] H
def aa (ta:TE) (tr:TA):TA:=λ σ H Q=>ta σ H λ x H1=>tr σ H1 λ xs H2=>Q (x::xs) H2
section
variable {X:Cx} {e:Expr} {es:List Expr} {te:TE} {t:TA} {pos:Pos}
theorem eO:PA X [] az:=λ _ _ _ _ H Q I h=>Calls.spliced_nil #[[],H,I, .nil,h]
theorem xn (ha:PE X e te) (hr:PA X es t) (hs:starEach (e::es) X.env=(false,eval e X.env)::starEach es X.env:=by rfl):PA X (e::es) (aa te t):=by
 intro pos O s W H Q I h;rw [hs];change wpAny _ _ (spliced ((false,eval e X.env)::backTo pos (starEach es X.env))) _ _ s;refine Calls.spliced_cons (aW (ha O s W H _ I h) λ u s1 ⟨x,H1,I1,r1,q1⟩=> ?_);show aW (hr pos O s1 W H1 _ I1 q1) λ us s2 ⟨xs,H2,I2,r2,Y⟩=>#[x::xs,H2,I2, .cons r1 r2,Y]
def dW (t:TA):TE:=λ σ H Q=>t σ H λ xs H1=>xs.length<=sizeLine/\ ∀p,H1 p=none->Q (.ref p) (upd H1 p (.tup xs))
def ir (t:TA):TE:=λ σ H Q=>t σ H λ xs H1=>xs.length<=sizeLine/\ ∀p,H1 p=none->Q (.ref p) (upd H1 p (.lst xs))
theorem bM {x1} (h:PA X es t):PE X (.Tuple es x1 pos) (dW t):=by
 intro O s σ H Q I hq;refine wpAny_Tuple_spliced (aW (h pos O s σ H _ I hq) λ us W ⟨xs,H1,Y,r,z,q⟩=>#[by rw [<- r.length];show z,?_]);have hf:H1 W.heap.objs.size=none:=Y.hok.fresh (Zm _);refine#[.ref W.heap.objs.size,upd H1 W.heap.objs.size (.tup xs),Y.laid (t':=W.toks) (λ b u e=>Zd _ e) (Zm _) ?_,rfl,q _ hf];show#[z,us,r,#[_,Zo _ rfl,rfl,_,rfl]]
theorem cP (h:PA X es t):PE X (.List es pos) (ir t):=by
 intro O s σ H Q I hq;refine wpAny_List_spliced (aW (h pos O s σ H _ I hq) λ us W ⟨xs,H1,Y,r,z,q⟩=>#[by rw [<- r.length];show z,?_]);have hf:H1 W.heap.objs.size=none:=Y.hok.fresh (Zm _);refine#[.ref W.heap.objs.size,upd H1 W.heap.objs.size (.lst xs),Y.laid (t':=W.toks) (λ b u e=>Zd _ e) (Zm _) ?_,rfl,q _ hf];show#[z,us,0,r,Zo _ rfl]
end
abbrev Sp:=List V->Hp->VK->XK->Prop
abbrev zG:=List Env->Hp->Shared->XK->Value->Shared->Prop
variable {CX:zG}
structure Env0 (P:Program) (w:World) (K:W.Frag) (mg:Str->Option Value) (base:Heap) (A:Around) (outer:List Env) (s:Shared) (H:Hp):Prop where
 frames:A.frames=some outer
 mod:Mod K mg base
 bs: ∀b o,base.get? b=some o->s.heap.get? b=some o/\H b=none
 bsz:base.objs.size<=s.heap.objs.size
 funs:s.heap.FunFrames base outer
 frf: ∀b∈frs outer,H b=none
 hok:HOk P w H s.heap
 bare:AllBare s.gens
def CE (outer:List Env) (P:Program) (w:World) (H:Hp) (s:Shared) (Q:VK) (u:Value) (s':Shared):Prop:=
 ∃v H',s'.os=s.os/\AllBare s'.gens/\Un (frs outer) [] H H' s.heap s'.heap/\HOk P w H' s'.heap/\RelV v u/\Q v H'
def CR (CX:zG) (outer:List Env) (P:Program) (w:World) (H:Hp) (s:Shared) (Q:VK) (E:XK) (r:Result) (s':Shared):Prop:=
 match r with
 | .ok (.ret u)=>CE outer P w H s Q u s'
 | .ok _=>False
 | .error e=>CX outer H s E e s'
structure FnOk (P:Program) (w:World) (K:W.Frag) (mg:Str->Option Value) (base:Heap) (CX:zG) (k:Nat) (f:Addr) (fd:FuncData) (ps:List Str) (sp:Sp):Prop where
 len: ∀vs H Q E,sp vs H Q E->vs.length=ps.length
 run: ∀ (A:Around) (outer:List Env) (s:Shared) (H:Hp) (args:Args) (us:List Value) (vs:List V) (Q:VK) (E:XK),Room k A->Env0 P w K mg base A outer s H->BindsTo s fd args (ps.zip us)->Vals vs us->sp vs H Q E->
  codeAny (model P w) A (.call (.ref f) args) (CR CX outer P w H s Q E) s
section
variable {X:Cx} {pins:List (Addr×Obj)} {σ:St} {H:Hp} {s s':Shared}
theorem Inv.env0 (I:Inv X pins σ H s):Env0 X.prog X.w X.K X.mg X.base X.A X.stack s H:=
 #[I.ok.frames,I.ok.mod,I.bs,Yl I.ok.bsz I.sz,I.stack,I.stkFree,I.hok,I.bare]
theorem Inv.after {Q:VK} (I:Inv X pins σ H s) (h:CE X.stack X.prog X.w H s Q u s'):EP X pins σ Q u s':=by
 let#[v,H',os,O,un,Y,r,q]:=h;let#[hh,g,d,t,W]:=s';obtain rfl:W=s.os:=os;show#[v,H',I.call (h':=hh) (g':=g) (d':=d) (t':=t) (ch:=[]) un Y O (λ b z=>absurd z (by simp)),r,q]
end
def aH (sp:Sp) (dvs:List V) (E:XK) (t:TA):TE:=λ σ H Q=>t σ H λ vs H1=>sp (vs++dvs) H1 Q E
def Wc (C:Addr) (m:Str) (sp:Sp) (dvs:List V) (E:XK) (ta:TE) (t:TA):TE:=λ σ H Q=>ta σ H λ x H1=> ∃a dx fs,x= .ref a/\H1 a=some (.ins C dx fs)/\fs.lookup m=none/\
 t σ H1 λ vs H2=>sp (x::(vs++dvs)) H2 Q E
def Wd (C:Addr) (sp:Sp) (dvs:List V) (E:XK) (t:TA):TE:=λ σ H Q=>t σ H λ vs H1=> ∀x dx,H1 x=none->H1 dx=none->dx≠x->
 sp (.ref x::(vs++dvs)) (upd (upd H1 dx (.own x)) x (.ins C dx [])) (λ v H2=>v= .non/\Q (.ref x) H2) E
def Binds (K:W.Frag) (fd:FuncData) (ps:List Str) (ds:List Value):Prop:=
 ∀ (s:Shared) (us:List Value),K.In s.heap->(us++ds).length=ps.length->BindsTo s fd #[us,[]] (ps.zip (us++ds))
theorem Binds.all {K:W.Frag} {ps:List Str} (h: ∀us:List Value,us.length=ps.length->bindArgs fd #[us,[]]=pure (ps.zip us)):Binds K fd ps []:=λ s us _ O=>by
 rw [List.append_nil] at O ⊢;show .of_eq (h us O)
def eQ (CX:zG) (X:Cx) (E:XK):Prop:= ∀ (pins:List (Addr×Obj)) (σ:St) (H:Hp) (s:Shared) (e:Value) (s':Shared),Inv X pins σ H s->CX X.stack H s E e s'->X.xe e s'
section
variable {X:Cx} {CX:zG} {k:Nat} {f C:Addr} {fd:FuncData} {ps:List Str} {sp:Sp} {dvs:List V} {ds:List Value} {E:XK} {x m:Str} {p pos apos:Pos} {e o:Expr} {es:List Expr} {ta:TE} {t:TA}
theorem KQ {s:Shared} {Q:VK} {vs:List V} (F:FnOk X.prog X.w X.K X.mg X.base CX k f fd ps sp) (hr:Room k X.A) (hb:Binds X.K fd ps ds) (hd:Vals dvs ds) (hx:eQ CX X E)
  (I:Inv X pins σ H s) (r:Vals vs us) (h:sp (vs++dvs) H Q E):wpAny (model X.prog X.w) X.A (call (.ref f) us) (EP X pins σ Q) X.xe s:=by
 have W:Vals (vs++dvs) (us++ds):=r.append hd;have Y:(us++ds).length=ps.length:=by rw [<- W.length];show F.len _ _ _ _ h
 refine wpAny_call (codeAny_mono (F.run X.A X.stack s H #[us,[]] (us++ds) (vs++dvs) Q E hr I.env0 (hb s us I.kIn Y) W h) λ r s' O=> ?_)
 cases r with
 | error e=>show hx pins σ H s e s' I O
 | ok fl=>
  cases fl with
  | ret u=>show I.after O
  | next=>show False.elim O
  | brk=>show False.elim O
  | cont=>show False.elim O
theorem kE (F:FnOk X.prog X.w X.K X.mg X.base CX k f fd ps sp) (hr:Room k X.A) (hg:Gl X x) (hm:X.mg x=some (.ref f)) (hk:W.keepIn X.K (.ref f)=true) (hb:Binds X.K fd ps ds) (hd:Vals dvs ds) (hx:eQ CX X E)
  (ha:PA X (e::es) t) (hdb:(x==("__debug__":Str))=false:=by decide) (he:starEach (e::es) X.env=(false,eval e X.env)::starEach es X.env:=by rfl) (hpl:(backTo pos (starEach es X.env)).any (·.1)=false:=by rfl):
  PE X (.Call (.Name x p) (e::es) [] pos) (aH sp dvs E t):=by
 intro O s σ H Q I h;refine wpAny_Call_Name_kw (km I hg hm ?_ hdb);refine PySem.W.callWith_K (h₀:=X.base) I.ok.mod.kin hk (aW (ha pos O s σ H _ I h) λ us s1 ⟨vs,H1,Y,r,q⟩=>#[Y.kIn,?_]) he hpl;show KQ F hr hb hd hx Y r q
structure Mk (K:W.Frag) (C f:Addr):Prop where
 makes:PySem.W.makesIn K C=true
 init:PySem.W.findIn K (.ref C) "__init__"=some (some (.ref f))
 fn:PySem.W.isFn K (.ref f)=true
 kp:W.keepIn K (.ref C)=true
end
def PK (X:Cx) (kws:List Keyword) (t:TA):Prop:=
 ∀ (pos:Pos) (pins:List (Addr×Obj)) (s:Shared) (σ:St) (H:Hp) (Q:List V->Hp->Prop),Inv X pins σ H s->t σ H Q->wpAny (model X.prog X.w) X.A (evalAll ((backToKw pos (keywordEach kws X.env)).map (·.2))) (AP X pins σ Q) X.xe s
section
variable {X:Cx} {CX:zG} {k:Nat} {f C:Addr} {fd:FuncData} {ps ks:List Str} {sp:Sp} {E:XK} {x m:Str} {p pos apos kpos:Pos} {e o:Expr} {es:List Expr} {kws:List Keyword} {te ta:TE} {t tk:TA} {nm:Option Str}
theorem KR:PK X [] az:=λ _ _ _ _ H Q I h=>wpAny_evalAll_nil #[[],H,I, .nil,h]
theorem Hd (ha:PE X e te) (hr:PK X kws t):PK X (#[nm,e,kpos]::kws) (aa te t):=by
 intro pos O s W H Q I h;change wpAny _ _ (evalAll ((do let v <- eval e X.env;standAt pos;pure v)::(backToKw pos (keywordEach kws X.env)).map (·.2))) _ _ s;refine wpAny_evalAll_cons (Qb (aW (ha O s W H _ I h) λ u s1 ⟨x,H1,I1,r1,q1⟩=>Qb (wpAny_standAt (Zc ?_))));show aW (hr pos O s1 W H1 _ I1 q1) λ us s2 ⟨xs,H2,I2,r2,Y⟩=>⟨x::xs,H2,I2, .cons r1 r2,Y⟩
structure KBinds (K:W.Frag) (fd:FuncData) (ps ks:List Str) (g:List Value->List Value->List Value) (gV:List V->List V->List V):Prop where
 to: ∀ (s:Shared) (us ws:List Value),K.In s.heap->(g us ws).length=ps.length->BindsTo s fd #[us,ks.zip ws] (ps.zip (g us ws))
 rel: ∀ {vs:List V} {us:List Value} {zs:List V} {ws:List Value},Vals vs us->Vals zs ws->Vals (gV vs zs) (g us ws)
variable {g:List Value->List Value->List Value} {gV:List V->List V->List V}
end
structure FnScope (N P:List Str) (sc:Scope):Prop where
 kind:sc.kind= .function
 co:sc.isCoroutine=false
 gen:sc.isGenerator=false
 nd:N.Nodup
 pre:N.take P.length=P
 par: ∀x∈P,sc.names.lookup x=some .local\/sc.names.lookup x=some .cell
 nofree: ∀y∈sc.names,y.2≠ .free
theorem nT {kindOf:Str->Option NameKind} {x:Str}: ∀ {binds:List (Str×Value)} {m:Str->Option Value},(∀v,(x,v)∉binds)->bindL kindOf binds m x=m x
 | [],_,_=>rfl
 | (n,v)::r,m,h=>by
  unfold bindL;rw [nT λ w O=>h w (Zs _ O)];split
  .have:x≠n:=by rintro rfl;show h v Zt
   simp [this]
  .rfl
theorem nU {kindOf:Str->Option NameKind} {x:Str}: ∀ {binds:List (Str×Value)} {m:Str->Option Value},(∀v,(x,v)∉binds)->bindC kindOf binds m x=m x
 | [],_,_=>rfl
 | (n,v)::r,m,h=>by
  unfold bindC;rw [nU λ w O=>h w (Zs _ O)];split
  .rfl
  .have:x≠n:=by rintro rfl;show h v Zt
   simp [this]
theorem nW {kindOf:Str->Option NameKind} {x:Str} {v:Value}: ∀ {P:List Str} {vs:List Value} {i:Nat} {m:Str->Option Value},P.Nodup->P[i]? =some x->vs[i]? =some v->kindOf x=some .local->
  bindL kindOf (P.zip vs) m x=some v
 | [],_,_,_,_,h,_,_=>by simp at h
 | _::_,[],_,_,_,_,h,_=>by simp at h
 | p::P,w::vs,0,m,nd,h1,h2,hk=>by
  simp at h1 h2;subst h1;subst h2;change bindL kindOf ((p,w)::P.zip vs) m p=_;unfold bindL;rw [nT λ v O=>(List.nodup_cons.mp nd).1 (List.of_mem_zip O).1,if_pos hk];simp
 | p::P,w::vs,i+1,m,nd,h1,h2,hk=>by
  change bindL kindOf ((p,w)::P.zip vs) m x=_;unfold bindL;show nW (i:=i) (List.nodup_cons.mp nd).2 (by simpa using h1) (by simpa using h2) hk
theorem nY {kindOf:Str->Option NameKind} {x:Str} {v:Value}: ∀ {P:List Str} {vs:List Value} {i:Nat} {m:Str->Option Value},P.Nodup->P[i]? =some x->vs[i]? =some v->kindOf x≠some .local->
  bindC kindOf (P.zip vs) m x=some v
 | [],_,_,_,_,h,_,_=>by simp at h
 | _::_,[],_,_,_,_,h,_=>by simp at h
 | p::P,w::vs,0,m,nd,h1,h2,hk=>by
  simp at h1 h2;subst h1;subst h2;change bindC kindOf ((p,w)::P.zip vs) m p=_;unfold bindC;rw [nU λ v O=>(List.nodup_cons.mp nd).1 (List.of_mem_zip O).1,if_neg hk];simp
 | p::P,w::vs,i+1,m,nd,h1,h2,hk=>by
  change bindC kindOf ((p,w)::P.zip vs) m x=_;unfold bindC;show nY (i:=i) (List.nodup_cons.mp nd).2 (by simpa using h1) (by simpa using h2) hk
def start (N:List Str) (vs:List V):St:=vs.map some++List.replicate (N.length-vs.length) none
def iu (CX:zG) (P:Program) (w:World) (K:W.Frag) (mg:Str->Option Value) (base:Heap) (N:List Str) (qual:Str) (scope:Scope) (f:Addr) (cd:Value) (A:Around) (outer:List Env) (s:Shared) (H:Hp) (E:XK):Cx where
 prog:=P
 w:=w
 K:=K
 mg:=mg
 base:=base
 A:=A.deeper (envOfC qual scope s.heap.objs.size f cd)
 N:=N
 s₀:=s
 H₀:=H
 env:=envOfC qual scope s.heap.objs.size f cd
 outer:=outer
 stack:=envOfC qual scope s.heap.objs.size f cd::outer
 ex:=[]
 calm:=true
 fn:=λ _=>true
 pn:=[]
 xe:=λ e s'=>wpAny (model P w) (A.deeper (envOfC qual scope s.heap.objs.size f cd)) (leaving (envOfC qual scope s.heap.objs.size f cd) e) (λ _ s''=>CX outer H s E e s'') (λ e' s''=>CX outer H s E e' s'') s'
theorem rJ (h:sc.names.lookup x=some .cell): ∃c,(cellsFrom n sc.names []).lookup x=some c:=by
 have q:=PySem.W.cellsFrom_some sc.names n [] (.inl h);show Option.isSome_iff_exists.mp q
theorem yG {P:Program} {K:W.Frag} {base:Heap} {N ps:List Str} {f:Addr} {s:Shared} {E:XK} {vs:List V}
  (S:FnScope N ps scope) (hd:A.handled=none) (e0:Env0 P w K mg base A outer s H) (hl:vs.length=ps.length) (r:Vals vs us)
  (x:InCallC s s.heap.objs.size (bindL (envOfC qual scope s.heap.objs.size f cd).kindOf (ps.zip us) λ _=>none) (cellsFrom (s.heap.objs.size+1) scope.names []) (bindC (envOfC qual scope s.heap.objs.size f cd).kindOf (ps.zip us) λ _=>none) s1):
  Inv (iu CX P w K mg base N qual scope f cd A outer s H E) [] (start N vs) H s1:=by
 have ad:ps.length<=N.length:=by have:=Yc List.length S.pre;rw [Yd] at this;rfl'
 let#[h1,tk,rfl,hk]:=x.done;have ab: ∀b:Addr,b∉(iu CX P w K mg base N qual scope f cd A outer s H E).ex:=λ b z=>absurd (show b∈([]:List Addr) from z) (by simp)
 refine⟨⟨e0.mod,S.kind,rfl,rfl,Zm _,λ y z c h1 O=> ?_,λ y Y=> ?_,λ y c _ h=> ?_,λ _=>hd,Around.frames_deeper e0.frames, .inr ⟨rfl,rfl⟩,λ b z=>absurd z (ab b),e0.bs,e0.bsz,λ b _ _=>ab b,λ b z=>absurd z (ab b),e0.funs,e0.frf⟩,
  rfl,e0.bare,Un.kept hk,⟨_,x.toInCall.ns,λ i y v h1 O h3=> ?_⟩,λ y c h=>⟨_,x.cell y c h⟩,e0.hok.fresh (Zm _),λ y c h=> ?_,λ p hp=>absurd (show p∈([]:List (Addr×Obj)) from hp) (by simp),e0.hok.kept hk,?_⟩
 .exact name_of_addr x.apart (PySem.mem_of_lookup h1) (PySem.mem_of_lookup O)
 .have Y:scope.names.lookup y=some .cell\/scope.names.lookup y=some .free:=Y;rcases Y with Y | Y
  .exact rJ Y
  .exact absurd rfl (S.nofree _ (PySem.mem_of_lookup Y))
 .exact Nat.le_of_lt (x.above y c (PySem.mem_of_lookup h))
 .have hi:i<vs.length:=by
   unfold start at O;by_cases hi:i<vs.length
   .exact hi
   .rw [List.getElem?_append_right (by simpa using hi)] at O;rw [List.getElem?_replicate] at O;split at O<;>cases O
  have ha:vs[i]? =some v:=by
   unfold start at O;rw [List.getElem?_append_left (by simpa using hi),Zi] at O
   cases e:vs[i]? with
   | none=>rw [e] at O;cases O
   | some a=>rw [e] at O;cases O;rfl
  let#[u,hu,rv]:=r.get ha;have hp:ps[i]? =some y:=by
   rw [<- S.pre,List.getElem?_take_of_lt ()];show h1
  have ac:ps.Nodup:=by rw [<- S.pre];show S.nd.sublist (List.take_sublist _ _)
  refine#[u,rv,?_];rcases S.par y (Zf hp) with k | k
  .exact .inl #[k,nW ac hp hu k]
  .obtain ⟨c,e⟩:=rJ (n:=s.heap.objs.size+1) k;refine .inr #[.inl k,c,e,?_];have q:=x.cell y c e;rw [nY ac hp hu (by change scope.names.lookup y≠_;rw [k];decide)] at q;show q
 .exact e0.hok.fresh (Nat.le_of_lt (x.above y c (PySem.mem_of_lookup h)))
 .unfold start;change _=N.length;rw [Zq,Qr,List.length_replicate];rfl'
theorem Ab {P:Program} {K:W.Frag} {base:Heap} {f:Addr} {name:Str} {dV kV doc pm cdv ct oc:Value} {od:Option Addr}
  {N ps:List Str} {sp:Sp} (lk:K.lookup f=some #[oc,od, .func (W.fnOf name qual params body scope dV kV doc pm an cdv ct),osl]) (hcd:W.codeIn K cdv qual=true) (S:FnScope N ps scope)
  (len: ∀vs H Q E,sp vs H Q E->vs.length=ps.length)
  (hbody: ∀ (A:Around) (outer:List Env) (s:Shared) (H:Hp) (vs:List V) (Q:VK) (E:XK),Room k (A.deeper (envOfC qual scope s.heap.objs.size f cdv))->sp vs H Q E->
   ∃t,PSs (iu CX P w K mg base N qual scope f cdv A outer s H E) body t/\t { nx:=λ _ H'=>Q .non H',rt:=Q } (start N vs) H):
  FnOk P w K mg base CX (k+1) f (W.fnOf name qual params body scope dV kV doc pm an cdv ct) ps sp:=by
 refine#[len,λ A outer s H args us vs Q E hr e0 hb r ab=> ?_];have hl:=len _ _ _ _ ab;have KX:K.In s.heap:=e0.mod.kin.keeps λ b o e=>(e0.bs b o e).1
 have ac:s.heap.NoLimit:=e0.mod.nolimit.keeps λ b o e=>(e0.bs b o e).1
 have O: ∀y∈ps.zip us,scope.names.lookup y.1=some .local\/(scope.names.lookup y.1=some .cell/\((cellsFrom (s.heap.objs.size+1) scope.names []).lookup y.1).isSome=true):=λ ⟨n,v⟩ hy=>by
  rcases S.par n (List.of_mem_zip hy).1 with q | q
  .exact .inl q
  .exact .inr #[q,PySem.W.cellsFrom_some _ _ _ (.inl q)]
 refine codeAny_call_function hr.depth (KX _ _ lk) rfl S.co S.gen rfl (PySem.W.codeRec_of KX hcd) (hb _ _ _ _ ?_);refine wpAny_newFunctionEnv_cells S.kind O λ env he s1 x=> ?_
 subst he;refine#[ac.keeps x.toInCall.keep,codeAny_func ?_];let#[t,ht,hq]:=hbody A outer s H vs Q E (hr.deeper _) ab;have I:Inv (iu CX P w K mg base N qual scope f cdv A outer s H E) [] (start N vs) H s1:=yG S hr.hd e0 hl r x;refine Yv (ht [] s1 (start N vs) H _ I hq) (λ fl s' Y=> ?_) λ e s' Y=>Y
 have fin: ∀ {σ':St} {H':Hp} {v:V} {u:Value},Inv (iu CX P w K mg base N qual scope f cdv A outer s H E) [] σ' H' s'->RelV v u->Q v H'->CE outer P w H s Q u s':=
  λ {σ' H' v u} J rv q=>#[v,H',J.os,J.bare,J.base,J.hok,rv,q]
 cases fl with
 | ret u=>
  let#[v,σ',H',J,rv,q]:=Y;show fin J rv q
 | next=>
  let#[σ',H',J,q]:=Y;show fin (v:=V.non) (u:=Value.none) J rfl q
 | brk=>
  let#[_,_,_,q]:=Y;show False.elim q
 | cont=>
  let#[_,_,_,q]:=Y;show False.elim q
section
variable {X:Cx} {x:Str} {p pos:Pos} {e:Expr} {es:List Expr} {t:TA} {id T:String} {r:List V->Hp->VK->Prop}
def cG (r:List V->Hp->VK->Prop) (t:TA):TE:=λ σ H Q=>t σ H λ vs H1=>r vs H1 Q
theorem Ac (hc:bG X (.builtin id) r) (hg:Gl X x) (hm:X.mg x=none) (hv:bootBuiltins x=some (.builtin id)) (ha:PA X (e::es) t) (hn:x≠"__name__":=by decide) (hdb:(x==("__debug__":Str))=false:=by decide)
  (he:starEach (e::es) X.env=(false,eval e X.env)::starEach es X.env:=by rfl) (hpl:(backTo pos (starEach es X.env)).any (·.1)=false:=by rfl):PE X (.Call (.Name x p) (e::es) [] pos) (cG r t):=by
 intro O s W H Q I h;refine wpAny_Call_Name_kw (fG I hg hm hv ?_ hn hdb);show PyProof.Rows.callWith_builtin1 (aW (ha pos O s W H _ I h) λ us s1 ⟨vs,H1,I1,Y,q1⟩=>hc O s1 W H1 vs us Q I1 Y q1) he hpl
theorem cJ (hc:bG X (.type T) r) (hg:Gl X x) (hm:X.mg x=none) (hv:bootBuiltins x=some (.type T)) (ha:PA X (e::es) t) (hn:x≠"__name__":=by decide) (hdb:(x==("__debug__":Str))=false:=by decide)
  (he:starEach (e::es) X.env=(false,eval e X.env)::starEach es X.env:=by rfl) (hpl:(backTo pos (starEach es X.env)).any (·.1)=false:=by rfl):PE X (.Call (.Name x p) (e::es) [] pos) (cG r t):=by
 intro O s W H Q I h;refine wpAny_Call_Name_kw (fG I hg hm hv ?_ hn hdb);show PyProof.Rows.callWith_type1 (aW (ha pos O s W H _ I h) λ us s1 ⟨vs,H1,I1,Y,q1⟩=>hc O s1 W H1 vs us Q I1 Y q1) he hpl
end
end L2
namespace HT
open PySem PyProof.Rows
variable {sl:Addr} {ms:List Int} {v vl vu:Value} {hi lo:Option Int} {items:Array Value} {Q:Value->Shared->Prop}
def lexLt:List Int->List Int->Bool
 | [],[]=>false
 | [],_::_=>true
 | _::_,[]=>false
 | x::xs,y::ys=>if x=y then lexLt xs ys else decide (x<y)
theorem fO (x y:Int) (xs ys:List Int):lexLt (x::xs) (y::ys)=if x=y then lexLt xs ys else decide (x<y):=rfl
theorem n6:lexLt [] []=false:=rfl
theorem lJ (y:Int) (ys:List Int):lexLt [] (y::ys)=true:=rfl
theorem lK (x:Int) (xs:List Int):lexLt (x::xs) []=false:=rfl
theorem Ad (A:Around) (s:Shared) (a:Int) (t:Tok) (c:Int) (u:Tok): ∃e,SeqAt.EqAt A s (.int a t) (.int c u) e/\(e=true↔a=c):=
 #[(a==c),SeqAt.EqAt.int_int a t c u,by simp]
theorem Ae (A:Around) (s:Shared) (a:Int) (t:Tok) (c:Int) (u:Tok) (prog:Program) (w:World) (E:Value->Shared->Prop) (Q:Value->Shared->Prop) (h:Q (.bool (decide (a<c))) s):
  wpAny (model prog w) A (richCompare .Lt (.int a t) (.int c u)) Q E s:=
 (PyProof.Rows.lt_int h:wpAny (model prog w) A (compareOp .Lt (.int a t) (.int c u)) Q E s)
section
open PySem.SeqAt
open PySem.AutoSeq1 (wpAny_loadPart')
open PySem.MeetsSeq PySem.MeetsSeq2 PySem.MeetsSeq3
theorem ni (l b:Addr) (items items2:Array Value) (n n2:Nat) (dd dd2:Option Addr) (sl sl2:Array (Option Value)) (ns ms:List Int) (hi:IntsAre items.toList ns) (hj:IntsAre items2.toList ms):
  Meets (Builtin.«tuple.__lt__» #[[.ref l, .ref b],[]])
   (λ _ R s=>s.heap.get? l=some { cls:= .type "tuple",dict:=dd,data:= .seq items n,slots:=sl }/\s.heap.get? b=some { cls:= .type "tuple",dict:=dd2,data:= .seq items2 n2,slots:=sl2 }/\
    R (.ok (.ret (.bool (lexLt ns ms)))) s):=
 .of_wp λ prog w A R s h=>by
  let#[hp,g,d,tk,os]:=s;let#[hl,hb,h]:=h;have f2:=AutoSeq1.sub_tuple_tuple;have z1:items.size=ns.length:=by rw [<- hi.length];simp
  have z2:items2.size=ms.length:=by rw [<- hj.length];simp
  wp_walk using wpAny_loadPart' hl,wpAny_loadPart' hb,wpAny_forIn_list _ (λ rest b s'=>b.1=none/\s'=#[hp,g,d,tk,os]/\ ∃ (vs ws:List Value) (Y W:List Int),rest=vs.zip ws/\
   IntsAre vs Y/\IntsAre ws W/\Y.length+items2.size=W.length+items.size/\R (.ok (.ret (.bool (lexLt Y W)))) #[hp,g,d,tk,os]) _
  case turn=>
   rintro ⟨y,x⟩ rest b s' ⟨ae,rfl,vs,ws,Y,W,hz,ad,ab,O,hR⟩
   cases ad with
   | nil=>rw [List.zip_nil_left] at hz;cases hz
   | cons a t hvi'=>
    cases ab with
    | nil=>rw [List.zip_nil_right] at hz;cases hz
    | cons c u hwi'=>
     rw [List.zip_cons_cons] at hz;injection hz with hyx hrest
     injection hyx with hy hx
     subst hy hx;rw [fO] at hR;simp only [Wp] at O;let#[e,he,ac]:=Ad A.in1 #[hp,g,d,tk,os] a t c u;refine Qb (he prog w _ _ ?_)
     cases e with
     | true=>
      rw [if_pos (ac.mp rfl)] at hR
      wp_walk
      show#[rfl,rfl,_,_,_,_,hrest,hvi',hwi',(),hR]
     | false=>
      rw [if_neg (λ q=>absurd (ac.mpr q) Zu)] at hR;have af:=Ae A.in1 #[hp,g,d,tk,os] a t c u prog w
      wp_walk using af
      show#[_,rfl,by simpa using hR]
  case fin=>
   rintro ⟨b1,b2⟩ s' ⟨ae,rfl,vs,ws,Y,W,hz,ad,ab,O,hR⟩;simp only at ae;subst ae;have hv:lexLt Y W=decide (items.size<items2.size):=by
    cases ad with
    | nil=>
     cases ab with
     | nil=>
      simp only [List.length_nil] at O;rw [n6];show(Zv ()).symm
     | cons c u hw=>
      simp only [List.length_nil,Wp] at O;rw [lJ];show(Zz ()).symm
    | cons a t hv=>
     cases ab with
     | nil=>
      simp only [List.length_nil,Wp] at O;rw [lK];show(Zv ()).symm
     | cons c u hw=>
      rw [List.zip_cons_cons] at hz
      cases hz
   rw [hv] at hR
   wp_walk
   show#[_,rfl,by simpa [Builtin.Tuple.tupleCompareSizes] using hR]
  case h=>
   show#[rfl,rfl,items.toList,items2.toList,ns,ms,rfl,hi,hj,(),h]
end
section
variable {prog:Program} {w:World} {A:Around} {E:Value->Shared->Prop} {s:Shared}
theorem ut {l b:Addr} {items2:Array Value} {ns:List Int} (hl:IsTup s.heap l items) (hb:IsTup s.heap b items2) (hi:IntsAre items.toList ns) (hj:IntsAre items2.toList ms)
  (hu:A.units<cLine) (h:Q (.bool (lexLt ns ms)) s):wpAny (model prog w) A (compareOp .Lt (.ref l) (.ref b)) Q E s:=by
 let#[#[cls,dd,data,sl],ho,hc,n,hd]:=id hl;let#[#[ae,ad,ab,ac],W,O,n2,Y]:=id hb;simp only at hc hd O Y;subst hc hd O Y;show richCompare_meets_room (op:= .Lt) #[_,ho,rfl] #[_,W,rfl] PySem.F.slot_tuple_lt PySem.F.entry_tuple_lt (PySem.F.args_tuple_lt_2 _ _) (ni l b items items2 n n2 dd ad sl ac ns ms hi hj)
  #[ho,W,show Value.bool (lexLt ns ms)≠Value.notImplemented/\Q (.bool (lexLt ns ms)) s from #[(λ x=>nomatch x),h]] hu
def cX (n d:Nat):Option Int->Nat
 | none=>d
 | some v=>if v<0 then (v+(n:Int)).toNat else min v.toNat n
theorem KY (n d:Nat) (hd:d<=n) (o:Option Int):cX n d o<=n:=by
 cases o with
 | none=>show hd
 | some v=>
  change(if v<0 then (v+(n:Int)).toNat else min v.toNat n)<=n;by_cases O:v<0
  .rw [if_pos O];rfl'
  .rw [if_neg O];show Nat.min_le_right _ _
theorem xq (v:Int) (n d:Nat):(if v<0 then max (v+(n:Int)) 0 else min v (n:Int))=((cX n d (some v):Nat):Int):=by
 change(if v<0 then max (v+(n:Int)) 0 else min v (n:Int))=(((if v<0 then (v+(n:Int)).toNat else min v.toNat n):Nat):Int);by_cases O:v<0
 .simp only [if_pos O];rfl'
 .simp only [if_neg O];rfl'
theorem uv (lo hi:Option Int) (n:Nat):Builtin.Slice.sliceAdjust lo hi 1 (n:Int)=(((cX n 0 lo:Nat):Int),((cX n n hi:Nat):Int)):=by
 have O: ¬ ((1:Int)<0):=()
 unfold Builtin.Slice.sliceAdjust;simp only [O,if_false];refine Prod.ext ?_ ?_
 .cases lo with
  | none=>rfl
  | some v=>show xq v n 0
 .cases hi with
  | none=>rfl
  | some v=>show xq v n n
theorem uw (i j:Nat):Builtin.Slice.slicePlaces (i:Int) (j:Int) 1=j-i:=by
 unfold Builtin.Slice.slicePlaces;have O:(1:Int)>0:=()
 simp only [O,if_true,Int.ediv_one];split<;>rfl'
theorem lM {o:Option Int} {Q:Option Int->Shared->Prop} (p:IsPart v o) (h:Q o s):wpAny (model prog w) A (Builtin.Slice.slicePartIndex v) Q E s:=by
 cases p with
 | none=>show slicePart_none h
 | int i t=>show slicePart_int h
theorem eZ {n:Nat} {Q:Int×Int×Nat->Shared->Prop} (hs:s.heap.IsSliceOf sl vl vu .none) (pl:IsPart vl lo) (pu:IsPart vu hi)
  (h:Q (((cX n 0 lo:Nat):Int),1,cX n n hi-cX n 0 lo) s):wpAny (model prog w) A (Builtin.Slice.sliceApplied (.ref sl) (pure (n:Int))) Q E s:=by
 let#[os,O,Y,W]:=id hs;unfold Builtin.Slice.sliceApplied Builtin.Slice.sliceFields;refine Qb (Qb (Yx O W (x:=vl) rfl (Qb (Yx O W (x:=vu) rfl (Qb (Yx O W (x:= .none) rfl (Zc ?_)))))));refine Qb (slicePart_none ?_);change wpAny _ _ (if ((1:Int)==0)=true then _ else _) _ _ s;rw [if_neg (by decide)];refine Qb (lM pl (Qb (lM pu (Qb (Zc ?_)))));change wpAny _ _ (match Builtin.Slice.sliceAdjust lo hi 1 (n:Int) with | (lo,hi)=>pure (lo,(1:Int),Builtin.Slice.slicePlaces lo hi 1)) _ _ s;rw [uv lo hi n];change wpAny _ _ (pure (((cX n 0 lo:Nat):Int),(1:Int),Builtin.Slice.slicePlaces ((cX n 0 lo:Nat):Int) ((cX n n hi:Nat):Int) 1)) _ _ s;rw [uw];show Zc h
theorem Af (xs:Array Value) (i k:Nat):((List.range k).filterMap λ (m:Nat)=>xs[((i:Int)+(m:Int)*1).toNat]?).toArray=((xs.toList.drop i).take k).toArray:=by
 have e:(λ (m:Nat)=>xs[((i:Int)+(m:Int)*1).toNat]?)=λ m=>xs[i+m]? :=by
  funext m;have:((i:Int)+(m:Int)*1).toNat=i+m:=()
  rw [this]
 rw [e];have:=pick_run xs i k;rw [List.filterMap_map] at this;have O:((λ x=>xs[x]?)∘λ x=>i+x)=λ m=>xs[i+m]? :=rfl
 rw [O] at this;rw [this]
theorem j8 {t:Addr} (ht:IsTup s.heap t items) (hs:s.heap.IsSliceOf sl vl vu .none) (pl:IsPart vl lo) (pu:IsPart vu hi)
  (hw: ¬ (cX items.size 0 lo=0/\cX items.size items.size hi=items.size))
  (h:Q (.ref s.heap.objs.size) { s with heap:=s.heap.push { cls:= .type "tuple",data:= .seq ((items.toList.drop (cX items.size 0 lo)).take (cX items.size items.size hi-cX items.size 0 lo)).toArray } })
  (hsz:items.size<=sizeLine):wpAny (model prog w) A (getItem (.ref t) (.ref sl)) Q E s:=by
 have O:sizeOk (.seq ((items.toList.drop (cX items.size 0 lo)).take (cX items.size items.size hi-cX items.size 0 lo)).toArray):=by
  change((items.toList.drop (cX items.size 0 lo)).take (cX items.size items.size hi-cX items.size 0 lo)).toArray.size<=sizeLine;rw [Zy,Yd,List.length_drop,Array.length_toList];rfl'
 have hj:cX items.size items.size hi<=items.size:=KY _ _ (Zm _) hi;let#[os,Y,W,ad]:=id hs;have ab:s.TypeIs (.ref sl) "slice":=#[os,Y,W];unfold getItem;try with_reducible refine Yp ?_
 first | refine Qb (Zc ?_) | skip
 refine Qb (wpAny_sequenceKey ht.typeIs (by decide) ?_);refine Qb (wpAny_callSpecial?_slot (name:=Str.ofString "__getitem__") ht.typeIs PyProof.Rows.slot_tuple_getitem
  (Yo PyProof.Rows.slot_tuple_getitem ht.typeIs entry_tuple_getitem ?_ (args_tuple_getitem _ _)))
 change wpAny _ _ (Builtin.Tuple.tupleItemsOf (.ref t) >>= _) _ _ s;refine Qb (tupleItemsOf_ ht ?_);refine Qb (wpAny_typeOf ab ?_);rw [if_pos (by decide)];refine Qb (eZ hs pl pu ?_);have ac: ¬ ((((cX items.size 0 lo:Nat):Int)==0&&(1:Int)==1&&(cX items.size items.size hi-cX items.size 0 lo)==items.size)=true):=by
  intro q;rw [Bool.and_eq_true,Bool.and_eq_true] at q;have q1:((cX items.size 0 lo:Nat):Int)=0:=eq_of_beq q.1.1;have q2:cX items.size items.size hi-cX items.size 0 lo=items.size:=eq_of_beq q.2;show hw #[(),()]
 change wpAny _ _ (if (((cX items.size 0 lo:Nat):Int)==0&&(1:Int)==1&&(cX items.size items.size hi-cX items.size 0 lo)==items.size)=true then _ else _) _ _ s;rw [if_neg ac,Af]
 first
  | show Qb (m:=Builtin.Tuple.tupleExact _) (Ys (Zc #[_,rfl,Zc h]) O)
  | show Qb (m:=Builtin.Tuple.tupleExact _) (Ys (Qb (Zc (Zc #[_,rfl,Zc h]))) O)
  | show Qb (Qb (m:=Builtin.Tuple.tupleExact _) (Ys (Zc (Zc #[_,rfl,Zc h])) O))
  | show Qb (Qb (m:=Builtin.Tuple.tupleExact _) (Ys (Zc #[_,rfl,Zc h]) O))
end
end HT
namespace L2
open PySem PySem.Spec PyProof.Rows
variable {H:Hp} {σ:St} {i:Int} {x y:V} {p:Addr} {j n:Nat} {A:Around} {T:String} {u v:Value} {ys:List V} {pins:List (Addr×Obj)} {its its' us:List Value} {f:Array Value->Array Value} {r:V->Option Int->Option Int->Hp->VK->Prop}
abbrev TO:=St->Hp->(Option Int->Hp->Prop)->Prop
def PO (X:Cx) (e:Option Expr) (t:TO):Prop:=
 ∀ (pins:List (Addr×Obj)) (s:Shared) (σ:St) (H:Hp) (Q:Option Int->Hp->Prop),Inv X pins σ H s->t σ H Q->
  wpAny (model X.prog X.w) X.A (evalPart e X.env) (λ u s'=> ∃o H',Inv X pins σ H' s'/\IsPart u o/\Q o H') X.xe s
def cj:TO:=λ _ H Q=>Q none H
def f9 (t:TE):TO:=λ σ H Q=>t σ H λ x H1=> ∃i,x= .int i/\Q (some i) H1
theorem intsAre_of {ns:List Int}: ∀ {us:List Value},Vals (ns.map V.int) us->IntsAre us ns:=by
 induction ns with
 | nil=>intro us r;rw [List.map_nil] at r;cases r;show .nil
 | cons n ns ih=>
  intro us r;rw [Zl] at r
  cases r with
  | cons r1 r2=>
   let#[t,e]:=r1;subst e;show .cons n t (ih r2)
section
variable {X:Cx} {e:Expr} {te:TE} {lo hi:Option Expr} {tl th:TO} {pos p2:Pos}
theorem cQ:PO X none cj:=by
 intro O s W H Q I h;rw [evalPart_none];show Zc #[none,H,I, .none,h]
theorem cR (h:PE X e te):PO X (some e) (f9 te):=by
 intro O s W H Q I hw;rw [evalPart_some];refine aW (h O s W H _ I hw) λ u s1 ⟨x,H1,I1,Y,q1⟩=> ?_
 let#[i,rfl,q]:=q1;let#[t,rfl]:=Y;show#[some i,H1,I1, .int i t,q]
def KZ (X:Cx) (r:V->Option Int->Option Int->Hp->VK->Prop):Prop:=
 ∀ (pins:List (Addr×Obj)) (s:Shared) (σ:St) (H:Hp) (x:V) (v vl vu:Value) (lo hi:Option Int) (sl:Addr) (Q:VK),Inv X pins σ H s->RelV x v->s.heap.IsSliceOf sl vl vu .none->IsPart vl lo->IsPart vu hi->r x lo hi H Q->
  ∃T id,typeLookup (.type T) "__getitem__"=pure (some (.builtin id))/\s.TypeIs v T/\wpAny (model X.prog X.w) X.A (getItem v (.ref sl)) (EP X pins σ Q) X.xe s
def yH (r:V->Option Int->Option Int->Hp->VK->Prop) (te:TE) (tl th:TO):TE:=λ σ H Q=>te σ H λ x H1=>tl σ H1 λ l H2=>th σ H2 λ u H3=>r x l u H3 Q
theorem bW (hr:KZ X r) (he:PE X e te) (hl:PO X lo tl) (hu:PO X hi th):PE X (.Subscript e (.Slice lo hi none p2) pos) (yH r te tl th):=by
 intro O s Y H Q I h;refine Subscript_ (aW (he O s Y H _ I h) λ v s1 ⟨x,H1,I1,r1,q1⟩=> ?_);refine wpAny_Slice (aW (hl O s1 Y H1 _ I1 q1) λ vl s2 ⟨l,H2,I2,pl,q2⟩=>aW (hu O s2 Y H2 _ I2 q2) λ vu W ⟨u,H3,I3,pu,q3⟩=> ?_);rw [evalPart_none];refine Zc ?_;have I4:Inv X O Y H3 { W with heap:=W.heap.push { cls:= .type "slice",data:= .fields ([vl,vu, .none].toArray) } }:=I3.kept (t':=W.toks) λ b ob q=>Zd _ q
 let#[T,id,hT,ht,hg]:=hr O { W with heap:=W.heap.push { cls:= .type "slice",data:= .fields ([vl,vu, .none].toArray) } } Y H3 x v vl vu l u W.heap.objs.size Q I4 r1 (Heap.IsSliceOf.new ..) pl pu q3;change wpAny (model X.prog X.w) X.A (subscriptTail e (.Slice lo hi none p2) v (.ref W.heap.objs.size)) (EP X O Y Q) X.xe { W with heap:=W.heap.push { cls:= .type "slice",data:= .fields ([vl,vu, .none].toArray) } };show tail_any (ops:=[.ref W.heap.objs.size,v]) ht hT hg (by with_unfolding_all rfl)
def gh (xs:List V) (lo hi:Option Int):List V:=(xs.drop (HT.cX xs.length 0 lo)).take (HT.cX xs.length xs.length hi-HT.cX xs.length 0 lo)
theorem jP (xs:List V) (lo hi:Option Int):(gh xs lo hi).length<=xs.length:=by
 unfold gh;rw [Yd,List.length_drop];rfl'
def Vd (K:W.Frag):V->Option Int->Option Int->Hp->VK->Prop:=λ x lo hi H Q=> ∃a xs,x= .ref a/\SqT K H a xs/\
 ¬ (HT.cX xs.length 0 lo=0/\HT.cX xs.length xs.length hi=xs.length)/\ ∀p,H p=none->Q (.ref p) (upd H p (.tup (gh xs lo hi)))
theorem La:KZ X (Vd X.K):=by
 intro ab s σ H x v vl vu W hi sl Q I rx hs pl pu h;let#[a,xs,rfl,hx,hw,q]:=h
 cases rx;let#[Y,r,ht,hz]:=I.tuple hx;have O:Y.toArray.size=xs.length:=by rw [Zy];show r.length.symm
 refine#["tuple",_,PyProof.Rows.slot_tuple_getitem.lookup,ht.typeIs,?_];refine HT.j8 ht hs pl pu (by rw [O];show hw) ?_ (by rw [O];show hz);rw [O];refine#[.ref s.heap.objs.size,_,I.laid (t':=s.toks) (o:= .tup (gh xs W hi)) (λ b ob q=>Zd _ q) (Zm _) ?_,rfl,q _ (I.hok.fresh (Zm _))];show#[Nat.le_trans (jP xs W hi) hz,_,(r.drop (HT.cX xs.length 0 W)).take (HT.cX xs.length xs.length hi-HT.cX xs.length 0 W),IsTup.new _ _]
end
def Gv (n:Nat) (i:Int):Option Nat:=if 0<=i then (if i<n then some i.toNat else none) else if-(n:Int)<=i then some (i+n).toNat else none
def ux {α:Type} (xs:List α) (i:Int):Option α:=(Gv xs.length i).bind λ j=>xs[j]?
theorem xr (h:Gv n i=some j):seqIndex? i n=some j/\j<n/\ -(n:Int)<=i/\i<n:=by
 unfold Gv at h;by_cases W:0<=i
 .rw [if_pos W] at h;by_cases O:i<n
  .rw [if_pos O] at h;have e:i.toNat=j:=Yi h;show#[by rw [seqIndex_of W O,e],(),(),O]
  .rw [if_neg O] at h;cases h
 .rw [if_neg W] at h;by_cases O: -(n:Int)<=i
  .rw [if_pos O] at h;have e:(i+n).toNat=j:=Yi h;show#[by rw [seqIndex_neg () O,e],(),O,()]
  .rw [if_neg O] at h;cases h
theorem pJ {α:Type} {xs:List α} {v:α} (h:ux xs i=some v): ∃j,seqIndex? i xs.length=some j/\xs[j]? =some v/\j<xs.length/\ -(xs.length:Int)<=i/\i<xs.length:=by
 unfold ux at h
 cases e:Gv xs.length i with
 | none=>rw [e] at h;cases h
 | some j=>
  rw [e] at h;let#[W,h2,O,Y]:=xr e;show#[j,W,h,h2,O,Y]
theorem aP {α:Type} {xs:List α} {v:α} (h:xs[j]? =some v):ux xs (j:Int)=some v:=by
 have O:j<xs.length:=(Zj.mp h).1;have e:Gv xs.length (j:Int)=some j:=by
  unfold Gv;rw [if_pos (),if_pos ()];simp
 unfold ux;rw [e];show h
theorem rK {α:Type} (xs:List α) (v:α):ux (xs++[v]) (-1)=some v:=by
 have O:(xs++[v]).length=xs.length+1:=by simp
 have e:Gv (xs++[v]).length (-1)=some xs.length:=by
  unfold Gv;rw [O,if_neg (by decide),if_pos ()];congr 1;rfl'
 unfold ux;rw [e];change(xs++[v])[xs.length]? =some v;simp
def Hf (b:Expr):Prop:= ∀o i,subscripted b false o i=operate [o,i] (getItem o i)
def Qw (X:Cx) (r:R2):Prop:=
 ∀ (value slice:Expr) (pins:List (Addr×Obj)) (s:Shared) (σ:St) (H:Hp) (x y:V) (v u:Value) (Q:VK),Inv X pins σ H s->RelV x v->RelV y u->r x y H Q->
  subscripted slice false v u=operate [v,u] (getItem v u)->wpAny (model X.prog X.w) X.A (subscriptTail value slice v u) (EP X pins σ Q) X.xe s
def Uy (X:Cx) (id:String) (r:V->List V->Hp->VK->Prop):Prop:=
 ∀ (pins:List (Addr×Obj)) (s:Shared) (σ:St) (H:Hp) (x:V) (xs:List V) (v:Value) (us:List Value) (Q:VK),Inv X pins σ H s->RelV x v->Vals xs us->r x xs H Q->
  wpAny (model X.prog X.w) X.A (call (.builtin id) (v::us)) (EP X pins σ Q) X.xe s
section
variable {X:Cx} {a b:Expr} {ta tb:TE} {pos:Pos}
theorem xu {r:R2} (hr:Qw X r) (ha:PE X a ta) (hb:PE X b tb) (hs:Hf b):PE X (.Subscript a b pos) (aK r ta tb):=by
 intro O s W H Q I h;show Subscript_ (Ku ha hb I h λ v u s2 x y H2 Y rx ry q=>hr a b O s2 W H2 x y v u Q Y rx ry q (hs _ _))
def cY (K:W.Frag):R2:=λ x y H Q=> ∃p xs i v,x= .ref p/\y= .int i/\SqL K H p xs/\ux xs i=some v/\Q v H
def aV (K:W.Frag):R2:=λ x y H Q=> ∃p xs i v,x= .ref p/\y= .int i/\SqT K H p xs/\ux xs i=some v/\Q v H
def Hg:R2:=λ x y H Q=> ∃z i c,x= .str z/\y= .int i/\z.length<=sizeLine/\ux z.cps.toList i=some c/\Q (.str #[([c].toArray)]) H
theorem Hh:Qw X (cY X.K):=by
 intro ab Y O s σ H x y v u Q I rx ry h hs;let#[p,xs,i,z,rfl,rfl,hq,he,q]:=h
 cases rx;let#[t,rfl]:=ry;let#[ac,r,pl,hz]:=I.list hq;let#[j,W,h2,h3,h4,h5]:=pJ he;let#[w,ew,ad]:=r.get h2;have hl:=r.length;have hn:=jw;have fin:EP X O σ Q w s:=#[z,H,I,ad,q];by_cases h0:0<=i
 .have hj:i.toNat=j:=by
   rw [seqIndex_of h0 h5] at W;show Yi W
  show item_listR pl.isList h0 () (by rw [hj];simpa using ew) fin hs
 .have hj:(i+(ac.toArray.size:Int)).toNat=j:=by
   rw [seqIndex_neg () h4] at W;rw [Zy,<- hl];show Yi W
  show subscriptTail_builtinR (x:=w) pl.isList.typeIs slot_list_getitem.lookup
   (wpAny_getItem_list_neg (Q:=λ r s'=>r=w/\EP X O σ Q r s') pl.isList () (by rw [Zy]<;>rfl') () (by rw [hj];simpa using ew) #[rfl,fin]) hs
theorem Lb:Qw X (aV X.K):=by
 intro Y W O s σ H x y v u Q I rx ry h hs;let#[p,xs,i,z,rfl,rfl,hq,he,q]:=h
 cases rx;let#[t,rfl]:=ry;let#[ac,r,pl,hz]:=I.tuple hq;let#[j,h1,h2,h3,h4,h5]:=pJ he;let#[w,ew,ab]:=r.get h2;have hl:=r.length;have hn:=jw;have fin:EP X O σ Q w s:=#[z,H,I,ab,q];show subscriptTail_builtinR (x:=w) pl.typeIs slot_tuple_getitem.lookup
  (getItem_tuple (j:=j) (Q:=λ r s'=>r=w/\EP X O σ Q r s') pl () () (by rw [Zy,<- hl];show h1) (by simpa using ew) #[rfl,fin]) hs
theorem Ag:Qw X Hg:=by
 intro W O Y s σ H x y v u Q I rx ry h hs;let#[z,i,c,rfl,rfl,hz,he,q]:=h;let#[t,rfl]:=rx;let#[t',rfl]:=ry;let#[j,h1,h2,h3,h4,h5]:=pJ he;have hl:z.cps.toList.length=z.length:=by simp [Str.length]
 rw [hl] at h1 h4 h5;have hn:=jw;show tail_any (typeIs_str s z t) slot_str_getitem.lookup (getItem_str (c:=c) (by
  have e1:decide (i< -(2^63:Int))=false:=Zv ();have e2:decide (i>=2^63)=false:=Zv ();rw [e1,e2,Bool.or_false]) (by rw [h1];simpa using h2) #[.str #[([c].toArray)],H,I.tok _,#[_,rfl],q]) hs
theorem uy (its:List Value) (n j:Nat) (u:Value):Obj.mapSeq (·.setIfInBounds j u) { cls:= .type "list",data:= .seq its.toArray n }={ cls:= .type "list",data:= .seq (its.set j u).toArray n }:=by
 simp [Obj.mapSeq]
theorem Inv.lst {s:Shared} {xs:List V} (I:Inv X pins σ H s) (h:H p=some (.lst xs)):
  ∃ (its:List Value) (n:Nat),Vals xs its/\s.heap.get? p=some { cls:= .type "list",data:= .seq its.toArray n }/\xs.length<=sizeLine:=by
 let#[z,its,n,r,e]:=I.hok p _ h;show#[its,n,r,e,z]
theorem Inv.lstUpd {s:Shared} {xs:List V} {n':Nat} {f:Obj->Obj} (I:Inv X pins σ H s) (h:H p=some (.lst xs))
  (ho:s.heap.get? p=some { cls:= .type "list",data:= .seq its.toArray n }) (hf:f { cls:= .type "list",data:= .seq its.toArray n }={ cls:= .type "list",data:= .seq its'.toArray n' }) (r:Vals ys its') (hz:ys.length<=sizeLine) (t:Nat):
  Inv X pins σ (upd H p (.lst ys)) { s with heap:=s.heap.update p f,toks:=t }:=by
 have e:(s.heap.update p f).get? p=some { cls:= .type "list",data:= .seq its'.toArray n' }:=by
  rw [Heap.get?_update_self f ho (by rw [hf]<;>rfl),hf]
 refine I.write (x:=p) (e:=p) (by rw [h];trivial) (.inl rfl) (λ b u O q=>(Heap.get?_update_other _ _ (Ne.symm O)).trans q) #[_,e] ?_;show#[hz,its',n',r,e]
def Ah:V->V->V->Hp->(Hp->Prop)->Prop:=λ o i v H Q=> ∃p xs k j,o= .ref p/\i= .int k/\H p=some (.lst xs)/\Gv xs.length k=some j/\Q (upd H p (.lst (xs.set j v)))
theorem set_list:QJ X Ah:=by
 intro O s σ H o i v ov iv u Q I ro ri rv h;let#[p,xs,k,j,rfl,rfl,hp,hj,q]:=h
 cases ro;let#[t,rfl]:=ri;let#[Y,n,r,ho,hz]:=I.lst hp;let#[h1,h2,h3,h4]:=xr hj;have hl:=r.length;have hn:=jw;have I':Inv X O σ (upd H p (.lst (xs.set j v))) { s with heap:=s.heap.update p (Obj.mapSeq (·.setIfInBounds j u)) }:=
  I.lstUpd hp ho (uy Y n j u) (r.set rv j) (by rw [List.length_set];show hz) s.toks
 by_cases h0:0<=k
 .have hk:k.toNat=j:=by
   rw [seqIndex_of h0 h4] at h1;show Yi h1
  show PySem.W.ki_setAt ho h0 () (by rw [Zy,<- hl];show h4) (by rw [hk];show#[_,I',q])
 .have hk:(k+(Y.toArray.size:Int)).toNat=j:=by
   rw [seqIndex_neg () h3] at h1;rw [Zy,<- hl];show Yi h1
  show PySem.W.ki_setBack ho () (by rw [Zy,<- hl];show h3) () (by rw [hk];show#[_,I',q])
theorem pK (lo hi:Option Int) (n:Nat):(sliceBounds lo hi none n).1=((HT.cX n 0 lo:Nat):Int)/\(sliceBounds lo hi none n).2.1=((HT.cX n n hi:Nat):Int)/\(sliceBounds lo hi none n).2.2=1:=by
 refine#[?_,?_,rfl]
 .cases lo with
  | none=>simp [sliceBounds,HT.cX]
  | some i=>
   simp only [sliceBounds,HT.cX,Option.getD_none,show(1:Int)>0 by decide,if_true];by_cases h:i<0
   .simp only [h,if_true]<;>rfl'
   .simp only [h,if_false]<;>rfl'
 .cases hi with
  | none=>simp [sliceBounds,HT.cX]
  | some i=>
   simp only [sliceBounds,HT.cX,Option.getD_none,show(1:Int)>0 by decide,if_true];by_cases h:i<0
   .simp only [h,if_true]<;>rfl'
   .simp only [h,if_false]<;>rfl'
theorem nj (its:List Value) (lo hi:Option Int):slicePick its.toArray lo hi none=((its.drop (HT.cX its.length 0 lo)).take (HT.cX its.length its.length hi-HT.cX its.length 0 lo)).toArray:=by
 let#[Y,W,O]:=pK lo hi its.toArray.size;unfold slicePick;rw [Y,W,O];simp only [sliceRange_one,pick_run,Zy]<;>rfl
def Ai (K:W.Frag):V->Option Int->Option Int->Hp->VK->Prop:=λ x lo hi H Q=> ∃a xs,x= .ref a/\SqL K H a xs/\ ∀p,H p=none->Q (.ref p) (upd H p (.lst (gh xs lo hi)))
theorem Hi:KZ X (Ai X.K):=by
 intro ab s σ H x v vl vu W Y sl Q I rx hs pl pu h;let#[a,xs,rfl,hx,q]:=h
 cases rx;let#[ac,r,ht,hz]:=I.list hx;have O:=r.length;refine#["list",_,slot_list_getitem.lookup,ht.isList.typeIs,?_];refine wpAny_getItem_list_slice ht.isList hs pl pu .none (by simp) ?_ (by rw [Zy]<;>rfl');rw [nj,<- O];refine#[.ref s.heap.objs.size,_,I.laid (t':=s.toks) (o:= .lst (gh xs W Y)) (λ b ob q=>Zd _ q) (Zm _) ?_,rfl,q _ (I.hok.fresh (Zm _))];show#[Nat.le_trans (jP xs W Y) hz,_,0,(r.drop (HT.cX xs.length 0 W)).take (HT.cX xs.length xs.length Y-HT.cX xs.length 0 W),Zo _ rfl]
def gb:V->Bool
 | .non=>true
 | .bl _=>true
 | .int _=>true
 | .str _=>true
 | _=>false
def Gw:V->V->Bool
 | .non, .non=>true
 | .bl a, .bl b=>a==b
 | .bl a, .int b=>(if a then 1 else 0)==b
 | .int a, .bl b=>a==(if b then 1 else 0)
 | .int a, .int b=>a==b
 | .str a, .str b=>a==b
 | _,_=>false
theorem Ld {s:Shared} (ry:RelV y u) (rx:RelV x v) (fy:gb y=true) (fx:gb x=true):SeqAt.EqAt A s u v (Gw y x):=by
 cases y with
 | non=>
  cases ry
  cases x with
  | non=>cases rx;show SeqAt.EqAt.same _
  | bl b=>cases rx;show SeqAt.EqAt.none_bool b
  | int b=>let#[t,rfl]:=rx;show SeqAt.EqAt.none_int b t
  | str b=>let#[t,rfl]:=rx;show SeqAt.EqAt.none_str b t
  | _=>show absurd (show false=true from fx) Zu
 | bl a=>
  cases ry
  cases x with
  | non=>cases rx;show SeqAt.EqAt.bool_none a
  | bl b=>cases rx;show SeqAt.EqAt.bool_bool a b
  | int b=>let#[t,rfl]:=rx;show SeqAt.EqAt.bool_int a b t
  | str b=>let#[t,rfl]:=rx;show SeqAt.EqAt.bool_str a b t
  | _=>show absurd (show false=true from fx) Zu
 | int a=>
  let#[t',rfl]:=ry
  cases x with
  | non=>cases rx;show SeqAt.EqAt.int_none a t'
  | bl b=>cases rx;show SeqAt.EqAt.int_bool a t' b
  | int b=>let#[t,rfl]:=rx;show SeqAt.EqAt.int_int a t' b t
  | str b=>let#[t,rfl]:=rx;show SeqAt.EqAt.int_str a t' b t
  | _=>show absurd (show false=true from fx) Zu
 | str a=>
  let#[t',rfl]:=ry
  cases x with
  | non=>cases rx;show SeqAt.EqAt.str_none a t'
  | bl b=>cases rx;show SeqAt.EqAt.str_bool a t' b
  | int b=>let#[t,rfl]:=rx;show SeqAt.EqAt.str_int a t' b t
  | str b=>let#[t,rfl]:=rx;show SeqAt.EqAt.str_str a t' b t
  | _=>show absurd (show false=true from fx) Zu
 | _=>show absurd (show false=true from fy) Zu
def Hj (x:V) (u:Value):Bool:=match u with
 | .none=>Gw .non x
 | .bool b=>Gw (.bl b) x
 | .int i _=>Gw (.int i) x
 | .str z _=>Gw (.str z) x
 | _=>false
theorem Aj (r:RelV y u) (f:gb y=true):Hj x u=Gw y x:=by
 cases y with
 | non=>cases r;rfl
 | bl b=>cases r;rfl
 | int i=>let#[t,rfl]:=r;rfl
 | str z=>let#[t,rfl]:=r;rfl
 | _=>show absurd (show false=true from f) Zu
theorem pL {x:V}: ∀ {xs:List V} {us:List Value},Vals xs us->xs.all gb=true->us.any (Hj x)=xs.any λ y=>Gw y x
 | _,_, .nil,_=>rfl
 | y::xs,u::us, .cons r t,f=>by
  rw [List.all_cons,Bool.and_eq_true] at f;rw [List.any_cons,List.any_cons,Aj r f.1,pL t f.2]
theorem lN {A:Around} {s:Shared} {x:V} {v:Value} (rx:RelV x v) (fx:gb x=true): ∀ {xs:List V} {us:List Value},Vals xs us->xs.all gb=true-> ∀u∈us,SeqAt.EqAt A s u v (Hj x u)
 | _,_, .nil,_=>λ u O=>by cases O
 | y::xs,u::us, .cons r t,f=>λ W O=>by
  rw [List.all_cons,Bool.and_eq_true] at f;rcases Zk.mp O with rfl | O
  .rw [Aj r f.1];show Ld r rx f.1 fx
  .exact lN rx fx t f.2 W O
def inV (x:V) (xs:List V):Bool:=xs.any λ y=>Gw y x
def QQ (K:W.Frag) (neg:Bool):R2:=λ x y H Q=> ∃p xs,y= .ref p/\(SqL K H p xs\/SqT K H p xs)/\gb x=true/\xs.all gb=true/\Q (.bl (if neg then !inV x xs else inV x xs)) H
theorem yI:gA X (compareOp .In) (QQ X.K false):=by
 intro ab s σ H x y v u Q I rx ry h;let#[p,xs,rfl,W,fx,fs,q]:=h
 cases ry;rcases W with W | W
 .obtain ⟨O,r,pl,hz⟩:=I.list W;refine SeqAt.in_listAt (Hj x) pl.isList (λ w Y=>lN rx fx r fs w (by simpa using Y)) #[.bl _,H,I,rfl,?_];rw [show O.toArray.any (Hj x)=O.any (Hj x) by simp,pL r fs];show q
 .obtain ⟨O,r,pl,hz⟩:=I.tuple W;refine SeqAt.in_tupleAt (Hj x) pl (λ w Y=>lN rx fx r fs w (by simpa using Y)) #[.bl _,H,I,rfl,?_];rw [show O.toArray.any (Hj x)=O.any (Hj x) by simp,pL r fs];show q
theorem pM:bG X (.type "list") (λ xs H Q=> ∃p ys,xs=[.ref p]/\(SqL X.K H p ys\/SqT X.K H p ys)/\ ∀l,H l=none->Q (.ref l) (upd H l (.lst ys))):=by
 intro ab s σ H xs us Q I r h;let#[p,ys,rfl,hq,q]:=h;let#[u,rfl,rx]:=vals1 r
 cases rx;have fin: ∀ (O:List Value),Vals ys O->ys.length<=sizeLine-> ∀ (h':Heap) (W:Nat),(∀b o',s.heap.get? b=some o'->h'.get? b=some o')->
   h'.get? s.heap.objs.size=some { cls:= .type "list",dict:=none,data:= .seq O.toArray W,slots:= ([].toArray) }->EP X ab σ Q (.ref s.heap.objs.size) { s with heap:=h' }:=λ O Y hz h' W kp e=>
  #[.ref s.heap.objs.size,_,I.laid (t':=s.toks) kp (Zm _) (show ObjOk X.prog X.w _ h' _ (.lst ys) from #[hz,O,W,Y,e]),rfl,q _ (I.hok.fresh (Zm _))]
 rcases hq with hq | hq
 .obtain ⟨O,Y,pl,hz⟩:=I.list hq;have ac:=Y.length;let#[o,ho,hc,n,hd]:=pl.isList;show call_list_seq p (.inl rfl) ho hc hd (λ h' W kp e=>fin O Y hz h' W kp e) (by simp only [Zy]<;>rfl')
 .obtain ⟨O,Y,pl,hz⟩:=I.tuple hq;have ac:=Y.length;let#[o,ho,hc,n,hd]:=pl;show call_list_seq p (.inr rfl) ho hc hd (λ h' W kp e=>fin O Y hz h' W kp e) (by simp only [Zy]<;>rfl')
theorem nu:bG X (.type "tuple") (λ xs H Q=> ∃p ys,xs=[.ref p]/\((SqL X.K H p ys/\ ∀l,H l=none->Q (.ref l) (upd H l (.tup ys)))\/(SqT X.K H p ys/\Q (.ref p) H))):=by
 intro O s σ H xs us Q I r h;let#[p,ys,rfl,h]:=h;let#[u,rfl,rx]:=vals1 r
 cases rx;rcases h with ⟨hq,q⟩ | ⟨hq,q⟩
 .obtain ⟨W,Y,pl,hz⟩:=I.list hq;have ab:=Y.length;refine call_tuple_list pl.isList (λ h' kp=> ?_) (by simp only [Zy]<;>rfl');have I1:Inv X O σ H { s with heap:=h' }:=I.kept (t':=s.toks) kp;have I2:Inv X O σ (upd H h'.objs.size (.tup ys)) { s with heap:=h'.push { cls:= .type "tuple",data:= .seq W.toArray } }:=
   I1.laid (t':=s.toks) (λ b o e=>Zd _ e) (Zm _) (show ObjOk X.prog X.w _ _ _ (.tup ys) from #[hz,W,Y,IsTup.new _ _])
  show#[.ref h'.objs.size,_,I2,rfl,q _ (I1.hok.fresh (Zm _))]
 .obtain ⟨W,Y,pl,hz⟩:=I.tuple hq;show call_tuple_same pl #[.ref p,H,I,rfl,q]
def Le (K:W.Frag) (T:String) (x:V) (H:Hp):Prop:=match x with
 | .str _=>T="str"
 | .int _=>T="int"
 | .ref p=>(T="list"/\ ∃xs,SqL K H p xs)\/(T="tuple"/\ ∃o,K.lookup p=some o/\o.cls= .type "tuple"/\o.dict=none)\/
   (T="dict"/\((∃kvs,H p=some (.dK kvs))\/ ∃kvs,H p=some (.dT kvs)))\/(T="set"/\ ∃S n,H p=some (.set S n))
 | _=>False
theorem Ak {s:Shared} (I:Inv X pins σ H s) (r:RelV x v) (ty:Le X.K T x H):
  s.TypeIs v T/\ ∀a,v= .ref a-> ∃ob,s.heap.get? a=some ob/\ob.dict=none:=by
 cases x with
 | str z=>
  let#[t,rfl]:=r
  cases (show T="str" from ty);show#[typeIs_str s z t,λ _ e=>nomatch e]
 | int i=>
  let#[t,rfl]:=r
  cases (show T="int" from ty);show#[typeIs_int s i t,λ _ e=>nomatch e]
 | ref p=>
  cases r;rcases ty with ⟨rfl,xs,hq⟩ | ⟨rfl,o,hk,hc,Y⟩ | ⟨rfl,hk⟩ | ⟨rfl,S,n,hk⟩
  .obtain ⟨ab,_,pl,_⟩:=I.list hq;refine#[pl.isList.typeIs,λ a e=> ?_]
   cases e;let#[o,n,e,c,Y,_]:=pl;show#[o,e,Y]
  .refine #[#[o,I.kIn p o hk,hc],λ a e=> ?_]
   cases e;show#[o,I.kIn _ o hk,Y]
  .have z: ∃o,s.heap.get? p=some o/\o.ExactDict:=by
    rcases hk with ⟨kvs,hk⟩ | ⟨kvs,hk⟩
    .obtain ⟨_,_,_,_,o,_,_,e,O,_⟩:=I.hok p _ hk;show#[o,e,O]
    .obtain ⟨_,_,_,_,o,_,_,e,O,_⟩:=I.hok p _ hk;show#[o,e,O]
   let#[o,e,O]:=z;refine#[#[o,e,O.1],λ a W=> ?_]
   cases W;show#[o,e,O.2.1]
  .obtain ⟨o,_,_,_,e,O,_⟩:=I.hok p _ hk;refine#[#[o,e,O.1],λ a W=> ?_]
   cases W;show#[o,e,O.2.1]
 | _=>show False.elim ty
def Hk (K:W.Frag) (T:String) (r:V->List V->Hp->VK->Prop) (to:TE):TE:=λ σ H Q=>to σ H λ x H1=>Le K T x H1/\r x [] H1 Q
def uz (K:W.Frag) (T:String) (r:V->List V->Hp->VK->Prop) (to:TE) (t:TA):TE:=λ σ H Q=>to σ H λ x H1=>Le K T x H1/\t σ H1 λ xs H2=>r x xs H2 Q
variable {o e:Expr} {es:List Expr} {to:TE} {t:TA} {name:Str} {apos cpos:Pos} {T id:String} {r:V->List V->Hp->VK->Prop}
theorem Lf (pa:PlainAttrs T) (slot:Slot T name id) (hty:typeOf (.builtin id)=pure (.type "method_descriptor")) (hm:Uy X id r) (ho:PE X o to)
  (hbase:attributeBase o name X.env (eval o X.env)=eval o X.env:=by rfl) (hline:(apos.endLine==cpos.line)=true:=by rfl):PE X (.Call (.Attribute o name apos) [] [] cpos) (Hk X.K T r to):=by
 intro O s W H Q I h;refine wpAny_Call_method0_late hbase hline (aW (ho O s W H _ I h) λ v s1 ⟨x,H1,I1,Y,ty,q1⟩=> ?_);let#[h1,h2]:=Ak I1 Y ty;show#[T,id,pa,slot,hty,h1,h2,Calls.callWith_builtin rfl (PySem.evalArgs_none (hm O s1 W H1 x [] v [] Q I1 Y .nil q1))]
theorem QR (pa:PlainAttrs T) (slot:Slot T name id) (hty:typeOf (.builtin id)=pure (.type "method_descriptor")) (hm:Uy X id r) (ho:PE X o to) (ha:PA X (e::es) t)
  (hbase:attributeBase o name X.env (eval o X.env)=eval o X.env:=by rfl)
  (hfew:((backTo cpos (starEach (e::es) X.env)).all (λ x=> !x.1)&&(backToKw cpos (keywordEach [] X.env)).all (λ x=>x.1.isSome)
   &&decide ((e::es).length+([]:List Keyword).length+(if ([]:List Keyword).isEmpty then 0 else 1)<30))=true:=by rfl)
  (hline:(apos.endLine==cpos.line)=true:=by rfl) (hs:starEach (e::es) X.env=(false,eval e X.env)::starEach es X.env:=by rfl) (hplain:(backTo cpos (starEach es X.env)).any (·.1)=false:=by rfl):
  PE X (.Call (.Attribute o name apos) (e::es) [] cpos) (uz X.K T r to t):=by
 intro O s W H Q I h;refine wpAny_Call_method_late hbase hfew hline rfl (aW (ho O s W H _ I h) λ v s1 ⟨x,H1,I1,r1,ty,q1⟩=> ?_);let#[h1,h2]:=Ak I1 r1 ty;refine#[T,id,pa,slot,hty,h1,h2,?_];have Y:=ha cpos O s1 W H1 _ I1 q1;rw [hs] at Y ⊢;refine Calls.callWith_builtin (by change(false||(backTo cpos (starEach es X.env)).any (·.1))=false;rw [hplain]<;>rfl) (Calls.evalArgs_plain ?_);show aW Y λ us s2 ⟨vs,H2,I2,r2,q2⟩=>hm O s2 W H2 x vs v us Q I2 r1 r2 q2
end
def UG (X:Cx) (id:String) (r:V->List V->Hp->VK->Prop):Prop:=
 ∀ (pins:List (Addr×Obj)) (s:Shared) (σ:St) (H:Hp) (x:V) (xs:List V) (v:Value) (us:List Value) (Q:VK),Inv X pins σ H s->RelV x v->Vals xs us->r x xs H Q->
  wpAny (model X.prog X.w) X.A (call (.builtin id) (v::us)) (EP X pins σ Q) X.xe s
theorem Vals.one: ∀ {x:V} {us:List Value},Vals [x] us-> ∃u,us=[u]/\RelV x u
 | _,_, .cons r .nil=>#[_,rfl,r]
theorem Vals.two: ∀ {x y:V} {us:List Value},Vals [x,y] us-> ∃u v,us=[u,v]/\RelV x u/\RelV y v
 | _,_,_, .cons r (.cons q .nil)=>#[_,_,rfl,r,q]
theorem Vals.zero: ∀ {us:List Value},Vals [] us->us=[]
 | _, .nil=>rfl
theorem Vals.dropLast {xs:List V} (h:Vals xs us):Vals xs.dropLast us.dropLast:=by
 induction h with
 | nil=>show .nil
 | cons r t ih=>
  cases t with
  | nil=>show .nil
  | cons q t'=>show .cons r ih
theorem Vals.eraseIdx: ∀ {xs:List V} {us:List Value} (i:Nat),Vals xs us->Vals (xs.eraseIdx i) (us.eraseIdx i)
 | _,_,_, .nil=> .nil
 | _,_,0, .cons _ t=>t
 | _,_,i+1, .cons r t=> .cons r (Vals.eraseIdx i t)
theorem uA {α:Type} (l:List α):l.eraseIdx (l.length-1)=l.dropLast:=by
 induction l with
 | nil=>rfl
 | cons a r ih=>
  cases r with
  | nil=>rfl
  | cons b r=>
   have e:(a::b::r).length-1=((b::r).length-1)+1:=by
    have W:(a::b::r).length=r.length+2:=rfl;have O:(b::r).length=r.length+1:=rfl;rfl'
   rw [e,List.eraseIdx_cons_succ,ih];all_goals rfl
theorem nZ {α:Type}: ∀ (l:List α) (i:Nat),(l.eraseIdx i).length<=l.length
 | [],_=>Zm _
 | _::_,0=>Nat.le_succ _
 | _::r,i+1=>Nat.succ_le_succ (nZ r i)
section
variable {X:Cx} {pins:List (Addr×Obj)} {σ:St} {H:Hp} {s:Shared} {l b:Addr} {xs ys zs:List V}
theorem Inv.lset {t':Nat} (I:Inv X pins σ H s) (hH:H l=some (.lst xs))
  (e:s.heap.get? l=some { cls:= .type "list",data:= .seq its.toArray n }) (hf:f its.toArray=its'.toArray) (hv:Vals ys its') (hz:ys.length<=sizeLine):
  Inv X pins σ (upd H l (.lst ys)) { s with heap:=s.heap.update l (Obj.mapSeq f),toks:=t' }:=by
 have q:=PySem.IsL.update e f;rw [hf] at q;refine I.write (x:=l) (e:=l) (by rw [hH];show trivial) (.inl rfl) (λ Y u W O=>(Heap.get?_update_other s.heap (Obj.mapSeq f) (Ne.symm W)).trans O) #[_,q] ?_;show#[hz,its',_,hv,q]
theorem Inv.lstM (I:Inv X pins σ H s) (hH:H l=some (.lst xs)):xs.length<=sizeLine/\ ∃ (its:List Value) (n:Nat),Vals xs its/\xs.length=its.length/\s.heap.get? l=some { cls:= .type "list",data:= .seq its.toArray n }:=by
 let#[z,its,n,r,e]:=I.hok l _ hH;show#[z,its,n,r,r.length,e]
theorem Al (h:n<=sizeLine):Builtin.List.listTooLong n=false:=by
 unfold Builtin.List.listTooLong;show Zv ()
end
section
variable {X:Cx}
def cT:V->List V->Hp->VK->Prop:=λ x vs H Q=> ∃l xs y,x= .ref l/\vs=[y]/\H l=some (.lst xs)/\xs.length<sizeLine/\Q .non (upd H l (.lst (xs++[y])))
theorem yJ:UG X "list.append" cT:=by
 intro W s σ H x vs v us Q I rx rv h;let#[l,xs,y,rfl,rfl,Y,hz,q]:=h
 cases rx;let#[u,rfl,ru]:=rv.one;let#[z,O,n,r,hl,e]:=I.lstM Y;refine call_meets F.slot_list_append #[_,e,rfl] F.entry_list_append (F.args_list_append_2 _ _) (PySem.list_append l O.toArray n u (by rw [Zy];rfl')) #[e,?_];refine#[.non,_,I.lset (its':=O++[u]) Y e (by simp) (r.append (.cons ru .nil)) ?_,rfl,q];rw [Zq,Yf];rfl'
def kI:V->List V->Hp->VK->Prop:=λ x vs H Q=> ∃l b xs zs,x= .ref l/\vs=[.ref b]/\H l=some (.lst xs)/\H b=some (.lst zs)/\xs.length+zs.length<=sizeLine/\Q .non (upd H l (.lst (xs++zs)))
theorem oh:UG X "list.extend" kI:=by
 intro ab s σ H x vs v us Q I rx rv h;let#[l,b,xs,zs,rfl,rfl,hH,hB,hz,q]:=h
 cases rx;let#[u,rfl,ru]:=rv.one
 cases ru;let#[z,W,n,r,hl,e]:=I.lstM hH;let#[z2,O,n2,r2,ac,e2]:=I.lstM hB;have hsz:W.toArray.size+O.toArray.size<=sizeLine:=by rw [Zy,Zy];rfl'
 have Y: ¬ (!W.toArray.isEmpty&&Builtin.List.listTooLong (W.toArray.size+O.toArray.size))=true:=by
  rw [Al hsz,Bool.and_false];show Zu
 refine call_meets F.slot_list_extend #[_,e,rfl] F.entry_list_extend (F.args_list_extend_2 _ _)
  (AutoSeq1.list_extend_list_list_0 l W.toArray n b O.toArray n2 Y (by rw [Zy];rfl') ()) #[e,e2,?_]
 refine#[.non,_,I.lset (its':=W++O) hH e (by simp) (r.append r2) ?_,rfl,q];rw [Zq];rfl'
def Lg:V->List V->Hp->VK->Prop:=λ x vs H Q=> ∃l xs y,x= .ref l/\vs=[]/\H l=some (.lst xs)/\xs[xs.length-1]? =some y/\Q y (upd H l (.lst xs.dropLast))
theorem Lh:UG X "list.pop" Lg:=by
 intro ab s σ H x vs v us Q I rx rv h;let#[l,xs,y,rfl,rfl,hH,hy,q]:=h
 cases rx;have Y:=rv.zero;subst Y;let#[z,O,n,r,hl,e]:=I.lstM hH;let#[u,hu,ru]:=r.get hy;have W:O.toArray[O.toArray.size-1]? =some u:=by
  change O.toArray[O.length-1]? =some u;rw [<- Array.getElem?_toList,<- hl];show hu
 refine call_meets F.slot_list_pop #[_,e,rfl] F.entry_list_pop (F.args_list_pop_1 _) (MeetsSeq.list_pop_last l O.toArray n u W (by rw [Zy];rfl')) #[e,?_];refine#[y,_,I.lset (its':=O.dropLast) hH e ?_ r.dropLast ?_,ru,q]
 .show O.toArray.eraseIdxIfInBounds (O.toArray.size-1)=O.dropLast.toArray;rw [Zy,List.eraseIdxIfInBounds_toArray,uA]
 .rw [List.length_dropLast];rfl'
def uB:V->List V->Hp->VK->Prop:=λ x vs H Q=> ∃l xs i k y,x= .ref l/\vs=[.int i]/\H l=some (.lst xs)/\ -(2^63)<=i/\i<2^63/\seqIndex? i xs.length=some k/\xs[k]? =some y/\Q y (upd H l (.lst (xs.eraseIdx k)))
theorem Am:UG X "list.pop" uB:=by
 intro Y s σ H x vs v us Q I rx rv h;let#[l,xs,i,k,y,rfl,rfl,hH,h1,h2,hk,hy,q]:=h
 cases rx;let#[u,rfl,ru]:=rv.one;let#[t,rfl]:=ru;let#[z,O,n,r,hl,e]:=I.lstM hH;let#[w,hw,W]:=r.get hy;refine call_meets F.slot_list_pop #[_,e,rfl] F.entry_list_pop (F.args_list_pop_2 _ _)
  (MeetsSeq.list_pop_at l O.toArray n i t k w (fitsIndex_both h1 h2) (by rw [Zy,<- hl];show hk) (by rw [<- Array.getElem?_toList];show hw) (by rw [Zy];rfl')) #[e,?_]
 refine#[y,_,I.lset (its':=O.eraseIdx k) hH e ?_ (r.eraseIdx k) ?_,W,q]
 .show O.toArray.eraseIdxIfInBounds k=(O.eraseIdx k).toArray;rw [List.eraseIdxIfInBounds_toArray]
 .have:=nZ xs k;rfl'
end
end L2
namespace Att
open PySem PySem.W PySem.Calls PyProof.Rows
variable {n:Nat} {d:DefRec} {q:Program} {loose:List Str} {args:List WData} {vals:List Value} {YP:World->Heap->Prop} {XP:(Str->Option Value)->Heap->Prop}
theorem jX {P:Params} {h:Heap}: ∀ (ns:List Int) (vs:List Value),WellAll P h vs (ns.map WData.int)->IntsAre vs ns:=by
 intro ns;induction ns with
 | nil=>
  intro vs w;rw [List.map_nil] at w
  cases w;show .nil
 | cons n ns ih=>
  intro vs w;rw [Zl] at w
  cases w with
  | cons a b=>
   cases a;show .cons _ _ (ih _ b)
theorem yK {l:OpenLaw} (hn:l.most=some n) {P:Params} {h:Heap}
  (hpre:l.row.toRowW.claim.pre args=true) (hwl:WellAll P h vals args):
  ∃a vs ns,vals=[Value.ref a]/\args=[WData.list (ns.map WData.int)]/\h.get? a=some { cls:= .type "list",data:= .seq vs.toArray }/\IntsAre vs ns/\ns.length<=n:=by
 have ab:WShape.hasAll [] args [.list .int]=true:=(pre_splitW hpre).1;have hc:l.pre.holds [] { args:=args }=true:=(pre_splitW hpre).2;let#[d,r,rfl,h1,h2]:=hasAllW_cons ab;obtain rfl:=hasAllW_nil h2;let#[xs,rfl,h3]:=hasW_list h1;let#[ns,rfl]:=items_int h3;have O:ns.length<=n:=by
  unfold OpenLaw.pre at hc;have W:(WTm.not (.lt (.lit (.int (n:Int))) (.len (.arg 0)))).holds [] { args:=[.list (ns.map .int)] }=true:=by
   have W:=(holds_andW hc).1;rw [hn] at W;show W
  have Y:=condW_of W (w_not (w_lt w_lit (w_len_list (w_arg rfl))));rw [Qr] at Y;refine Nat.le_of_not_lt λ q=> ?_
  have q':(n:Int)<((ns.length:Nat):Int):=()
  first
   | (rw [Zz q'] at Y;show absurd Y (by decide))
   | (simp at Y;rfl')
 cases hwl with
 | cons w1 w2=>
  cases w2
  cases w1 with
  | list ho hall=>show#[_,_,ns,rfl,rfl,ho,jX ns _ hall,O]
theorem yL (l:OpenLaw) (args:List WData):l.row.toRowW.claim.post args (.bool true) args=true:=
 postW_of (r:=l.row.toRowW) (X:=(true==true))
  (show WShape.has [] (.bool true) .bool=true by first | rfl | decide | simp [WShape.has,WShape.arms,WShape.armsAll])
  (show(WTm.eq .res (.lit (.bool true))).value [] { args:=args,res:=some (.bool true),after:=args }=some (.bool (true==true)) from w_eq_bool (w_res rfl) w_lit) rfl
theorem rM {l:OpenLaw}
  (hn:l.most=some n) (hdf:d.params.defaults=[])
  (call: ∀ (w:World) (s₀ s₁:Shared) (mg mb:Str->Option Value) (fa:Addr) (o:Obj) (pm cd W:Value) (a:Addr) (vs:List Value) (ns:List Int),
   Ground q loose [] XP w s₀ mg mb s₁.heap->YP w s₁.heap->
   s₁.heap.get? fa=some o->o.data= .func (docDef d.name d.params d.body d.scope pm cd W)->s₁.heap.CodeRec cd d.name->mg d.name=some (.ref fa)->
   s₁.heap.get? a=some { cls:= .type "list",data:= .seq vs.toArray }->IntsAre vs ns->ns.length<=n->s₁.gens= ([].toArray)->
   codeAny (model l.prog w) callerA (.call (.ref fa) #[[.ref a],[]]) (λ r s'=>r= .ok (.ret (.bool true))/\OldK s₁.heap s'.heap/\s'.os=s₁.os/\AllBare s'.gens) s₁):
  WalkO q loose XP YP l.row.toRowW d [] (λ f vs=>PySem.call f vs):=by
 intro w s₀ s₁ mg mb G Y fa o pm cd W dV kV ho hd af hD ae hg args ai as ac ah al ag am;obtain rfl:dV= .none:=Dflts.none hD hdf;obtain rfl:kV= .none:=Dflts.noKw hD;let#[a,vs,ns,rfl,rfl,ab,O,ad]:=yK hn ac ag;refine enter_call (codeAny_mono (call w s₀ s₁ mg mb fa o pm cd W a vs ns G Y ho (fd_plain hd) af ae ab O ad hg) λ r s' hq=> ?_);let#[rfl,h2,h3,h4]:=hq;show#[.inl #[.bool true, .bool true,[],rfl,λ _=>rfl, .bool true,yL l _,λ _=>#[List.Pairwise.nil,λ _ hm=>(nomatch hm)]],h2,h3,h4]
section
variable {prog:Program} {w:World} {A:Around} {E:Value->Shared->Prop} {s:Shared} {K:Frag}
def ledger (h:Heap) (L d:Addr):List (Addr×Obj):=(List.range h.objs.size).filterMap λ a=>if a=L\/a=d then none else (h.get? a).map λ o=>(a,o)
end
end Att
namespace L2
open PySem PySem.Spec PyProof.Rows
variable {y:V} {σ:St} {n:Nat} {H H':Hp} {h':Heap} {pos:Pos} {st:Stmt} {w:World} {A:Around} {d:DefRec} {s₁:Shared} {a b f:Addr} {qual x:Str} {fd:FuncData} {CX:World->zG} {sp:World->Sp} {d' oc u:Value} {an:Option Addr} {loose:List Str} {prog q:Program} {trs:List (TE×TE)} {values:List Expr} {YP:World->Heap->Prop} {pins:List (Addr×Obj)} {ks:List (Option Expr)} {kvs:List (List Key×V)} {E Q:Value->Shared->Prop} {osl:Array (Option Value)} {XP:(Str->Option Value)->Heap->Prop}
theorem jx: ∀ {vs:List Value} {ns:List Int},IntsAre vs ns->Vals (ns.map V.int) vs
 | _,_, .nil=> .nil
 | _,_, .cons n t h=> .cons #[t,rfl] (jx h)
def Only (H:Hp):Prop:= ∀b,H b=none\/ ∃o xs,H b=some (.frz o (.lst xs))
theorem An {P:Program} {K:W.Frag} {mg mb:Str->Option Value} {CX:zG} {k:Nat} {fa:Addr} {sp:Sp} {vs:List Value} {ns:List Int}
  (KX:K.In s₁.heap) (hns:s₁.heap.Ns mainGlobals mg) (Y:s₁.heap.Ns builtinsNs mb) (hbb: ∀x:Str,x≠"__name__"->mb x=bootBuiltins x) (hlim:s₁.heap.NoLimit) (hg:s₁.gens= ([].toArray))
  (ha:s₁.heap.get? a=some { cls:= .type "list",data:= .seq vs.toArray }) (hi:IntsAre vs ns) (hl:ns.length<=sizeLine) (hr:Room k callerA)
  (F: ∀base:Heap,K.In base->base.Ns mainGlobals mg->FnOk P w K mg base CX k fa fd [x] sp) (hbind: ∀ (s:Shared) (u:Value),BindsTo s fd #[[u],[]] [(x,u)])
  (hsp: ∀H:Hp,Only H->SqL K H a (ns.map V.int)->sp [.ref a] H (λ v _=>v= .bl true) λ _ _ _=>False)
  (hCX: ∀H e s',CX [] H s₁ (λ _ _ _=>False) e s'->False):
  codeAny (model P w) callerA (.call (.ref fa) #[[.ref a],[]]) (λ r s'=>r= .ok (.ret (.bool true))/\OldK s₁.heap s'.heap/\s'.os=s₁.os/\AllBare s'.gens) s₁:=by
 have rv:=jx hi;have ae:=hi.length;have ac : ∀ H : Hp, Only H -> SqL K H a (ns.map V.int) -> HOk P w H s₁.heap -> (∀ b, H b ≠ none -> b = a) -> (H a ≠ none -> K.lookup a = none) ->
   codeAny (model P w) callerA (.call (.ref fa) #[[.ref a],[]]) (λ r s'=>r= .ok (.ret (.bool true))/\OldK s₁.heap s'.heap/\s'.os=s₁.os/\AllBare s'.gens) s₁:=by
  intro H hO hS ag hA hK;have O: ∀ {b:Addr} {o:Obj},s₁.heap.get? b=some o->H b=none->(pD s₁.heap H).get? b=some o:=λ e n=>zK e n
  have ai: ∀ {b:Addr} {o:Obj} {es:Array DictEntry} {ep:Nat},s₁.heap.get? b=some o->o.data= .dict es ep->H b=none:=λ {b o es ep} e d=>by
   cases q:H b with
   | none=>rfl
   | some u=>
    have e':b=a:=hA b (by rw [q];simp);subst e';rw [ha] at e;cases e;have d':Data.seq vs.toArray _=Data.dict es ep:=d
    cases d'
  have ab: ∀ {b:Addr} {m:Str->Option Value},s₁.heap.Ns b m->(pD s₁.heap H).Ns b m:=λ {b m} ⟨o,es,ep,e,d,r⟩=>#[o,es,ep,O e (ai e d),d,r]
  have ah:K.In (pD s₁.heap H):=λ b o e=>O (KX b o e) (by
   cases q:H b with
   | none=>rfl
   | some u=>
    have e':b=a:=hA b (by rw [q];simp);subst e';rw [hK (by rw [q];simp)] at e;cases e)
  have hM:Mod K mg (pD s₁.heap H):=#[ah,ab hns,#[mb,ab Y,hbb],let ⟨mc,h1,h2⟩:=hlim;#[mc,ab h1,h2]];have e0:Env0 P w K mg (pD s₁.heap H) callerA [] s₁ H:=#[rfl,hM,λ b o e=>GC e,Nat.le_of_eq (yu _ _),trivial,λ b Y=>absurd (show b∈([]:List Addr) from Y) (by simp),ag, .of_eq hg];refine codeAny_mono ((F _ ah (ab hns)).run callerA [] s₁ H #[[.ref a],[]] [.ref a] [.ref a] _ _ hr e0 (hbind s₁ (.ref a)) (.cons rfl .nil) (hsp H hO hS)) λ r s' h=> ?_
  cases r with
  | error e=>show(hCX H e s' h).elim
  | ok fl=>
   cases fl with
   | next=>show False.elim h
   | brk=>show False.elim h
   | cont=>show False.elim h
   | ret u=>
    let#[v,H',os,af,un,ad,r',q]:=h;have q':v= .bl true:=q;subst q';obtain rfl:u=Value.bool true:=r';refine#[rfl,OldK.of_keep λ b o e=> ?_,os,af]
    cases q:H b with
    | none=>show un.keep b o e q (by intro z;show absurd (show b∈([]:List Addr) from z) (by simp)) (by simp)
    | some u=>
     rcases hO b with z | ⟨ob,xs,z⟩
     .rw [q] at z;cases z
     .have z2:=un.frzs b ob _ z;let#[e1,_]:=ag b _ z;let#[e2,_]:=ad b _ z2;rw [e] at e1;cases e1;show e2
 cases hk:K.lookup a with
 | some o=>
  have e:=KX a o hk;rw [ha] at e
  cases e;refine ac (λ _=>none) (λ _=> .inl rfl) (.inr #[_,vs.toArray,_,hk,rfl,rfl,rfl,by rw [Zy,ae];show hl,by simpa using rv]) (λ b u z=>by have z':(none:Option HO)=some u:=z;cases z') (λ b z=>absurd rfl z) λ z=>absurd rfl z
 | none=>
  refine ac (λ b=>if b=a then some (.frz { cls:= .type "list",data:= .seq vs.toArray } (.lst (ns.map V.int))) else none) (λ b=> ?_) (.inl (.inr #[{ cls:= .type "list",data:= .seq vs.toArray },if_pos rfl])) (λ b u z=> ?_) (λ b z=> ?_) λ _=>hk
  .by_cases Y:b=a
   .exact .inr #[_,_,if_pos Y]
   .exact .inl (if_neg Y)
  .by_cases Y:b=a
   .have z':=(if_pos Y).symm.trans z
    cases z';subst Y;show#[ha,by rw [Qr];show hl,vs,_,rv,ha]
   .have z':=(if_neg Y).symm.trans z
    cases z'
  .by_cases Y:b=a
   .exact Y
   .exact absurd (if_neg Y) z
abbrev KOf {K:W.Frag} {h:Heap} (_:K.In h):W.Frag:=K
theorem Hl {l:W.OpenLaw} {k:Nat} {K:Params->W.Frag}
  (hn:l.most=some n) (hn2:n<=sizeLine) (hdf:d.params.defaults=[]) (hr:Room k callerA)
  (hY: ∀ (w:World) (h:Heap),YP w h->(K w.params).In h)
  (F: ∀ (w:World) (mg:Str->Option Value) (fa:Addr) (h:Heap),(K w.params).In h->h.Ns mainGlobals mg->mg d.name=some (.ref fa)->
   ∃fd:FuncData,(∀ (s:Shared) (u:Value),BindsTo s fd #[[u],[]] [(x,u)])/\
    ∀base:Heap,(K w.params).In base->base.Ns mainGlobals mg->FnOk l.prog w (K w.params) mg base (CX w) k fa fd [x] (sp w))
  (hsp: ∀ (w:World) (H:Hp) (a:Addr) (ns:List Int),ns.length<=n->Only H->SqL (K w.params) H a (ns.map V.int)->sp w [.ref a] H (λ v _=>v= .bl true) λ _ _ _=>False)
  (hCX: ∀ (w:World) (H:Hp) (s:Shared) (e:Value) (s':Shared),CX w [] H s (λ _ _ _=>False) e s'->False):
  PySem.W.WalkO q loose XP YP l.row.toRowW d [] (λ f vs=>PySem.call f vs):=by
 refine Att.rM hn hdf λ w af ad mg mb fa o pm cd ah a vs ns G Y ho hd ag ae ac ab O hg=> ?_
 have KX:=hY w _ Y;let#[fd,hb,hF]:=F w mg fa _ KX G.T.g ae;show An KX G.T.g G.T.b G.T.builtins G.T.nolimit hg ac ab (Yl O hn2) hr hF hb (λ H hO hS=>hsp w H a ns O hO hS) λ H e s'=>hCX w H ad e s'
abbrev Hm:zG:=λ _ _ _ _ _ _=>False
abbrev E0:XK:=λ _ _ _=>False
theorem Jw {X:Cx}:eQ Hm X E0:=λ _ _ _ _ _ _ _ h=>h.elim
structure Fun (K:W.Frag) (x qual:Str) (st:Stmt) (f:Addr) (fd:FuncData):Prop where
 ex: ∃ (oc:Value) (od:Option Addr) (kV doc pm:Value) (an:Option Addr) (cdv ct:Value) (osl:Array (Option Value)),
  fd=W.fnOf x qual (cg st) (bL st) (au st) .none kV doc pm an cdv ct/\K.lookup f=some #[oc,od, .func fd,osl]/\W.codeIn K cdv qual=true
 kp:W.keepIn K (.ref f)=true
section
variable {P:Program} {w:World} {K:W.Frag} {mg:Str->Option Value} {base:Heap}
theorem Fun.ok {N ps:List Str} {k:Nat} {sp:Sp} (F:Fun K x qual st f fd) (S:FnScope N ps (au st)) (len: ∀vs H Q E,sp vs H Q E->vs.length=ps.length)
  (hbody: ∀ (O:Value) (A:Around) (outer:List Env) (s:Shared) (H:Hp) (vs:List V) (Q:VK) (E:XK),Room k (A.deeper (envOfC qual (au st) s.heap.objs.size f O))->sp vs H Q E->
   ∃t,PSs (iu Hm P w K mg base N qual (au st) f O A outer s H E).nox (bL st) t/\t { nx:=λ _ H'=>Q .non H',rt:=Q } (start N vs) H):FnOk P w K mg base Hm (k+1) f fd ps sp:=by
 let#[oc,od,kV,ac,pm,an,O,ct,ab,rfl,lk,Y]:=F.ex;refine Ab lk Y S len λ A outer s H vs Q E hr W=> ?_
 let#[t,h,q]:=hbody O A outer s H vs Q E hr W;show#[t,h.nox,q]
theorem Fun.binds {ps:List Str} (F:Fun K x qual st f fd)
  (h: ∀ (kV Y pm:Value) (an:Option Addr) (O ct:Value) (us:List Value),us.length=ps.length->bindArgs (W.fnOf x qual (cg st) (bL st) (au st) .none kV Y pm an O ct) #[us,[]]=pure (ps.zip us)):Binds K fd ps []:=by
 let#[oc,od,kV,Y,pm,an,O,ct,ac,rfl,lk,ab]:=F.ex;show .all (h kV Y pm an O ct)
theorem lO {od:Option Addr} {kV doc pm cdv ct:Value} (l:K.lookup f=some #[oc,od, .func (W.fnOf x qual (cg st) (bL st) (au st) .none kV doc pm an cdv ct),osl])
  (c:W.codeIn K cdv qual=true) (k:W.keepIn K (.ref f)=true):Fun K x qual st f (W.fnOf x qual (cg st) (bL st) (au st) .none kV doc pm an cdv ct):=#[#[oc,od,kV,doc,pm,an,cdv,ct,osl,rfl,l,c],k]
end
theorem bY {k:Nat} (hr:Room k A):A.units+1<cLine:=Yj (Nat.add_le_add_left (by decide:1<=64) _) hr.units
theorem yM (h:n<=1000):n<sizeLine:=Yj h (by decide)
section
variable {X:Cx}
theorem pv (i:Nat) {x:Str} {pos:Pos} (hN:X.N[i]? =some x:=by rfl) (hv:Ux X.env.scope x:=by first | show Or.inl rfl | show Or.inr (Or.inl rfl) | show Or.inr (Or.inr rfl)) (hd:(x==("__debug__":Str))=false:=by decide)
  (hcd:(x==("__classdict__":Str))=false:=by decide):PE X (.Name x pos) (aj i):=Kd hN hv hd hcd
end
theorem Ao {A B:Prop} (h:B):if false=true then A else B:=by
 rw [if_neg Zu];show h
theorem Aq {A B:Prop} (h:A):if true=true then A else B:=by
 rw [if_pos rfl];show h
def Same (H H':Hp):Prop:= ∀b o,H b=some o->H' b=some o
theorem Same.refl (H:Hp):Same H H:=λ _ _ h=>h
theorem Same.trans {H1 H2:Hp} (a:Same H H1) (b:Same H1 H2):Same H H2:=λ c o h=>b c o (a c o h)
theorem Same.free (e:Same H H') {l:Addr} (h:H' l=Option.none):H l=Option.none:=by
 cases q:H l with
 | none=>rfl
 | some o=>
  rw [e l o q] at h
  cases h
theorem Same.seq {K:W.Frag} {xs:List V} (e:Same H H') (h:SqL K H a xs):SqL K H' a xs:=by
 rcases h with (h | ⟨o,h⟩) | h
 .exact .inl (.inl (e _ _ h))
 .exact .inl (.inr #[o,e _ _ h])
 .exact .inr h
section
variable {κ:Type} [DecidableEq κ]
def bA (kvs:List (κ×V)) (k:κ):Option V:=(kvs.find? λ kv=>decide (kv.1=k)).map (·.2)
def putK (kvs:List (κ×V)) (k:κ) (v:V):List (κ×V):=
 if (kvs.any λ kv=>decide (kv.1=k))=true then kvs.map (λ kv=>if kv.1=k then (kv.1,v) else kv) else kvs++[(k,v)]
def cL (kvs:List (κ×V)) (k:κ):List (κ×V):=kvs.filter λ kv=>decide (kv.1≠k)
theorem bQ {p:κ×V} {r:List (κ×V)} {k:κ} (e:p.1=k):bA (p::r) k=some p.2:=by simp [bA,List.find?_cons,e]
theorem bI {p:κ×V} {r:List (κ×V)} {k:κ} (e: ¬p.1=k):bA (p::r) k=bA r k:=by simp [bA,List.find?_cons,e]
theorem j9 (k:κ): ∀kvs:List (κ×V),(kvs.any λ O=>decide (O.1=k))=(bA kvs k).isSome
 | []=>rfl
 | p::r=>by
  rw [List.any_cons];by_cases e:p.1=k
  .simp only [bQ e,Zz e,Bool.true_or,Option.isSome_some]
  .rw [bI e,Zv e,Bool.false_or];show j9 k r
theorem ou (k j:κ) (y:V): ∀kvs:List (κ×V),bA kvs k=none->bA (kvs++[(k,y)]) j=if j=k then some y else bA kvs j
 | [],_=>by
  by_cases e:k=j
  .rw [if_pos e.symm];show bQ (p:=(k,y)) e
  .rw [if_neg (λ z=>e z.symm)];show bI (p:=(k,y)) e
 | p::r,hn=>by
  rw [List.cons_append];have O: ¬p.1=k:=λ z=>by rw [bQ z] at hn;cases hn
  rw [bI O] at hn;have W:=ou k j y r hn;by_cases e:p.1=j
  .rw [bQ e,bQ e,if_neg (λ z=>O (e.trans z))]
  .rw [bI e,bI e,W]
theorem gB (kvs:List (κ×V)) (k:κ) (v:V):(putK kvs k v).length<=kvs.length+1:=by
 unfold putK;split
 .rw [Qr];rfl'
 .rw [Zq,Wp,List.length_nil];rfl'
theorem dM {kvs:List (κ×V)} {k:κ} (v:V) (h:bA kvs k=none):putK kvs k v=kvs++[(k,v)]:=by
 unfold putK;rw [j9,h];show if_neg (by decide)
theorem RelO.isSome_eq {o:Option V} {u:Option Value} (r:RelO o u):o.isSome=u.isSome:=by
 cases o with
 | none=>cases u with
  | none=>rfl
  | some _=>show(show False from r).elim
 | some _=>cases u with
  | none=>show(show False from r).elim
  | some _=>rfl
theorem RelO.getD {o:Option V} {u:Option Value} {d:V} (r:RelO o u) (rd:RelV d d'):RelV (o.getD d) (u.getD d'):=by
 cases o with
 | none=>cases u with
  | none=>show rd
  | some _=>show(show False from r).elim
 | some _=>cases u with
  | none=>show(show False from r).elim
  | some _=>show r
theorem KV.val {kvs:List (κ×V)} {vs:List (κ×Value)} (r:KV kvs vs) (k:κ):RelO (bA kvs k) (valueAt vs k):=by
 unfold KV at r;induction r with
 | nil=>show True.intro
 | @cons p q ps qs h t ih=>
  let#[W,Y]:=h;by_cases e:p.1=k
  .have O:q.1=k:=W.symm.trans e;have b:valueAt (q::qs) k=some q.2:=by simp [valueAt,List.find?_cons,O]
   rw [bQ e,b];show Y
  .have O: ¬q.1=k:=λ z=>e (W.trans z)
   have b:valueAt (q::qs) k=valueAt qs k:=by simp [valueAt,List.find?_cons,O]
   rw [bI e,b];show ih
theorem KV.any {kvs:List (κ×V)} {vs:List (κ×Value)} (r:KV kvs vs) (k:κ):(kvs.any λ O=>decide (O.1=k))=vs.any λ O=>decide (O.1=k):=by
 unfold KV at r;induction r with
 | nil=>rfl
 | cons h t ih=>rw [List.any_cons,List.any_cons,ih,h.1]
theorem KV.repl {kvs:List (κ×V)} {vs:List (κ×Value)} (r:KV kvs vs) (k:κ) (ry:RelV y u):
  KV (kvs.map λ O=>if O.1=k then (O.1,y) else O) (vs.map λ O=>if O.1=k then (O.1,u) else O):=by
 unfold KV at r ⊢;induction r with
 | nil=>show .nil
 | @cons p q ps qs h t ih=>
  rw [Zl,Zl];refine .cons ?_ ih;let#[W,Y]:=h;by_cases e:p.1=k
  .rw [if_pos e,if_pos (W.symm.trans e)];show#[W,ry]
  .rw [if_neg e,if_neg (λ z=>e (W.trans z))];show#[W,Y]
theorem KV.put {kvs:List (κ×V)} {vs:List (κ×Value)} (r:KV kvs vs) (k:κ) (ry:RelV y u):KV (putK kvs k y) (stored vs k u):=by
 unfold putK stored;rw [r.any k];by_cases e:(vs.any λ O=>decide (O.1=k))=true
 .rw [if_pos e,if_pos e];show r.repl k ry
 .rw [if_neg e,if_neg e];show Paired.snoc r #[rfl,ry]
theorem KV.keys {kvs:List (κ×V)} {vs:List (κ×Value)} (r:KV kvs vs):kvs.map (·.1)=vs.map (·.1):=by
 unfold KV at r;induction r with
 | nil=>rfl
 | cons h t ih=>rw [Zl,Zl,ih,h.1]
theorem KV.length {kvs:List (κ×V)} {vs:List (κ×Value)} (r:KV kvs vs):kvs.length=vs.length:=Paired.length r
theorem Ar (kvs:List (κ×V)) (k:κ):(cL kvs k).length<=kvs.length:=List.length_filter_le _ _
end
theorem oA {P:Program} {k:Key} (r:RelV (kV k) u):(aX P w).is k u=true:=by
 cases k with
 | inl i=>let#[t,e]:=(show ∃t,u=Value.int i t from r);subst e;show qY P w i t
 | inr x=>let#[t,e]:=(show ∃t,u=Value.str x t from r);subst e;show qZ P w x t
theorem oE {P:Program} {w:World}: ∀ {ks:List Key} {us:List Value},Vals (ks.map kV) us->ItemsAre (aX P w) ks us
 | [],_,r=>by rw [List.map_nil] at r;cases r;show .nil
 | k::ks,_,r=>by
  rw [Zl] at r
  cases r with
  | cons h t=>show .cons (oA h) (oE t)
abbrev KT (H:Hp):List (List Key×V)->List (List Key×Addr×Value)->Prop:=Paired λ p q=>p.1=q.1/\H q.2.1=some (.tup (p.1.map kV))/\RelV p.2 q.2.2
theorem KT.val {xs:List (List Key×Addr×Value)} (r:KT H kvs xs) (k:List Key):RelO (bA kvs k) ((atKey xs k).map (·.2)):=by
 induction r with
 | nil=>show True.intro
 | @cons p q ps qs h t ih=>
  let#[W,_,Y]:=h;by_cases e:p.1=k
  .have O:q.1=k:=W.symm.trans e;have b:atKey (q::qs) k=some q.2:=by simp [atKey,List.find?_cons,O]
   rw [bQ e,b];show Y
  .have O: ¬q.1=k:=λ z=>e (W.trans z)
   have b:atKey (q::qs) k=atKey qs k:=by simp [atKey,List.find?_cons,O]
   rw [bI e,b];show ih
theorem KT.repl {xs:List (List Key×Addr×Value)} (r:KT H kvs xs) (k:List Key) (ry:RelV y u):
  KT H (kvs.map λ W=>if W.1=k then (W.1,y) else W) (xs.map (putAt k u)):=by
 induction r with
 | nil=>show .nil
 | @cons p q ps qs h t ih=>
  rw [Zl,Zl];refine .cons ?_ ih;let#[O,Y,h3]:=h;unfold putAt;by_cases e:p.1=k
  .rw [if_pos e,if_pos (O.symm.trans e)];show#[O,Y,ry]
  .rw [if_neg e,if_neg (λ z=>e (O.trans z))];show#[O,Y,h3]
theorem KT.put {xs:List (List Key×Addr×Value)} (r:KT H kvs xs) (k:List Key) (hb:H b=some (.tup (k.map kV))) (ry:RelV y u):
  KT H (putK kvs k y) (storedH xs k b u):=by
 have e:(kvs.any λ O=>decide (O.1=k))=(atKey xs k).isSome:=by
  rw [j9,(r.val k).isSome_eq,Option.isSome_map]
 unfold putK storedH;rw [e];by_cases q:(atKey xs k).isSome=true
 .rw [if_pos q,if_pos q];show r.repl k ry
 .rw [if_neg q,if_neg q];show Paired.snoc r #[rfl,hb,ry]
theorem KT.keeps {xs:List (List Key×Addr×Value)} (r:KT H kvs xs) (ht: ∀b ys,H b=some (.tup ys)->H' b=some (.tup ys)):KT H' kvs xs:=
 Paired.mapP r λ _ _ z=>#[z.1,ht _ _ z.2.1,z.2.2]
section
variable {P:Program} {w:World} {H:Hp} {h:Heap} {a:Addr}
theorem Jx {u:HO} (ok:HOk P w H h) (e:Rd H a u):ObjOk P w H h a u:=e.ok ok
theorem jQ {kvs:List (Key×V)} (ok:HOk P w H h) (e:Rd H a (.dK kvs)):kvs.length<=sizeLine/\(a==sysModules)=false/\ ∃vs,KV kvs vs/\h.DictOf (aX P w) a vs:=
 show ObjOk P w H h a (.dK kvs) from Jx ok e
theorem Jy {kvs:List (Key×V)} (ok:HOk P w H h) (e:H a=some (.dK kvs)):kvs.length<=sizeLine/\(a==sysModules)=false/\ ∃vs,KV kvs vs/\h.DictOf (aX P w) a vs:=jQ ok (.inl e)
theorem gC {ks:List Key} (ok:HOk P w H h) (e:H a=some (.tup (ks.map kV))):(tupleKind (aX P w)).is h ks a:=by
 let#[_,O,r,o,Y,h2,n,W]:=(show ObjOk P w H h a (.tup (ks.map kV)) from ok a _ e);show#[o,O.toArray,n,Y,h2,W,by simpa using oE r]
theorem oF (ok:HOk P w H h) (e:Rd H a (.dT kvs)):kvs.length<=sizeLine/\(a==sysModules)=false/\
  ∃xs,KT H kvs xs/\h.DictOfH (tupleKind (aX P w)) a xs:=by
 let#[z,y,xs,r,o,es,ep,Y,h2,W,h4,h5]:=(show ObjOk P w H h a (.dT kvs) from Jx ok e);refine#[z,y,xs,r,o,es,ep,Y,h2,W,h4,λ x O=> ?_,h5];have all: ∀ {l:List (List Key×V)} {m:List (List Key×Addr×Value)},KT H l m-> ∀x∈m,(tupleKind (aX P w)).is h x.1 x.2.1:=by
  intro l m q;induction q with
  | nil=>intro x O;show nomatch O
  | @cons p q ps qs hq t ih=>
   intro x O;rcases Zk.mp O with e | O
   .subst e;show gC ok (by rw [<- hq.1];show hq.2.1)
   .exact ih x O
 show all r x O
theorem oG (ok:HOk P w H h) (e:H a=some (.dT kvs)):kvs.length<=sizeLine/\(a==sysModules)=false/\
  ∃xs,KT H kvs xs/\h.DictOfH (tupleKind (aX P w)) a xs:=oF ok (.inl e)
end
def DGet (H:Hp) (a:Addr) (y:V) (r:Option V):Prop:=
 (∃kvs k,Rd H a (.dK kvs)/\y=kV k/\r=bA kvs k)\/ ∃kvs k b,Rd H a (.dT kvs)/\y= .ref b/\H b=some (.tup (k.map kV))/\r=bA kvs k
def DPut (H:Hp) (a:Addr) (y v:V) (H':Hp):Prop:=
 (∃kvs k,H a=some (.dK kvs)/\y=kV k/\kvs.length<sizeLine/\H'=upd H a (.dK (putK kvs k v)))\/
 ∃kvs k b,H a=some (.dT kvs)/\y= .ref b/\H b=some (.tup (k.map kV))/\kvs.length<sizeLine/\H'=upd H a (.dT (putK kvs k v))
theorem DGet.k {H:Hp} {a:Addr} {kvs:List (Key×V)} {k:Key} (e:H a=some (.dK kvs)):DGet H a (kV k) (bA kvs k):= .inl #[kvs,k, .inl e,rfl,rfl]
theorem DGet.t {k:List Key} (e:H a=some (.dT kvs)) (eb:H b=some (.tup (k.map kV))):DGet H a (.ref b) (bA kvs k):= .inr #[kvs,k,b, .inl e,rfl,eb,rfl]
theorem DPut.k {H:Hp} {a:Addr} {kvs:List (Key×V)} {k:Key} {v:V} (e:H a=some (.dK kvs)) (hl:kvs.length<sizeLine):DPut H a (kV k) v (upd H a (.dK (putK kvs k v))):= .inl #[kvs,k,e,rfl,hl,rfl]
theorem DPut.t {k:List Key} {v:V} (e:H a=some (.dT kvs)) (eb:H b=some (.tup (k.map kV))) (hl:kvs.length<sizeLine):
  DPut H a (.ref b) v (upd H a (.dT (putK kvs k v))):= .inr #[kvs,k,b,e,rfl,eb,hl,rfl]
section
variable {X:Cx} {pins:List (Addr×Obj)} {σ:St} {H:Hp} {s:Shared} {a:Addr} {y v:V} {u r:Value} {o:Option V} {A:Around} {E:Value->Shared->Prop}
theorem Inv.big (I:Inv X pins σ H s):sysModules<s.heap.objs.size:=by
 have h:mainGlobals<s.heap.objs.size:=(I.mod.glob.keeps I.bk).lt;show Nat.lt_trans (by decide) h
theorem yN (hu:A.units+1<cLine) (I:Inv X pins σ H s) (g:DGet H a y (some v)) (ry:RelV y u) (h: ∀Y s',Inv X pins σ H s'->RelV v Y->Q Y s'):
  wpAny (model X.prog X.w) A (getItem (.ref a) u) Q E s:=by
 rcases g with ⟨kvs,k,e,ey,l⟩ | ⟨kvs,k,b,e,ey,eb,l⟩
 .subst ey;let#[z,hd,vs,O,dd]:=jQ I.hok e;let#[Y,hw,W]:=RelO.some_of (v:=v) (o:=valueAt vs k) (by rw [l];show O.val k);show wpAny_getItem_of (oA ry) dd.mapOf hw (h Y _ (I.tok _) W)
 .subst ey
  cases (show u=Value.ref b from ry);let#[z,hd,xs,O,dd]:=oF I.hok e;let#[Y,hw,W]:=RelO.some_of (v:=v) (o:=(atKey xs k).map (·.2)) (by rw [l];show O.val k);let#[p,hp,ab]:=Ye.mp hw;refine wpAny_getItem_heap (tupleKind_room_in1 hu) (gC I.hok eb) dd hp ?_;rw [ab];show h Y _ (I.tok _) W
theorem Ve (hu:A.units+1<cLine) (I:Inv X pins σ H s) (g:DGet H a y o) (ry:RelV y u) (h: ∀s',Inv X pins σ H s'->Q (.bool o.isSome) s'):
  wpAny (model X.prog X.w) A (compareOp .In u (.ref a)) Q E s:=by
 rcases g with ⟨kvs,k,e,ey,l⟩ | ⟨kvs,k,b,e,ey,eb,l⟩
 .subst ey;let#[z,W,vs,O,dd]:=jQ I.hok e;refine wpAny_in_of (oA ry) W dd.mapOf ?_;rw [<- (O.val k).isSome_eq,<- l];show h _ (I.tok _)
 .subst ey
  cases (show u=Value.ref b from ry);let#[z,W,xs,O,dd]:=oF I.hok e;refine wpAny_in_heap (tupleKind_room_in1 hu) (gC I.hok eb) W dd ?_;have q:=(O.val k).isSome_eq;rw [Option.isSome_map] at q;rw [<- q,<- l];show h _ (I.tok _)
theorem Hn (hu:A.units+1<cLine) (I:Inv X pins σ H s) (g:DGet H a y o) (ry:RelV y u) (h: ∀s',Inv X pins σ H s'->Q (.bool (!o.isSome)) s'):
  wpAny (model X.prog X.w) A (compareOp .NotIn u (.ref a)) Q E s:=by
 rcases g with ⟨kvs,k,e,ey,l⟩ | ⟨kvs,k,b,e,ey,eb,l⟩
 .subst ey;let#[z,W,vs,O,dd]:=jQ I.hok e;refine wpAny_notIn_of (oA ry) W dd.mapOf ?_;rw [<- (O.val k).isSome_eq,<- l];show h _ (I.tok _)
 .subst ey
  cases (show u=Value.ref b from ry);let#[z,W,xs,O,dd]:=oF I.hok e;refine wpAny_notIn_heap (tupleKind_room_in1 hu) (gC I.hok eb) W dd ?_;have q:=(O.val k).isSome_eq;rw [Option.isSome_map] at q;rw [<- q,<- l];show h _ (I.tok _)
theorem fP {t':Nat} {ob:HO} (I:Inv X pins σ H s) (mu:QF (H a)) (hs:Heap.SameBut a s.heap h') (he: ∃q,h'.get? a=some q) (new:ObjOk X.prog X.w (upd H a ob) h' a ob):
  Inv X pins σ (upd H a ob) { s with heap:=h',toks:=t' }:=
 I.write (x:=a) (e:=a) mu (.inl rfl) (λ b q O z=>(hs.2 b O).trans z) he new
theorem Av {P:Program} {kvs:List (Key×V)} {vs:List (Key×Value)} (z:kvs.length<=sizeLine) (hd:(a==sysModules)=false) (rel:KV kvs vs) (dd:h'.DictOf (aX P w) a vs):
  ObjOk P w H' h' a (.dK kvs):=#[z,hd,vs,rel,dd]
theorem yO {Q:Unit->Shared->Prop} (hu:A.units+1<cLine) (I:Inv X pins σ H s) (g:DPut H a y v H') (ry:RelV y u) (rv:RelV v r) (h: ∀s',Inv X pins σ H' s'->Q Unit.unit s'):
  wpAny (model X.prog X.w) A (setItem (.ref a) u r) Q E s:=by
 rcases g with ⟨kvs,k,e,ey,l,eH⟩ | ⟨kvs,k,b,e,ey,eb,l,eH⟩
 .subst ey eH;let#[z,hd,vs,O,dd]:=Jy I.hok e;have hz:vs.length<=sizeLine:=by rw [<- O.length];show z
  have hl:(putK kvs k v).length<=sizeLine:=by have:=gB kvs k v;rfl'
  refine wpAny_setItem_pairs (hsz:=hz) (oA ry) dd λ h' W hs=>h _ ?_
  have he: ∃q,h'.get? a=some q:=let ⟨q,_,_,Y,_⟩:=W;#[q,Y];show fP I (by rw [e];show True.intro) hs he (Av hl hd (O.put k rv) W)
 .subst ey eH
  cases (show u=Value.ref b from ry);let#[z,hd,xs,O,dd]:=oG I.hok e;have hz:xs.length<=sizeLine:=by rw [<- Paired.length O];show z
  have hl:(putK kvs k v).length<=sizeLine:=by have:=gB kvs k v;rfl'
  refine wpAny_setItem_heap (hsz:=hz) (tupleKind_room_in1 hu) (gC I.hok eb) dd λ h' W hs=>h _ ?_
  let#[q,es,ep,Y,h2,h3,h4,_,h5]:=W;refine fP I (by rw [e];show True.intro) hs ⟨q,Y⟩ ⟨hl,hd,_,(O.put k eb rv).keeps λ c ys ec=> ?_,q,es,ep,Y,h2,h3,h4,h5⟩;rw [aq (bw ec e (λ z=>nomatch z))];show ec
end
def Li (i:Expr):Prop:= ∀ov iv,subscripted i false ov iv=operate [ov,iv] (getItem ov iv)
theorem xx {s:Shared} {env:Env} {value slice:Expr} {T id:String}
  (hl:typeLookup (.type T) "__getitem__"=pure (some (.builtin id))) (hs:Li slice)
  (h:wpAny (model prog w) A (eval value env) (λ o s₁=>wpAny (model prog w) A (eval slice env) (λ i s₂=>s₂.TypeIs o T/\wpAny (model prog w) A (getItem o i) Q E s₂) E s₁) E s):
  wpAny (model prog w) A (eval (.Subscript value slice pos) env) Q E s:=by
 refine Subscript_ (Yv h (λ o s₁ h₁=>Yv h₁ (λ i s₂ O=> ?_) λ _ _ x=>x) λ _ _ x=>x);let#[hT,O]:=O;unfold subscriptTail;refine Qb ?_;rw [getitemInPython_of_ne hT.not_modules];refine Qb (wpAny_specialOf hT hl ?_);have fin:wpAny (model prog w) A (subscripted slice false o i) (λ r W=>wpAny (model prog w) A (letTemporaryGo value o r >>= λ _=>pure r) Q E W) E s₂:=by
  rw [hs o i];show wpAny_operating (Yv O (λ r W Y=>Qb (wpAny_letTemporaryGo (Zc Y))) λ _ _ x=>x)
 first
  | show Zc (Qb fin)
  | show Qb (Zc (Qb fin))
  | show Qb fin
theorem rN {X:Cx} {s:Shared} {o:Option V} (I:Inv X pins σ H s) (g:DGet H a y o):s.TypeIs (.ref a) "dict":=by
 rcases g with ⟨kvs,k,e,_,_⟩ | ⟨kvs,k,b,e,_,_,_⟩
 .obtain ⟨_,_,vs,_,dd⟩:=jQ I.hok e;show dd.typeIs
 .obtain ⟨_,_,xs,_,dd⟩:=oF I.hok e;show dd.typeIs
def iC (td ty:TE):TE:=λ σ H Q=>td σ H λ x H1=>ty σ H1 λ y H2=> ∃a v,x= .ref a/\DGet H2 a y (some v)/\Q v H2
def Aw (ty td:TE):TE:=λ σ H Q=>ty σ H λ y H1=>td σ H1 λ x H2=> ∃a o,x= .ref a/\DGet H2 a y o/\Q (.bl o.isSome) H2
def kJ (ty td:TE):TE:=λ σ H Q=>ty σ H λ y H1=>td σ H1 λ x H2=> ∃a o,x= .ref a/\DGet H2 a y o/\Q (.bl (!o.isSome)) H2
def jR (td ty tv:TE):TS:=λ D σ H=>tv σ H λ v H1=>td σ H1 λ x H2=>ty σ H2 λ y H3=> ∃a H4,x= .ref a/\DPut H3 a y v H4/\D.nx σ H4
section
variable {X:Cx} {o i e value:Expr} {pos pos' tpos:Pos} {td ty tv:TE}
theorem dX (hu:X.A.units+1<cLine) (ho:PE X o td) (hi:PE X i ty) (hs:Li i):PE X (.Subscript o i pos) (iC td ty):=by
 intro O s Y H Q I h;refine xx PySem.F.slot_dict_getitem.lookup hs (aW (ho O s Y H _ I h) λ u s1 ⟨x,H1,I1,rx,q1⟩=>aW (hi O s1 Y H1 _ I1 q1) λ iv s2 ⟨y,H2,I2,ry,a,v,ex,g,q2⟩=> ?_);subst ex;obtain rfl:u=Value.ref a:=rx;show#[rN I2 g,yN hu I2 g ry λ w' s3 I3 W=>#[v,H2,I3,W,q2]]
theorem uC (hu:X.A.units+1<cLine) (hi:PE X i ty) (ho:PE X o td):PC X .In i o (Aw ty td):=by
 intro O s W H Q I h;refine aW (hi O s W H _ I h) λ iv s1 ⟨y,H1,I1,ry,q1⟩=>aW (ho O s1 W H1 _ I1 q1) λ u s2 ⟨x,H2,I2,rx,a,ov,ex,g,q2⟩=> ?_
 subst ex;obtain rfl:u=Value.ref a:=rx;show Ve hu I2 g ry λ s3 Y=>#[.bl ov.isSome,H2,Y,rfl,q2]
theorem oH (hu:X.A.units+1<cLine) (hi:PE X i ty) (ho:PE X o td):PC X .NotIn i o (kJ ty td):=by
 intro O s W H Q I h;refine aW (hi O s W H _ I h) λ iv s1 ⟨y,H1,I1,ry,q1⟩=>aW (ho O s1 W H1 _ I1 q1) λ u s2 ⟨x,H2,I2,rx,a,ov,ex,g,q2⟩=> ?_
 subst ex;obtain rfl:u=Value.ref a:=rx;show Hn hu I2 g ry λ s3 Y=>#[.bl (!ov.isSome),H2,Y,rfl,q2]
theorem gW (hu:X.A.units+1<cLine) (ho:PE X o td) (hi:PE X i ty) (hv:PE X value tv) (hs:swapsWith value (some (.Subscript o i pos')) pos.line X.env=pure false):
  PS X (.Assign [.Subscript o i pos'] value pos) (jR td ty tv):=by
 intro O s W H D I h;refine wpAny_Assign_Subscript (aW (hv O s W H _ I h) λ r s1 ⟨v,H1,I1,rv,q1⟩=>aW (ho O s1 W H1 _ I1 q1) λ u s2 ⟨x,H2,I2,rx,q2⟩=>aW (hi O s2 W H2 _ I2 q2) λ iv s3 ⟨y,H3,Y,ry,a,H4,ex,g,q3⟩=> ?_) hs;subst ex;obtain rfl:u=Value.ref a:=rx;show yO hu Y g ry rv λ s4 I4=>#[W,H4,I4,q3]
end
theorem rO {P:Program} (h:Heap) (hb:sysModules<h.objs.size):ObjOk P w H (h.push { cls:= .type "dict",data:= .dict ([].toArray) }) h.objs.size (.dK []):=
 #[Nat.zero_le _,beq_eq_false_iff_ne.mpr (Ne.symm (Yb hb)),[], .nil,Heap.DictOf.new h]
theorem rP {P:Program} (h:Heap) (hb:sysModules<h.objs.size):ObjOk P w H (h.push { cls:= .type "dict",data:= .dict ([].toArray) }) h.objs.size (.dT []):=
 #[Nat.zero_le _,beq_eq_false_iff_ne.mpr (Ne.symm (Yb hb)),[], .nil,_,([].toArray),0,Zo _ rfl,#[rfl,rfl,rfl],rfl,rfl,List.nodup_nil]
def jy:TE:=λ _ H Q=> ∀p,H p=none->Q (.ref p) (upd H p (.dK []))
def uE:TE:=λ _ H Q=> ∀p,H p=none->Q (.ref p) (upd H p (.dT []))
section
variable {X:Cx} {pos:Pos}
theorem jb:PE X (.Dict [] [] pos) jy:=λ O s W H Q I h=>
 wpAny_Dict_empty #[.ref s.heap.objs.size,_,I.laid (a:=s.heap.objs.size) (o:= .dK []) (t':=s.toks) (λ _ _ q=>Zd _ q) (Zm _) (rO s.heap I.big),rfl,h _ (I.hok.fresh (Zm _))]
theorem Ax:PE X (.Dict [] [] pos) uE:=λ O s W H Q I h=>
 wpAny_Dict_empty #[.ref s.heap.objs.size,_,I.laid (a:=s.heap.objs.size) (o:= .dT []) (t':=s.toks) (λ _ _ q=>Zd _ q) (Zm _) (rP s.heap I.big),rfl,h _ (I.hok.fresh (Zm _))]
end
def uF:List (TE×TE)->St->Hp->(List (V×V)->Hp->Prop)->Prop
 | [],_,H,Q=>Q [] H
 | (tk,tv)::r,σ,H,Q=>tk σ H λ x H1=>tv σ H1 λ y H2=>uF r σ H2 λ ps H3=>Q ((x,y)::ps) H3
abbrev VV:List (V×V)->List (Value×Value)->Prop:=Paired λ p q=>RelV p.1 q.1/\RelV p.2 q.2
def UJ (X:Cx) (pos:Pos) (keys:List (Option Expr)) (values:List Expr) (trs:List (TE×TE)):Prop:=
 ∀ (pins:List (Addr×Obj)) (s:Shared) (σ:St) (H:Hp) (Q:List (V×V)->Hp->Prop),Inv X pins σ H s->uF trs σ H Q->
  wpAny (model X.prog X.w) X.A (evalPairs (pairTrees keys values X.env pos)) (λ vs s'=> ∃ps H',Inv X pins σ H' s'/\VV ps vs/\Q ps H') X.xe s
theorem xF {X:Cx}:UJ X pos [] [] []:=λ O s W H Q I h=>pairTrees_nil_walk #[[],H,I, .nil,h]
theorem rQ {X:Cx} {k v:Expr} {vs:List Expr} {tk tv:TE} (hk:PE X k tk) (hv:PE X v tv) (hr:UJ X pos ks vs trs):
  UJ X pos (some k::ks) (v::vs) ((tk,tv)::trs):=λ O s Y H Q I h=>
 pairTrees_cons_walk (aW (hk O s Y H _ I h) λ u s1 ⟨x,H1,I1,rx,q1⟩=>aW (hv O s1 Y H1 _ I1 q1) λ w2 s2 ⟨y,H2,I2,ry,q2⟩=>
  aW (hr O s2 Y H2 _ I2 q2) λ ws s3 ⟨ps,H3,I3,W,q3⟩=>#[(x,y)::ps,H3,I3, .cons #[rx,ry] W,q3])
def fQ (kvs more:List (Key×V)):List (Key×V):=more.foldl (λ acc kv=>putK acc kv.1 kv.2) kvs
theorem KV.merge: ∀ {more:List (Key×V)} {rs:List (Key×Value)} {kvs:List (Key×V)} {vs:List (Key×Value)},KV more rs->KV kvs vs->KV (fQ kvs more) (merged vs rs):=by
 intro more rs kvs vs r;unfold KV at r;induction r generalizing kvs vs with
 | nil=>intro q;show q
 | @cons p q ps qs h t ih=>
  intro O;have e:KV (putK kvs p.1 p.2) (stored vs q.1 q.2):=by
   have:=O.put p.1 h.2;rw [<- h.1];show this
  show ih e
theorem iG: ∀ (more kvs:List (Key×V)),(fQ kvs more).length<=kvs.length+more.length
 | [],kvs=>by change kvs.length<=kvs.length+0;rfl'
 | p::r,kvs=>by
  have W:=iG r (putK kvs p.1 p.2);have O:=gB kvs p.1 p.2;change(fQ (putK kvs p.1 p.2) r).length<=_;rw [Wp];rfl'
theorem lQ {P:Program} {w:World}: ∀ {kvs:List (Key×V)} {O:List (Value×Value)},VV (kvs.map λ W=>(kV W.1,W.2)) O-> ∃rs,Carries (aX P w) O rs/\KV kvs rs
 | [],_,r=>by rw [List.map_nil] at r;cases r;show⟨[],True.intro, .nil⟩
 | p::kvs,_,r=>by
  rw [Zl] at r
  cases r with
  | @cons a b as bs h t=>
   let#[rs,c,q]:=lQ (P:=P) (w:=w) t;let#[b1,Y]:=b;show#[(p.1,Y)::rs,#[oA h.1,rfl,c], .cons #[rfl,h.2] q]
def Ay (trs:List (TE×TE)):TE:=λ σ H Q=> ∀p,H p=none->uF trs σ (upd H p (.dK [])) λ ps H2=>H2 p=some (.dK [])/\ ∃kvs:List (Key×V),ps=kvs.map (λ kv=>(kV kv.1,kv.2))/\kvs.length<=15/\Q (.ref p) (upd H2 p (.dK (fQ [] kvs)))
theorem Ho {X:Cx} {keys:List (Option Expr)} (h:UJ X pos keys values trs) (hall:keys.all (·.isSome)=true) (hl:keys.length=values.length) (h0:keys≠[])
  (h15:keys.length<=15):PE X (.Dict keys values pos) (Ay trs):=by
 intro O s σ H Q I q;have hn:=I.hok.fresh (Zm s.heap.objs.size);have I1:=I.laid (a:=s.heap.objs.size) (o:= .dK []) (h':=s.heap.push { cls:= .type "dict",data:= .dict ([].toArray) }) (t':=s.toks) (λ _ _ q=>Zd _ q) (Zm _) (rO s.heap I.big);refine wpAny_Dict_walk (knd:=aX X.prog X.w) hall hl h0 h15 (aW (h O _ σ _ _ I1 (q _ hn)) λ ws s2 ⟨ps,H2,I2,Y,e,kvs,ep,lk,q2⟩=> ?_);subst ep;let#[rs,c,rk]:=lQ (P:=X.prog) (w:=X.w) Y;let#[z,hd,ab,r0,dd]:=Jy I2.hok e
 cases r0;refine#[rs,c,dd,λ h' W hs=>#[.ref s.heap.objs.size,_,?_,rfl,q2]];have hz:(fQ [] kvs).length<=sizeLine:=by
  have h1:=iG kvs [];rw [List.length_nil] at h1;rw [sizeLine_eq];rfl'
 have he: ∃q,h'.get? s.heap.objs.size=some q:=let ⟨q,_,_,hq,_⟩:=W;#[q,hq];show fP I2 (by rw [e];show True.intro) hs he (Av hz hd (rk.merge .nil) W)
structure M1 (X:Cx) (o:Expr) (m:Str) (apos:Pos) (e:Expr) (cpos:Pos):Prop where
 base:attributeBase o m X.env (eval o X.env)=eval o X.env
 few:((backTo cpos (starEach [e] X.env)).all (λ x=> !x.1)&&(backToKw cpos (keywordEach [] X.env)).all (λ x=>x.1.isSome)
  &&decide (([e]:List Expr).length+([]:List Keyword).length+(if ([]:List Keyword).isEmpty then 0 else 1)<30))=true
 line:(apos.endLine==cpos.line)=true
 trees:backTo cpos (starEach [e] X.env)=[(false,eval e X.env)]
structure M2 (X:Cx) (o:Expr) (m:Str) (apos:Pos) (e f:Expr) (cpos:Pos):Prop where
 base:attributeBase o m X.env (eval o X.env)=eval o X.env
 few:((backTo cpos (starEach [e,f] X.env)).all (λ x=> !x.1)&&(backToKw cpos (keywordEach [] X.env)).all (λ x=>x.1.isSome)
  &&decide (([e,f]:List Expr).length+([]:List Keyword).length+(if ([]:List Keyword).isEmpty then 0 else 1)<30))=true
 line:(apos.endLine==cpos.line)=true
 trees:backTo cpos (starEach [e,f] X.env)=[(false,eval e X.env),(false,eval f X.env)]
def Lj (H:Hp) (a:Addr):Prop:=(∃kvs,Rd H a (.dK kvs))\/ ∃kvs,Rd H a (.dT kvs)
theorem uG {X:Cx} {s:Shared} (I:Inv X pins σ H s) (d:Lj H a):
  s.TypeIs (.ref a) "dict"/\(∀b,Value.ref a= .ref b-> ∃ob,s.heap.get? b=some ob/\ob.dict=none)/\(a==sysModules)=false:=by
 rcases d with ⟨kvs,e⟩ | ⟨kvs,e⟩
 .obtain ⟨_,W,vs,_,dd⟩:=jQ I.hok e;refine#[dd.typeIs,λ b q=> ?_,W]
  cases q;let#[ob,_,_,O,Y,_]:=dd;show#[ob,O,Y.2.1]
 .obtain ⟨_,W,xs,_,dd⟩:=oF I.hok e;refine#[dd.typeIs,λ b q=> ?_,W]
  cases q;let#[ob,_,_,O,Y,_]:=dd;show#[ob,O,Y.2.1]
def Vf (td ty:TE):TE:=λ σ H Q=>td σ H λ x H1=> ∃a,x= .ref a/\Lj H1 a/\ty σ H1 λ y H2=> ∃o,DGet H2 a y o/\Q (o.getD .non) H2
def Vg (td ty tx:TE):TE:=λ σ H Q=>td σ H λ x H1=> ∃a,x= .ref a/\Lj H1 a/\ty σ H1 λ y H2=>tx σ H2 λ z H3=> ∃o,DGet H3 a y o/\Q (o.getD z) H3
end L2
set_option linter.all false
namespace Bm
def pop:Nat->Nat
 | 0=>0
 | n+1=>(n+1)%2+pop ((n+1) / 2)
decreasing_by rfl'
theorem rR:pop 0=0:=by rw [pop]
theorem Az (n:Nat):pop n=n%2+pop (n / 2):=by
 cases n with
 | zero=>simp [rR]
 | succ n=>rw [pop]
theorem pN (m:Nat):pop (2*m)=pop m:=by
 rw [Az,show 2*m%2=0 by rfl',show 2*m / 2=m by rfl',Nat.zero_add]
theorem Hq (m:Nat):pop (2*m+1)=pop m+1:=by
 rw [Az,show(2*m+1)%2=1 by rfl',show(2*m+1) / 2=m by rfl',Nat.add_comm]
theorem Ba (a b:Nat):(2*a)&&& (2*b+1)=2*(a&&& b):=by
 apply Nat.eq_of_testBit_eq;intro i
 cases i with
 | zero=>simp [Nat.testBit_and]
 | succ i=>
  rw [Nat.testBit_and,Nat.testBit_succ,Nat.testBit_succ,Nat.testBit_succ,show 2*a / 2=a by rfl',show(2*b+1) / 2=b by rfl',show 2*(a&&& b) / 2=(a&&& b) by rfl',Nat.testBit_and]
theorem Lk (a b:Nat):(2*a+1)&&& (2*b)=2*(a&&& b):=by rw [Nat.and_comm,Ba,Nat.and_comm]
theorem Hr (n:Nat) (h:0<n):pop (n&&& (n-1))+1=pop n:=by
 induction n using Nat.strongRecOn with
 | ind n ih=>
  rcases Nat.mod_two_eq_zero_or_one n with e | e
  .obtain ⟨m,rfl⟩: ∃m,n=2*m:=#[n / 2,()];have q:=ih m () ();rw [show 2*m-1=2*(m-1)+1 by rfl',Ba,pN,pN];show q
  .obtain ⟨m,rfl⟩: ∃m,n=2*m+1:=#[n / 2,()];rw [show 2*m+1-1=2*m by rfl',Lk,Nat.and_self,pN,Hq]
theorem Ln (n:Nat) (h:0<n):n&&& (n-1)<n:=Yj Nat.and_le_right ()
theorem Bb (a b:Nat):(a^^^b) / 2=(a / 2)^^^(b / 2):=by
 apply Nat.eq_of_testBit_eq;intro i;simp [<- Nat.testBit_succ,Nat.testBit_xor]
theorem dY (x:Nat):x%2=(x.testBit 0).toNat:=by
 rcases Nat.mod_two_eq_zero_or_one x with h | h<;>simp [Nat.testBit_zero,h]
def bits (k n:Nat):List Nat:=(List.range k).filter λ i=>n.testBit i
end Bm
set_option linter.all false
namespace Bx
open PySem
theorem iV (m n:Nat):Builtin.bitAnd (m:Int) (n:Int)=((m&&& n:Nat):Int):=by
 rw [PyProof.Rows.bitAnd_pp () ()];simp
theorem Bc (m n:Nat):(m||| n)+(m&&& n)=m+n:=by
 induction m using Nat.strongRecOn generalizing n with
 | ind m ih=>
  by_cases hz:m=0
  .subst hz;simp
  .have q:=ih (m / 2) () (n / 2);have W:(m||| n) / 2=(m / 2)||| (n / 2):=by
    apply Nat.eq_of_testBit_eq;intro i;simp [<- Nat.testBit_succ,Nat.testBit_or]
   have Y:(m&&& n) / 2=(m / 2)&&& (n / 2):=by
    apply Nat.eq_of_testBit_eq;intro i;simp [<- Nat.testBit_succ,Nat.testBit_and]
   have O:(m||| n)%2+(m&&& n)%2=m%2+n%2:=by
    rw [Bm.dY (m||| n),Bm.dY (m&&& n),Bm.dY m,Bm.dY n,Nat.testBit_or,Nat.testBit_and]
    cases m.testBit 0<;>cases n.testBit 0<;>rfl
   rfl'
theorem yP (m n:Nat):Builtin.bitOr (m:Int) (n:Int)=((m||| n:Nat):Int):=by
 rw [PyProof.Rows.bitOr_and,iV];have:=Bc m n;rfl'
theorem Ht (m n:Nat):(m^^^n)+2*(m&&& n)=m+n:=by
 induction m using Nat.strongRecOn generalizing n with
 | ind m ih=>
  by_cases hz:m=0
  .subst hz;simp
  .have q:=ih (m / 2) () (n / 2);have W:=Bm.Bb m n;have Y:(m&&& n) / 2=(m / 2)&&& (n / 2):=by
    apply Nat.eq_of_testBit_eq;intro i;simp [<- Nat.testBit_succ,Nat.testBit_and]
   have O:(m^^^n)%2+2*((m&&& n)%2)=m%2+n%2:=by
    rw [Bm.dY (m^^^n),Bm.dY (m&&& n),Bm.dY m,Bm.dY n,Nat.testBit_xor,Nat.testBit_and]
    cases m.testBit 0<;>cases n.testBit 0<;>rfl
   rfl'
theorem uH (m n:Nat):Builtin.bitXor (m:Int) (n:Int)=((m^^^n:Nat):Int):=by
 unfold Builtin.bitXor;rw [yP,iV];have W:=Bc m n;have O:=Ht m n;rfl'
theorem rT (k:Nat):((2^k:Nat):Int)=(2:Int)^k:=by simp
end Bx
section
namespace L2
open PySem PySem.Spec PyProof.Rows
variable {σ:St} {sp:Sp} {tl:TE} {wi:TI} {x:Str} {H H':Hp} {M:Model} {env:Env} {h':Heap} {pos:Pos} {tg:Expr} {w:World} {A:Around} {i k n:Nat} {s':Shared} {N':List Str} {fd:FuncData} {C a f p:Addr} {ch:List Addr} {newId:String} {ifs:List Expr} {bmB:List Value} {esc sc scope:Scope} {κ:List (Option Nat)} {Q:Unit->Shared->Prop} {pins:List (Addr×Obj)} {E:Value->Shared->Prop} {m' mg:Str->Option Value} {RR:Value->Addr->Result->Shared->Prop}
abbrev blk (X:Cx) (sc:Scope) (N':List Str) (cl:List (Str×Addr)) (C:Addr) (s:Shared) (H:Hp) (fp:List Addr) (pins:List (Addr×Obj)):Cx where
 prog:=X.prog
 w:=X.w
 K:=X.K
 mg:=X.mg
 base:=X.base
 A:=X.A
 N:=N'
 s₀:=s
 H₀:=H
 env:=compEnvC sc cl C X.env
 outer:=X.stack
 stack:=X.stack
 ex:=fp
 fn:=λ _=>false
 calm:=X.calm
 pn:=X.pn++pins
 xe:=λ _ _=>False
structure CScope (esc sc:Scope):Prop where
 kind:sc.kind= .function
 nocell: ∀y∈sc.names,y.2≠ .cell
 locs: ∀y∈sc.names,y.2= .local->sc.names.lookup y.1=some .local
 frees: ∀y∈sc.names,y.2= .free->esc.names.lookup y.1=some .cell\/esc.names.lookup y.1=some .free
theorem mem_lookup {β:Type} {x:Str} {k:β}: ∀ {l:List (Str×β)},l.lookup x=some k->(x,k)∈l
 | [],h=>by simp at h
 | (n,k')::r,h=>by
  rw [List.lookup_cons] at h
  cases e:x==n with
  | true=>
   rw [e] at h;have O:x=n:=eq_of_beq e;injection h with h
   subst O;subst h;show Zt
  | false=>
   rw [e] at h;show Zs _ (mem_lookup h)
theorem pO {env:Env}: ∀ (names:List (Str×NameKind)) (cs:List (Str×Addr)),(∀y∈names,y.2= .free-> ∃c,env.cells.lookup y.1=some c)->(∀x c,cs.lookup x=some c->env.cells.lookup x=some c)->
  ∃cl:List (Str×Addr),(forIn names cs λ (y:Str×NameKind) (r:List (Str×Addr))=>(if (y.2==NameKind.free)=true then (cellOf env y.1 >>= λ c=>pure (ForInStep.yield ((y.1,c)::r))) else pure (ForInStep.yield r):Sem (ForInStep (List (Str×Addr)))))=pure cl/\
   (∀x c,cl.lookup x=some c->env.cells.lookup x=some c)/\ ∀x c,env.cells.lookup x=some c->((x,NameKind.free)∈names\/cs.lookup x=some c)->cl.lookup x=some c
 | [],cs,_,hcs=>#[cs,rfl,hcs,λ x c _ h=>h.elim (λ z=>nomatch z) id]
 | (n, k) :: r, cs, hf, hcs => by
  have ab: ∀y∈r,y.2= .free-> ∃c,env.cells.lookup y.1=some c:=λ y hy=>hf y (Zs _ hy)
  by_cases hk:k= .free
  .subst hk;let#[c,hc]:=hf (n, .free) Zt rfl;have ec:cellOf env n=pure c:=by
    have ac:env.cells.lookup n=some c:=hc;unfold cellOf;rw [ac]
   have Y: ∀x W,((n,c)::cs).lookup x=some W->env.cells.lookup x=some W:=λ x W h=>by
    rw [List.lookup_cons] at h
    cases e:x==n with
    | true=>
     rw [e] at h;injection h with h
     have e':x=n:=eq_of_beq e;subst e';subst h;show hc
    | false=>rw [e] at h;show hcs x W h
   let#[cl,e,h1,h2]:=pO r ((n,c)::cs) ab Y;refine#[cl,?_,h1,λ x W hx O=>h2 x W hx ?_]
   .rw [Yw];simp only [beq_self_eq_true,if_true];rw [ec];show e
   .rw [List.lookup_cons]
    cases ex:x==n with
    | true=>
     right;have e':x=n:=eq_of_beq ex;subst e';show hc.symm.trans hx
    | false=>
     rcases O with O | O
     .rcases Zk.mp O with z | z
      .have e':x=n:=Yc Prod.fst z;subst e';rw [beq_self_eq_true] at ex
       cases ex
      .exact .inl z
     .exact .inr O
  .obtain ⟨cl,e,h1,h2⟩:=pO r cs ab hcs;have ad:(k==NameKind.free)=false:=by
    cases k<;>first | rfl | show absurd rfl hk
   refine#[cl,?_,h1,λ x W hx O=>h2 x W hx ?_]
   .rw [Yw];simp only [ad,Yh,if_false];show e
   .rcases O with O | O
    .rcases Zk.mp O with z | z
     .exact absurd (Yc Prod.snd z).symm hk
     .exact .inl z
    .exact .inr O
theorem pP (hf: ∀y∈sc.names,y.2= .free-> ∃c,env.cells.lookup y.1=some c):
  ∃cl:List (Str×Addr),closureFor sc env=pure cl/\(∀x c,cl.lookup x=some c->env.cells.lookup x=some c)/\ ∀x c,env.cells.lookup x=some c->(x,NameKind.free)∈sc.names->cl.lookup x=some c:=by
 let#[cl,e,O,Y]:=pO (env:=env) sc.names [] hf (λ x c h=>by simp at h);refine#[cl,?_,O,λ x c W hm=>Y x c W (.inl hm)];have q:closureFor sc env=((forIn sc.names [] λ (y:Str×NameKind) (r:List (Str×Addr))=>(if (y.2==NameKind.free)=true then (cellOf env y.1 >>= λ c=>pure (ForInStep.yield ((y.1,c)::r))) else pure (ForInStep.yield r):Sem (ForInStep (List (Str×Addr))))) >>= λ cs=>pure cs):=by
  first
   | rfl
   | (unfold closureFor;congr 1)
 rw [q,e];rfl
theorem fU {env:Env} {x:Str}: ∀ {names:List (Str×NameKind)},
  (names.map λ (n,k)=>if (k==NameKind.free&&env.scope.kind== .function&&env.kindOf n==some .cell) then (n,NameKind.cell) else (n,k)).lookup x=
   (names.lookup x).map λ k=>if (k==NameKind.free&&env.scope.kind== .function&&env.kindOf x==some .cell) then NameKind.cell else k
 | []=>rfl
 | (n, k) :: r => by
  have W:=fU (env:=env) (x:=x) (names:=r);change List.lookup x ((if (k==NameKind.free&&env.scope.kind== .function&&env.kindOf n==some .cell)=true then (n,NameKind.cell) else (n,k))::_)=_;rw [List.lookup_cons (b:=k)]
  cases hx:x==n with
  | true=>
   have e:x=n:=eq_of_beq hx;subst e;by_cases O:(k==NameKind.free&&env.scope.kind== .function&&env.kindOf x==some .cell)=true
   .rw [if_pos O,List.lookup_cons,hx];change some NameKind.cell=some (if (k==NameKind.free&&env.scope.kind== .function&&env.kindOf x==some .cell)=true then NameKind.cell else k);rw [if_pos O]
   .rw [if_neg O,List.lookup_cons,hx];change some k=some (if (k==NameKind.free&&env.scope.kind== .function&&env.kindOf x==some .cell)=true then NameKind.cell else k);rw [if_neg O]
  | false=>
   by_cases O:(k==NameKind.free&&env.scope.kind== .function&&env.kindOf n==some .cell)=true
   .rw [if_pos O,List.lookup_cons,hx];show W
   .rw [if_neg O,List.lookup_cons,hx];show W
theorem CScope.free_of (S:CScope esc sc) (h:(relabel sc env).names.lookup x=some .cell\/(relabel sc env).names.lookup x=some .free):(x,NameKind.free)∈sc.names:=by
 have q:(relabel sc env).names.lookup x=_:=fU (env:=env) (x:=x) (names:=sc.names);rw [q] at h
 cases e:sc.names.lookup x with
 | none=>rw [e] at h;simp at h
 | some k=>
  have O:=mem_lookup e;have W:=S.nocell _ O
  cases k with
  | free=>show O
  | cell=>show absurd rfl W
  | _=>rw [e] at h;simp at h
theorem CScope.cell_of (S:CScope esc sc) (he:env.scope=esc) (hk:env.scope.kind= .function) (h:sc.names.lookup x=some .free):(relabel sc env).names.lookup x=some .cell\/(relabel sc env).names.lookup x=some .free:=by
 have q:(relabel sc env).names.lookup x=_:=fU (env:=env) (x:=x) (names:=sc.names);rw [q,h];simp only [Option.map_some];split
 .exact .inl rfl
 .exact .inr rfl
def cap (κ:List (Option Nat)) (σ:St):St:=κ.map λ o=>o.bind λ i=>(σ[i]?).join
def capOk (κ:List (Option Nat)) (N' N:List Str) (sc:Scope):Bool:=
 decide (κ.length=N'.length)&&(κ.zip N').all λ p=>match p.1 with
  | none=>true
  | some i=>N[i]? ==some p.2&&sc.names.lookup p.2==some .free
theorem capOk.len {N:List Str} (h:capOk κ N' N sc=true):κ.length=N'.length:=by
 unfold capOk at h;rw [Bool.and_eq_true] at h;show of_decide_eq_true h.1
theorem capOk.at {κ:List (Option Nat)} {N' N:List Str} {sc:Scope} (h:capOk κ N' N sc=true) {j:Nat} {y:Str} {v:V} {σ:St} (hN:N'[j]? =some y) (hv:(cap κ σ)[j]? =some (some v)):
  ∃i:Nat,N[i]? =some y/\σ[i]? =some (some v)/\sc.names.lookup y=some .free:=by
 unfold capOk at h;rw [Bool.and_eq_true,List.all_eq_true] at h;unfold cap at hv;rw [Zi] at hv
 cases e:κ[j]? with
 | none=>rw [e] at hv;simp at hv
 | some o=>
  rw [e] at hv;simp only [Option.map_some,Option.some.injEq] at hv
  cases o with
  | none=>simp at hv
  | some i=>
   have O:(some i,y)∈κ.zip N':=Zf (i:=j) (by rw [List.getElem?_zip_eq_some];show#[e,hN]);have q:=h.2 _ O;simp only [Bool.and_eq_true,beq_iff_eq] at q;refine#[i,q.1,?_,q.2];simp only [Option.bind_some] at hv
   cases r:σ[i]? with
   | none=>rw [r] at hv;simp at hv
   | some z=>rw [r] at hv;simp at hv;rw [hv]
def oJ (a b:St):Prop:=b.length=a.length/\ ∀ (i:Nat) v,a[i]? =some (some v)->b[i]? =some (some v)
def uI (X:Cx) (ifs:List Expr) (t:TT):Prop:=
 ∀ (pins:List (Addr×Obj)) (s:Shared) (σ:St) (H:Hp) (Q:Bool->Hp->Prop),Inv X pins σ H s->t σ H Q->
  wpAny (model X.prog X.w) X.A (forIn ifs true λ c r=>if r=true then do let ok <- isTrue c X.env (eval c X.env);pure (ForInStep.yield ok) else pure (ForInStep.yield r)) (TP X pins σ Q) X.xe s
def gD:TT:=λ _ H Q=>Q true H
theorem dG {X:Cx}:uI X [] gD:=λ O s W H Q I h=>wpAny_tests_nil #[H,I,h]
theorem pQ {X:Cx} {c:Expr} {t:TT} (h:PT X c t):uI X [c] t:=λ O s W H Q I q=>wpAny_tests_one (h O s W H Q I q)
section
variable {prog:Program} {w:World} {A:Around} {R:Result->Shared->Prop} {s:Shared}
theorem pR {elt target iter:Expr} {it acc:Value} (I:Nat->Shared->Prop)
  (turn: ∀n s,I n s->wpAny (model prog w) A (pyNext it) (λ r s₁=>match r with
   | none=>R (.ok .next) s₁
   | some v=>wpAny (model prog w) A (letOwnedTupleGo target it v) (λ _ O=>wpAny (model prog w) A (assign target env v) (λ _ s₂=>
     wpAny (model prog w) A (forIn ifs true λ c r=>if r=true then do let ok <- isTrue c env (eval c env);pure (ForInStep.yield ok) else pure (ForInStep.yield r)) (λ ok W=>
      if ok=true then wpAny (model prog w) A (eval elt env) (λ x ac=>
       wpAny (model prog w) A (call (.builtin "list.append") [acc,x]) (λ _ Y=> ∃m,m<n/\I m Y) (λ _ _=>False) ac) (λ _ _=>False) W
      else ∃m,m<n/\I m W) (λ _ _=>False) s₂) (λ _ _=>False) O) (λ _ _=>False) s₁) (λ _ _=>False) s)
  (n:Nat) (h:I n s):
  codeAny (model prog w) A (.compLoop (.ListComp elt [#[target,iter,ifs,0]] scope pos) 0 it acc env) R s:=by
 refine codeAny_loop rfl I (λ n s hI=> ?_) n h;change wpAny _ A ((compTurn (.ListComp elt [#[target,iter,ifs,0]] scope pos) 0 it acc env).onRaise (λ x=>do noteFrame x env;theTreesLotGoes x)) _ _ s;refine wpAny_noted ?_;rw [compTurn_list];refine Yv (E:=λ _ _=>False) ?_ (λ _ _ q=>q) (λ _ _ z=>z.elim);refine Qb (wpAny_standAt (Qb (Yv (turn n s hI) (λ r s₁ h₁=> ?_) λ _ _ h'=>h')))
 cases r with
 | none=>show Zc h₁
 | some v=>
  refine Qb (Yv h₁ (λ _ O ad=> ?_) λ _ _ h'=>h');refine Qb (Yv ad (λ _ s₂ af=>Qb (Yv af (λ ok W ab=> ?_) λ _ _ h'=>h')) λ _ _ h'=>h')
  cases ok with
  | false=>show Zc #[rfl,ab]
  | true=>
   show Qb (Qb (Yv ab (λ x ac ag=>Qb (Yv ag (λ _ Y ae=>Zc (Zc #[rfl,ae])) λ _ _ h'=>h')) λ _ _ h'=>h'))
end
theorem HOk.track {P:Program} {h:Heap} {o:HO} (x:HOk P w H h) (hn:H a=none) (new:ObjOk P w (upd H a o) h a o):HOk P w (upd H a o) h:=λ b u e=>by
 by_cases O:b=a
 .subst O;rw [ao] at e;cases e;show new
 .rw [aq O] at e;show(x b u e).stay (λ c v _ q=>q) (λ c q=>by rw [aq (aF q hn)];show q) λ c xs q=>by rw [aq (aF q hn)];show q
section
variable {X:Cx} {pins:List (Addr×Obj)} {σ:St} {H2:Hp} {s₂:Shared} {tg iter elt:Expr} {ifs:List Expr} {sc:Scope} {pos:Pos} {N':List Str} {κ:List (Option Nat)} {cl:List (Str×Addr)} {it:Addr} {fp:List Addr} {tn:Nat->Heap->Prop} {J:It} {g:TG} {tc:TT} {te:TE}
theorem Lp (I:Inv X pins σ H2 s₂) (f2: ∀b∈fp,jq X pins H2 b) (fl: ∀b∈fp,b<s₂.heap.objs.size) (S:CScope X.env.scope sc)
  (hcl1: ∀x c,cl.lookup x=some c->X.env.cells.lookup x=some c) (hcl2: ∀x c,X.env.cells.lookup x=some c->(x,NameKind.free)∈sc.names->cl.lookup x=some c) (hC:s₂.heap.objs.size<=C):
  (blk X sc N' cl C s₂ H2 fp pins).Ok where
 mod:=I.mod
 kind:=S.kind
 glob:=I.ok.glob
 blt:=I.ok.blt
 above:=hC
 inj:=λ x y c h1 h2=>I.ok.inj x y c (hcl1 _ _ h1) (hcl1 _ _ h2)
 has:=λ x h=>by
  have W:=S.free_of (env:=X.env) h;let#[c,hc]:=I.ok.has x (S.frees _ W rfl);show#[c,hcl2 x c hc W]
 cab:=λ x c h _=>by cases h
 hd:=I.ok.hd
 frames:=I.ok.frames
 stk:= .inl rfl
 exf:=λ b O=>#[Nat.ne_of_lt (Zx (fl b O) hC),λ x c hx=>(f2 b O).2.2.2.2.1 x c (hcl1 x c hx)]
 bs:=I.bs
 bsz:=Yl I.ok.bsz I.sz
 noex:=λ b o O W=>by
  let#[_,_,_,Y,_]:=f2 b W;rcases Y with Y | Y
  .exact I.ok.noex b o O Y
  .exact absurd (Zh (I.ok.bs b o O).1) (Nat.not_lt.mpr Y)
 exfs:=λ b O W=>by
  rcases Zk.mp (I.stkSub b W) with z | z
  .exact (f2 b O).2.1 z
  .exact (f2 b O).2.2.1 z
 funs:=I.stack
 frf:=I.stkFree
theorem xG (I:Inv X pins σ H2 s₂) (f2: ∀b∈fp,jq X pins H2 b) (fl: ∀b∈fp,b<s₂.heap.objs.size) (S:CScope X.env.scope sc) (hcap:capOk κ N' X.N sc=true)
  (hcl1: ∀x c,cl.lookup x=some c->X.env.cells.lookup x=some c) (hcl2: ∀x c,X.env.cells.lookup x=some c->(x,NameKind.free)∈sc.names->cl.lookup x=some c) (hC:s₂.heap.objs.size<=C)
  {tk:Nat} (hn:h'.Ns C m') (old: ∀b o,s₂.heap.get? b=some o->h'.get? b=some o):
  Inv (blk X sc N' cl C s₂ H2 fp pins) [] (cap κ σ) H2 { s₂ with heap:=h',toks:=tk } where
 ok:=Lp I f2 fl S hcl1 hcl2 hC
 os:=rfl
 bare:=I.bare
 base:=Un.kept old
 loc:=⟨m',hn,λ j y v hy hv ab=>by
  let#[i,hi,hs,hf]:=capOk.at hcap hy hv;have hm:=mem_lookup hf;have O:=S.frees _ hm rfl;let#[m,_,hl]:=I.loc;let#[u,ru,lk]:=hl i y v hi hs (.inr O);refine#[u,ru, .inr #[S.cell_of (env:=X.env) rfl I.ok.kind hf,?_]];rcases lk with ⟨hk,_⟩ | ⟨_,c,hc,hu⟩
  .have Y:X.env.scope.names.lookup y=some .local:=hk;rcases O with z | z<;>(have z':X.env.scope.names.lookup y=_:=z;rw [Y] at z';cases z')
  .obtain ⟨o,e,r⟩:=hu;show⟨c,hcl2 y c hc hm,o,old _ _ e,r⟩⟩
 cell:=λ x c hx=>by
  let#[v,o,e,r]:=I.cell x c (hcl1 x c hx);show#[v,o,old _ _ e,r]
 free:=I.hok.fresh hC
 freeC:=λ x c hx=>I.freeC x c (hcl1 x c hx)
 pin:=λ p hp=>by
  have W:p∈X.pn++pins:=by simpa using hp
  let#[h1,h2,h3,h4,h5]:=I.pin p W;refine#[old _ _ h1,h2,Yb (Zx (Zh h1) hC),λ z=> ?_,h5];rcases Zk.mp (I.stkSub p.1 z) with y | y
  .exact h3 y
  .exact h4 y
 hok:=I.hok.kept old
 len:=by
  change(cap κ σ).length=N'.length;unfold cap;rw [Qr];show capOk.len hcap
structure Left (X:Cx) (pins:List (Addr×Obj)) (σ:St) (C:Addr) (H:Hp) (s:Shared):Prop where
 inv:Inv X pins σ H s
 ns: ∃m,s.heap.Ns C m
 un:H C=none
 nl:C≠X.env.locals
 nf:C∉X.fs
 ab:X.s₀.heap.objs.size<=C
 nc: ∀x c,X.env.cells.lookup x=some c->c≠C
 np: ∀p∈X.pn++pins,p.1≠C
theorem Left.go {s:Shared} (l:Left X pins σ C H s) (hs:Heap.SameBut C s.heap h'):Inv X pins σ H { s with heap:=h' }:=
 l.inv.turned (t':=s.toks) (λ b o O e=>hs.extBut b o O e) l.un l.nl (.inr l.ab) l.nc l.np
theorem xH (hc:X.calm=true) (I:Inv X pins σ H2 s₂) (T:Turn X.prog X.w X.K tg J fp it tn) (st:tn 0 s₂.heap) (f2: ∀b∈fp,jq X pins H2 b)
  (S:CScope X.env.scope sc) (hcap:capOk κ N' X.N sc=true) (hcl1: ∀x c,cl.lookup x=some c->X.env.cells.lookup x=some c) (hcl2: ∀x c,X.env.cells.lookup x=some c->(x,NameKind.free)∈sc.names->cl.lookup x=some c)
  (hg: ∀C,PG (blk X sc N' cl C s₂ H2 fp pins) tg g) (hi: ∀C,uI (blk X sc N' cl C s₂ H2 fp pins) ifs tc) (he: ∀C,PE (blk X sc N' cl C s₂ H2 fp pins) elt te)
  {W:Nat->Nat->List V->Hp->Prop} {Q:VK} {m0:Nat} (w0:W 0 m0 [] H2)
  (turn: ∀i m ys H,W i m ys H->(J.stop i H/\ ∀p,H p=none->Q (.ref p) (upd H p (.lst ys)))\/
   (J.go i H/\ys.length<sizeLine/\ ∃N:List V->Hp->Prop,(∀a4 H',N a4 H'-> ∃m',m'<m/\W (i+1) m' a4 H')/\ ∀x H',J.yld i H x H'->g x (cap κ σ) H' λ as H2=>oJ (cap κ σ) as/\tc as H2 λ b H3=>if b=true then te as H3 λ y H4=>N (ys++[y]) H4 else N ys H3))
  (hRR: ∀D C H' s1,Left X pins σ C H' s1->Q (.ref D) H'->RR (.ref D) C (.ok .next) s1):
  wpAny (model X.prog X.w) X.A (newList []) (λ a3 ad=>wpAny (model X.prog X.w) X.A (newFunctionEnv sc X.env.globals cl [] X.env.qual none .none (some X.env)) (λ am a7=>
   codeAny (model X.prog X.w) X.A (.compStart (.ListComp elt [#[tg,iter,ifs,0]] sc pos) 0 (.ref it) a3 { am with scope:=relabel sc X.env }) (RR a3 am.locals) a7) E ad) E s₂:=by
 refine Ys (wpAny_newFunctionEnv S.nocell (by intro y hy;simp at hy) (λ h₁ ac ab=> ?_) S.kind);dsimp only at ac ab ⊢;generalize hH2:s₂.heap.push { cls:= .type "list",dict:=none,data:= .seq ([]:List Value).toArray }=P2 at ac ab ⊢;have ah:P2.objs.size=s₂.heap.objs.size+1:=by rw [<- hH2,Heap.size_push]
 generalize hCe:P2.objs.size=C at ac ab ah ⊢;generalize hDe:s₂.heap.objs.size=D at ah ⊢;have ai:D≠C:=by rw [ah];show Yb (Nat.lt_succ_self _)
 have hC:s₂.heap.objs.size<=C:=by rw [hDe,ah];show Nat.le_succ _
 have hD:s₂.heap.objs.size<=D:=by rw [hDe];show Zm _
 have O: ∀b,b<s₂.heap.objs.size->b≠C/\b≠D:=λ b hb=>#[Nat.ne_of_lt (Zx hb hC),Yb (Zx hb hD)]
 have a6: ∀b o,s₂.heap.get? b=some o->h₁.get? b=some o:=λ b o e=>ab.extBut b o (O b (Zh e)).1 (Zd _ (hH2▸Zd _ e))
 have a1:h₁.get? D=some { cls:= .type "list",data:= .seq ([]:List Value).toArray ([]:List Value).length }:=by
  have q:P2.get? s₂.heap.objs.size=some { cls:= .type "list",data:= .seq ([]:List Value).toArray 0 }:=hH2▸Zo _ rfl;rw [hDe] at q;show ab.extBut _ _ ai (Zd _ q)
 have fl: ∀b∈fp,b<s₂.heap.objs.size:=λ b hb=>by
  let#[o,e,_]:=T.obj 0 _ st b hb;show Zh e
 have ae:tn 0 h₁:=T.keep 0 _ _ st λ b _ o e=>a6 b o e
 have IB: ∀tk,Inv (blk X sc N' cl C s₂ H2 fp pins) [] (cap κ σ) H2 { s₂ with heap:=h₁,toks:=tk }:=λ tk=>xG I f2 fl S hcap hcl1 hcl2 hC ac a6
 have aw: ∀x c,cl.lookup x=some c->c<s₂.heap.objs.size:=λ x c hx=>by
  let#[v,o,e,_]:=I.cell x c (hcl1 x c hx);show Zh e
 have al: ∀p∈X.pn++pins,p.1<s₂.heap.objs.size:=λ p hp=>Zh (I.pin p hp).1
 have ar: ∀ {H':Hp} {pl:List (Addr×Obj)},(∀b∈fp,H' b=none)->(∀p∈pl,p.1=D)-> ∀b∈fp,jq (blk X sc N' cl C s₂ H2 fp pins) pl H' b:=λ {H' pl} hn bg b hb=>by
  refine#[hn b hb,(O b (fl b hb)).1,λ z=> ?_, .inl hb,λ x c hx=>(f2 b hb).2.2.2.2.1 x c (hcl1 x c hx),λ p hp=> ?_]
  .rcases Zk.mp (I.stkSub b z) with z | z
   .exact (f2 b hb).2.1 z
   .exact (f2 b hb).2.2.1 z
  .rcases Zp.mp hp with z | z
   .exact (f2 b hb).2.2.2.2.2 p z
   .rw [bg p z];show Ne.symm (O b (fl b hb)).2
 have a8: ∀ {s':Shared} {σ':St} {H':Hp} {o:Obj},Inv (blk X sc N' cl C s₂ H2 fp pins) [] σ' H' s'->s'.heap.get? D=some o->H' D=none->(∀v,o.data≠ .cell v)->Inv (blk X sc N' cl C s₂ H2 fp pins) [(D,o)] σ' H' s':=λ {s' σ' H' o} I' e n d=>
  I'.pins_of λ p hp=>by
   rw [Za.mp hp];refine#[e,n,ai,λ z=> ?_,d];have z':D<s₂.heap.objs.size:=by
    rcases Zk.mp (I.stkSub D z) with y | y
    .have y':D=X.env.locals:=y;rw [y'];show I.lt
    .exact absurd y (I.nofs hD)
   show absurd z' (Nat.not_lt.mpr hD)
 have ap : ∀ ad : Shared, ad = { s₂ with heap := h₁, toks := s₂.toks + ([] : List (Str × Value)).length } ->
   codeAny (model X.prog X.w) X.A (.compLoop (.ListComp elt [#[tg,iter,ifs,0]] sc pos) 0 (.ref it) (.ref D) (compEnvC sc cl C X.env)) (RR (.ref D) C) ad:=by
  rintro ad rfl;refine pR (λ n s'=> ∃ (i:Nat) (ys:List V) (Y:List Value) (H':Hp),Inv (blk X sc N' cl C s₂ H2 fp pins) [] (cap κ σ) H' s'/\tn i s'.heap/\(∀b∈fp,H' b=none)/\
   s'.heap.get? D=some { cls:= .type "list",data:= .seq Y.toArray Y.length }/\Vals ys Y/\H' D=none/\ys.length<=sizeLine/\W i n ys H') ?_ m0
   #[0,[],[],H2,IB _,ae,λ b hb=>(f2 b hb).1,a1, .nil,I.hok.fresh hD,Yr _,w0]
  rintro n s3 ⟨i,ys,Y,H3,I3,ay,bc,d3,v3,n3,z3,w3⟩;have a9:=a8 I3 d3 n3 (by intro v z;cases z);have ff:=ar (pl:=[(D,({ cls:= .type "list",data:= .seq Y.toArray Y.length }:Obj))]) bc (λ p hp=>by rw [Za.mp hp]);rcases turn i n ys H3 w3 with ⟨stop,qn⟩ | ⟨go,hlt,N,hN,step⟩
  .refine aW (T.done (blk X sc N' cl C s₂ H2 fp pins) rfl rfl rfl hc i _ s3 (cap κ σ) H3 _ a9 ff ay stop) λ r s4 ⟨hr,I4⟩=> ?_
   subst hr;change RR (.ref D) C (.ok .next) s4;let#[dD,nD,_]:=I4.pin (D,_) (Zw _ Zt);have nC:H3 C=none:=I4.free;have u4:=I4.base;have bo:HOk X.prog X.w (upd H3 D (.lst ys)) s4.heap:=HOk.track I4.hok nD #[z3,Y,Y.length,v3,dD];have un:Un (frs X.stack) fp H2 (upd H3 D (.lst ys)) s₂.heap s4.heap:=
    ⟨u4.keep,u4.slot,λ b o q n hx=>by rw [aq (O b (Zh q)).2];show u4.free b o q n hx,u4.there,
     λ b xs q=>by rw [aq (aF (u4.tups b xs q) nD)];show u4.tups b xs q,
     λ b o x q=>by rw [aq (aF (u4.frzs b o x q) nD)];show u4.frzs b o x q,
     λ b ps q=>by
      let#[m1,e1]:=u4.tbls b ps q;show⟨m1,by rw [aq (aF e1 nD)];show e1⟩⟩
   have IX:Inv X pins σ (upd H3 D (.lst ys)) s4:=I.call' (by show I4.os) un bo I4.bare λ b hb=>#[(f2 b hb).2.2.2.1,(f2 b hb).2.1,(f2 b hb).2.2.2.2]
   let#[m4,bl,_]:=I4.loc;refine hRR D C _ s4 #[IX,#[m4,bl],by rw [aq (Ne.symm ai)];show nC,Ne.symm (O _ I.lt).1,I.nofs hC,Yl I.sz hC,λ x c hx=> ?_,λ p hp=>(O _ (al p hp)).1] (qn D nD);let#[v,o,e,_]:=I.cell x c hx;show(O c (Zh e)).1
  .refine aW (T.item (blk X sc N' cl C s₂ H2 fp pins) rfl rfl rfl hc i _ s3 (cap κ σ) H3 _ a9 ff ay go) λ r s4 ⟨u,hr,h4⟩=> ?_
   subst hr;refine aW h4 λ _ s5 ⟨x,H5,I5,r5,y5,ax,bn⟩=> ?_
   have bb:=ar (pl:=[(D,({ cls:= .type "list",data:= .seq Y.toArray Y.length }:Obj))]) bn (λ p hp=>by rw [Za.mp hp]);have be:=I5.pinned bb (T.obj _ _ ax);refine aW (hg C _ s5 (cap κ σ) H5 x u _ be r5 (step x H5 y5)) λ _ s6 ⟨af,H6,I6,ag,q6⟩=> ?_
   refine aW (hi C _ s6 af H6 _ I6 q6) λ ok s7 ⟨H7,I7,q7⟩=> ?_
   have keep: ∀ {a5:St} {H8:Hp} {s8:Shared},Inv (blk X sc N' cl C s₂ H2 fp pins) ([(D,({ cls:= .type "list",data:= .seq Y.toArray Y.length }:Obj))]++jr fp s5.heap) a5 H8 s8->
     tn (i+1) s8.heap/\(∀b∈fp,H8 b=none)/\s8.heap.get? D=some { cls:= .type "list",data:= .seq Y.toArray Y.length }/\H8 D=none:=λ {a5 H8 s8} I8=>by
    refine#[T.keep _ _ _ ax λ b hb o e=>(I8.pin (b,o) (Zw _ (Zw _ (cZ hb e)))).1,λ b hb=> ?_,?_]
    .obtain ⟨o,e,d⟩:=T.obj _ _ ax b hb;show(I8.pin (b,o) (Zw _ (Zw _ (cZ hb e)))).2.1
    .obtain ⟨e,n,_⟩:=I8.pin (D,_) (Zw _ (Ym _ Zt));show#[e,n]
   cases ok with
   | false=>
    have av:N ys H7:=by simpa using q7
    let#[m',hm,w7]:=hN _ _ av;let#[t8,f8,d8,n8]:=keep I7;change ∃m,m<n/\_;show#[m',hm,i+1,ys,Y,H7,(I7.pins_of (pins':=[]) (λ p hp=>nomatch hp)).weak ag.1.symm ag.2,t8,f8,d8,v3,n8,z3,w7]
   | true=>
    have av:te af H7 λ y H4=>N (ys++[y]) H4:=by simpa using q7
    change wpAny _ _ (eval elt (compEnvC sc cl C X.env)) _ _ s7;refine aW (he C _ s7 af H7 _ I7 av) λ v s8 ⟨y,H8,I8,r8,q8⟩=> ?_
    let#[m',hm,w8]:=hN _ _ q8;let#[t8,f8,d8,n8]:=keep I8;refine append_at (hsz:=by rw [Zy,<- v3.length];show z3) d8 λ h9 a2 bi=> ?_
    have I9:Inv (blk X sc N' cl C s₂ H2 fp pins) [] af H8 { s8 with heap:=h9,toks:=s8.toks }:=by
     refine(I8.pins_of (pins':=[]) (λ p hp=>nomatch hp)).turned (λ b o hb e=>a2.extBut b o hb e) n8 ai (.inr hD) (λ x c hx=>(O c (aw x c hx)).2) λ p hp=> ?_
     have bd:p∈X.pn++pins:=by simpa using hp
     show(O _ (al p bd)).2
    refine#[m',hm,i+1,ys++[y],Y++[v],H8,I9.weak ag.1.symm ag.2,T.keep _ _ _ t8 λ b hb o e=>a2.extBut b o (O b (fl b hb)).2 e,f8,?_,Vals.append v3 (.cons r8 .nil),n8,?_,w8]
    .show h9.get? D=_;rw [bi];simp
    .rw [Zq,Yf];show hlt
 show codeAny_compStart_list (ap _ rfl) (T.self X.A 0 _ _ _ ae (ap _ rfl))
def uf (κ:List (Option Nat)) (wi:TI) (g:TG) (tc:TT) (te:TE):TE:=λ σ H Q=>wi σ H λ J H1=> ∃W:Nat->Nat->List V->Hp->Prop,(∃m,W 0 m [] H1)/\ ∀i m ys H,W i m ys H->
 (J.stop i H/\ ∀p,H p=none->Q (.ref p) (upd H p (.lst ys)))\/
 (J.go i H/\ys.length<sizeLine/\ ∃N:List V->Hp->Prop,(∀ys' H',N ys' H'-> ∃m',m'<m/\W (i+1) m' ys' H')/\ ∀x H',J.yld i H x H'->g x (cap κ σ) H' λ σ2 H2=>oJ (cap κ σ) σ2/\tc σ2 H2 λ b H3=>if b=true then te σ2 H3 λ y H4=>N (ys++[y]) H4 else N ys H3)
theorem QS (κ:List (Option Nat)) (N':List Str) (hc:X.calm=true) (hit:PI X tg iter wi) (S:CScope X.env.scope sc) (hcap:capOk κ N' X.N sc=true)
  (hg: ∀cl C s H fp pins,PG (blk X sc N' cl C s H fp pins) tg g) (hi: ∀cl C s H fp pins,uI (blk X sc N' cl C s H fp pins) ifs tc) (he: ∀cl C s H fp pins,PE (blk X sc N' cl C s H fp pins) elt te)
  (hs: ∀x,foldedSetIterable iter X.env x=pure x:=by intro _;rfl):PE X (.ListComp elt [#[tg,iter,ifs,0]] sc pos) (uf κ wi g tc te):=by
 intro pins s σ H Q I h;let#[cl,O,Y,ab]:=pP (sc:=sc) (env:=X.env) λ y hy hf=>I.ok.has y.1 (S.frees y hy hf)
 rw [eval_ListComp];refine wpAny_comprehension_free (use:=none) rfl hs O S.kind S.locs (aW (hit pins s σ H _ I h) λ v s1 h1=>aW h1 λ af s2 h2=> ?_);let#[it,fp,tn,J,H2,e,I2,T,ad,f2,W,#[m0,w0],ac]:=h2;subst e;refine xH hc I2 T ad f2 S hcap Y ab (λ C=>hg cl C s2 H2 fp pins) (λ C=>hi cl C s2 H2 fp pins) (λ C=>he cl C s2 H2 fp pins) w0 ac λ D C H' s1 l q=> ?_
 let#[m,hn]:=l.ns;show#[m,hn,λ h' ae=>#[V.ref D,H',l.go ae,rfl,q]]
theorem Jz {px spos:Pos} (κ:List (Option Nat)) (N':List Str) (hc:X.calm=true) (hN:X.N.Nodup) (hix:X.N[i]? =some x) (hlx:X.env.scope.names.lookup x=some .local)
  (hit:PI X tg iter wi) (S:CScope X.env.scope sc) (hcap:capOk κ N' X.N sc=true)
  (hg: ∀cl C s H fp pins,PG (blk X sc N' cl C s H fp pins) tg g) (hi: ∀cl C s H fp pins,uI (blk X sc N' cl C s H fp pins) ifs tc) (he: ∀cl C s H fp pins,PE (blk X sc N' cl C s H fp pins) elt te)
  (hsw:swapsWith (.ListComp elt [#[tg,iter,ifs,0]] sc pos) (some (.Name x px)) spos.line X.env=pure true:=by rfl)
  (hs: ∀x,foldedSetIterable iter X.env x=pure x:=by intro _;rfl):PS X (.Assign [.Name x px] (.ListComp elt [#[tg,iter,ifs,0]] sc pos) spos) (aM (uf κ wi g tc te) (aA i)):=by
 intro pins s σ H D I h;let#[cl,O,Y,ac]:=pP (sc:=sc) (env:=X.env) λ y hy hf=>I.ok.has y.1 (S.frees y hy hf)
 rw [exec_Assign_Name_used _ _ _ _ hsw];refine Qb (wpAny_standAt (Qb ?_));change wpAny _ X.A (do let _ <- comprehension (.ListComp elt [⟨tg,iter,ifs,0⟩] sc pos) sc X.env _ (newList []) false (eval iter X.env) (some (assign (.Name x px) X.env))) _ _ s;refine Qb (Yv (wpAny_comprehension_free (use:=some (assign (.Name x px) X.env)) (Q:=λ _ s'=>SP X pins D .next s') rfl hs O S.kind S.locs
  (aW (hit pins s σ H _ I h) λ v s1 h1=>aW h1 λ ai s2 h2=> ?_)) (λ _ s' hq=>Zc (Zc hq)) λ _ _ e=>e)
 let#[it,fp,tn,J,H2,e,I2,T,af,f2,W,#[m0,w0],ad]:=h2;subst e;refine xH (Q:=λ y H1=>aA i y σ H1 D.nx) hc I2 T af f2 S hcap Y ac (λ C=>hg cl C s2 H2 fp pins) (λ C=>hi cl C s2 H2 fp pins) (λ C=>he cl C s2 H2 fp pins) w0 ad λ Dl C H' s1 l q=> ?_
 change wpAny _ X.A (assign (.Name x px) X.env (.ref Dl)) _ _ _;refine wpAny_assign_Name (nQ l.inv hN hix (.inl hlx) (v:= .ref Dl) rfl (λ s3 I3 ⟨a,ae,ha⟩=> ?_) (.inr hlx));let#[m,hn]:=l.ns;have ag:C≠a:=by
  rcases ha with z | z
  .rw [z];show l.nl
  .exact Ne.symm (l.nc x a z)
 refine#[m,hn.sameBut ae ag,λ h' ah=> ?_];have I4:Inv X pins (σ.set i (some (.ref Dl))) H' { s3 with heap:=h' }:=I3.turned (t':=s3.toks) (λ b o hb e=>ah.extBut b o hb e) l.un l.nl (.inr l.ab) l.nc l.np;show#[_,_,I4,q]
end
section
variable {κ:List (Option Nat)} {g:TG} {tc:TT} {te:TE} {σ:St} {H:Hp} {Q:VK}
theorem Bd {lo:Int} (Pv:Nat->List V->Hp->Prop) (h0:Pv 0 [] H) (hn:n<=sizeLine) (hz: ∀i ys H,Pv i ys H->ys.length<=i)
  (hs: ∀i ys H,i<n->Pv i ys H->g (.int (lo+i)) (cap κ σ) H λ O H2=>oJ (cap κ σ) O/\tc O H2 λ b H3=>if b=true then te O H3 λ y H4=>Pv (i+1) (ys++[y]) H4 else Pv (i+1) ys H3)
  (hd: ∀ys H,Pv n ys H-> ∀p,H p=none->Q (.ref p) (upd H p (.lst ys))):
  ∃W:Nat->Nat->List V->Hp->Prop,(∃m,W 0 m [] H)/\ ∀i m ys H,W i m ys H->
   ((yw lo n).stop i H/\ ∀p,H p=none->Q (.ref p) (upd H p (.lst ys)))\/
   ((yw lo n).go i H/\ys.length<sizeLine/\ ∃N:List V->Hp->Prop,(∀ab H',N ab H'-> ∃m',m'<m/\W (i+1) m' ab H')/\ ∀x H',(yw lo n).yld i H x H'->g x (cap κ σ) H' λ O H2=>oJ (cap κ σ) O/\tc O H2 λ b H3=>if b=true then te O H3 λ y H4=>N (ys++[y]) H4 else N ys H3):=by
 refine#[λ i m ys H=>m=n-i/\i<=n/\Pv i ys H,#[n,by simp,Yr _,h0],?_];rintro i m ys H ⟨rfl,hi,p⟩;by_cases Y:i<n
 .refine .inr #[Y,Zx (Yj (hz _ _ _ p) Y) hn,Pv (i+1),λ ab H' p'=>#[n-(i+1),(),rfl,Y,p'],λ x H' y=> ?_];let#[e,y]:=y;subst e y;show hs i ys _ Y p
 .have e:i=n:=()
  subst e;show .inl #[Nat.le_refl _,hd ys H p]
theorem Hu {K:W.Frag} {xs:List V} (Pv:Nat->List V->Hp->Prop) (h0:Pv 0 [] H) (hn:xs.length<=sizeLine) (hl: ∀i ys H,i<=xs.length->Pv i ys H->SqL K H a xs) (hz: ∀i ys H,Pv i ys H->ys.length<=i)
  (hs: ∀i x ys H,xs[i]? =some x->Pv i ys H->g x (cap κ σ) H λ O H2=>oJ (cap κ σ) O/\tc O H2 λ b H3=>if b=true then te O H3 λ y H4=>Pv (i+1) (ys++[y]) H4 else Pv (i+1) ys H3)
  (hd: ∀ys H,Pv xs.length ys H-> ∀p,H p=none->Q (.ref p) (upd H p (.lst ys))):
  ∃W:Nat->Nat->List V->Hp->Prop,(∃m,W 0 m [] H)/\ ∀i m ys H,W i m ys H->
   ((GJ K a).stop i H/\ ∀p,H p=none->Q (.ref p) (upd H p (.lst ys)))\/
   ((GJ K a).go i H/\ys.length<sizeLine/\ ∃N:List V->Hp->Prop,(∀Y H',N Y H'-> ∃m',m'<m/\W (i+1) m' Y H')/\ ∀x H',(GJ K a).yld i H x H'->g x (cap κ σ) H' λ O H2=>oJ (cap κ σ) O/\tc O H2 λ b H3=>if b=true then te O H3 λ y H4=>N (ys++[y]) H4 else N ys H3):=by
 refine#[λ i m ys H=>m=xs.length-i/\i<=xs.length/\Pv i ys H,#[xs.length,by simp,Yr _,h0],?_];rintro i m ys H ⟨rfl,hi,p⟩;have q:=hl i ys H hi p;by_cases ab:i<xs.length
 .refine .inr #[#[xs,xs[i],q,by simp [ab]],Zx (Yj (hz _ _ _ p) ab) hn,Pv (i+1),λ Y H' p'=>#[xs.length-(i+1),(),rfl,ab,p'],λ x H' y=> ?_];let#[e,y]:=y;subst e;show hs i x ys _ (y xs q) p
 .have e:i=xs.length:=()
  subst e;show .inl #[#[xs,q,Zm _],hd ys H p]
end
mutual
inductive Dp (K:W.Frag) (H:Hp):V->PyData->Prop where
 | non:Dp K H .non .none
 | bl (b:Bool):Dp K H (.bl b) (.bool b)
 | int (i:Int):Dp K H (.int i) (.int i)
 | str (x:Str):Dp K H (.str x) (.str x)
 | lst {a:Addr} {xs:List V} {ds:List PyData}:SqL K H a xs->DpAll K H xs ds->Dp K H (.ref a) (.list ds)
 | tup {a:Addr} {xs:List V} {ds:List PyData}:SqT K H a xs->DpAll K H xs ds->Dp K H (.ref a) (.tuple ds)
inductive DpAll (K:W.Frag) (H:Hp):List V->List PyData->Prop where
 | nil:DpAll K H [] []
 | cons {x:V} {xs:List V} {d:PyData} {ds:List PyData}:Dp K H x d->DpAll K H xs ds->DpAll K H (x::xs) (d::ds)
end
theorem DpAll.ints {K:W.Frag}: ∀ns:List Int,DpAll K H (ns.map V.int) (ns.map PyData.int)
 | []=> .nil
 | n::r=> .cons (.int n) (DpAll.ints r)
section
variable {X:Cx} {pins:List (Addr×Obj)} {σ:St} {H:Hp} {s:Shared}
mutual
theorem Dp.reads (I:Inv X pins σ H s): ∀ {x:V} {d:PyData} {u:Value},Dp X.K H x d->RelV x u-> ∃as,Reads s.heap u d as
 | _,_,_, .non,r=>by cases (show _=Value.none from r);show#[_, .none]
 | _,_,_, .bl b,r=>by cases (show _=Value.bool b from r);show#[_, .bool b]
 | _,_,_, .int i,r=>by let#[t,rfl]:=r;show#[_, .int i t]
 | _,_,_, .str x,r=>by let#[t,rfl]:=r;show#[_, .str x t]
 | _,_,_, .lst (a:=a) h hs,r=>by
  cases (show _=Value.ref a from r);let#[W,O,p,_]:=I.list h;let#[as,q]:=DpAll.reads I hs O;let#[o,n,e,hc,_,Y]:=p;show#[_, .list e hc Y (by simpa using q)]
 | _,_,_, .tup (a:=a) h hs,r=>by
  cases (show _=Value.ref a from r);let#[W,O,p,_]:=I.tuple h;let#[as,q]:=DpAll.reads I hs O;let#[o,e,hc,n,Y]:=p;show#[_, .tuple e hc Y (by simpa using q)]
theorem DpAll.reads (I:Inv X pins σ H s): ∀ {xs:List V} {ds:List PyData} {us:List Value},DpAll X.K H xs ds->Vals xs us-> ∃as,ReadsAll s.heap us ds as
 | _,_,_, .nil,r=>by cases r;show#[_, .nil]
 | _,_,_, .cons h hs,r=>by
  cases r with
  | cons r rr=>
   let#[as,q]:=Dp.reads I h r;let#[bs,p]:=DpAll.reads I hs rr;show#[_, .cons q p]
end
def rEqD (K:W.Frag):R2:=λ x y H Q=> ∃d e,Dp K H x d/\Dp K H y e/\SeqAt.shaped d=true/\SeqAt.shaped e=true/\Q (.bl (PyData.eqv d e)) H
def rNeD (K:W.Frag):R2:=λ x y H Q=> ∃d e,Dp K H x d/\Dp K H y e/\SeqAt.shaped d=true/\SeqAt.shaped e=true/\Q (.bl (!PyData.eqv d e)) H
theorem Lq (hu:X.A.units+64<cLine):gA X (compareOp .Eq) (rEqD X.K):=by
 intro O s σ H x y v u Q I rx Y h;let#[d,e,h1,h2,h3,W,q]:=h;let#[as,r1]:=h1.reads I rx;let#[bs,r2]:=h2.reads I Y;show eq_dataH r1 r2 h3 W hu #[.bl _,H,I,rfl,q]
theorem Lr (hu:X.A.units+64<cLine):gA X (compareOp .NotEq) (rNeD X.K):=by
 intro O s σ H x y v u Q I rx Y h;let#[d,e,h1,h2,h3,W,q]:=h;let#[as,r1]:=h1.reads I rx;let#[bs,r2]:=h2.reads I Y;show ne_dataH r1 r2 h3 W hu #[.bl _,H,I,rfl,q]
end
theorem gF: ∀ns ms:List Int,PyData.eqvAll (ns.map PyData.int) (ms.map PyData.int)=decide (ns=ms)
 | [],[]=>by simp [PyData.eqvAll]
 | [],_::_=>by simp [PyData.eqvAll]
 | _::_,[]=>by simp [PyData.eqvAll]
 | n::r,m::q=>by
  simp only [Zl,PyData.eqvAll,PyData.eqv,gF r q];by_cases h:n=m<;>simp [h]
section
variable {X:Cx}
theorem rY:bG X (.builtin "isinstance") (λ xs H Q=> ∃T x t b,xs=[x, .ty T]/\TyOf X.K H x t/\PySem.W.kitOne X.K t (.type T)=some b/\Q (.bl b) H):=by
 intro Y s σ H xs us Q I rv h;let#[T,x,t,b,rfl,ty,e,q]:=h;let#[u,u',rfl,ru,O]:=rv.two
 cases (show u'=Value.type T from O);show yF I ru ty e λ tk=>#[.bl b,H,I.tok tk,rfl,q]
theorem oK:gA X (compareOp .LtE) (λ x y H Q=> ∃i j,x= .str i/\y= .str j/\Q (.bl (!(decide (j.cps.toList<i.cps.toList)))) H):=by
 intro O s σ H x y v u Q I W Y h;let#[i,j,rfl,rfl,q]:=h;let#[t,rfl]:=W;let#[t',rfl]:=Y;show PySem.P.le_str (aU I q (by simp))
theorem Be (hc:X.calm=true):bG X (.builtin "sum") (λ xs H Q=> ∃ (a:Addr) (ns:List Int),xs=[.ref a]/\SqL X.K H a (ns.map V.int)/\Q (.int ns.sum) H):=by
 intro W s σ H xs us Q I rv h;let#[a,ns,rfl,hx,q]:=h;let#[u,rfl,ru]:=rv.one
 cases (show u=Value.ref a from ru);let#[O,r,Y,hz]:=I.list hx;have hi:=intsAre_of r;let#[xs,e]:=hi.allInts.items;rw [e] at Y;refine sum_intListG (I.ok.hd hc) Y.isList λ h' tk t' hk=> ?_
 have es:preSum (numAt xs) xs.size=ns.sum:=by
  rw [preSum_eq,Yu (by simp),<- nums_intItems,<- e];change(numsOf O.toArray.toList).sum=_;rw [show O.toArray.toList=O from rfl,hi.numsOf]
 rw [es];show#[.int _,H,I.kept hk,#[_,rfl],q]
end
section
variable {X:Cx} {tg:Expr}
def We (x:Str):It:=#[λ i _=>i<x.cps.size,λ i H v H'=>H'=H/\ ∃c,x.cps[i]? =some c/\v= .str #[([c].toArray)],λ i _=>i=x.cps.size]
def WW (tl:TE):TI:=λ σ H R=>tl σ H λ x H1=> ∃z,x= .str z/\R (We z) H1
def QT (lo c:Int) (n:Nat):It:=#[λ i _=>i<n,λ i H x H'=>H'=H/\x= .int (lo+i*c),λ i _=>n<=i]
def Wg (ta:TA):TI:=λ σ H R=>ta σ H λ vs H1=> ∃ (i j c:Int) (n:Nat),vs=[.int i, .int j, .int c]/\c≠0/\Builtin.Range.small i j c=true/\Builtin.divisionGoesByPylong (j-i) c=false/\Builtin.Range.rangeSize i j c=(n:Int)/\R (QT i c n) H1
end
def Wh (K:W.Frag) (a b:Addr):It:=
 ⟨λ i H=> ∃xs ys x y,SqL K H a xs/\SqL K H b ys/\xs[i]? =some x/\ys[i]? =some y,
  λ i H v H'=> ∃p x y,H p=none/\v= .ref p/\H'=upd H p (.tup [x,y])/\(∀xs,SqL K H a xs->xs[i]? =some x)/\ ∀ys,SqL K H b ys->ys[i]? =some y,
  λ i H=> ∃xs ys,SqL K H a xs/\SqL K H b ys/\(xs.length<=i\/ys.length<=i)⟩
structure ZipSt (z TI TO i1 i2 a b:Addr) (i:Nat) (h:Heap):Prop where
 hz:IsZip h z TI TO .none
 hTI:IsPair h TI (.ref i1) (.ref i2)
 hTO: ∃u v,IsPair h TO u v
 h1:h.IsListIter i1 a i
 h2:h.IsListIter i2 b i
structure ZipNe (z TI TO i1 i2:Addr):Prop where
 TIz:TI≠z
 TOz:TO≠z
 i1z:i1≠z
 i2z:i2≠z
 TITO:TI≠TO
 TIi1:TI≠i1
 TIi2:TI≠i2
 TOi1:TO≠i1
 TOi2:TO≠i2
 i12:i1≠i2
theorem Inv.turnedAll {X:Cx} {s:Shared} {t':Nat} (I:Inv X pins σ H s) (k: ∀b o,b∉ch->s.heap.get? b=some o->h'.get? b=some o)
  (hf: ∀b∈ch,jq X pins H b):Inv X pins σ H { s with heap:=h',toks:=t' }:=by
 have W: ∀b u,H b=some u->b∉ch:=λ b u e z=>by rw [(hf b z).1] at e;cases e
 refine I.step (g':=s.gens) (d':=s.drawn) (ch:=ch) (λ b Y=> ?_) (λ b o _ _ O e _=>k b o O e) (λ b o _ _ O e _=>#[o.slots,k b o O e]) (λ _ _ _ _ n=>n)
  (λ b o O e=>#[o,k b o O e]) (λ _ _ e=>e) (λ _ _ _ e=>e) (λ b ps e=>#[([].toArray),by rw [e];simp]) (λ m hm=> ?_) (λ b u e=> ?_) I.bare
 .exact #[(hf b Y).2.2.2.1,(hf b Y).2.1,(hf b Y).2.2.2.2.1,(hf b Y).2.2.2.2.2]
 .obtain ⟨o,es,ep,ho,r⟩:=hm;show#[o,es,ep,k _ o (λ z=>(hf _ z).2.1 rfl) ho,r]
 .refine (I.hok b u e).stay (λ c v O q=>k c v ?_ q) (λ _ q=>q) λ _ _ q=>q
  rcases O with z | z
  .rw [z];show W b u e
  .exact W c _ z
def WX (K:W.Frag) (ta:TA):TI:=λ σ H R=>ta σ H λ vs H1=> ∃a b xs ys,vs=[.ref a, .ref b]/\SqL K H1 a xs/\SqL K H1 b ys/\R (Wh K a b) H1
structure Cal (P:Program) (w:World) (K:W.Frag) (mg:Str->Option Value) (base:Heap) (n:Nat) (x:Str) (ps:List Str) (sp:Sp):Prop where
 ex: ∃ (f:Addr) (fd:FuncData),FnOk P w K mg base Hm n f fd ps sp/\Binds K fd ps []/\W.keepIn K (.ref f)=true/\mg x=some (.ref f)
section
variable {X:Cx} {n k:Nat} {x:Str} {ps:List Str} {sp:Sp} {p pos:Pos} {e:Expr} {es:List Expr} {t:TA}
theorem lR (c:Cal X.prog X.w X.K X.mg X.base n x ps sp) (hr:Room k X.A) (hk:n<=k) (hg:Gl X x) (ha:PA X (e::es) t) (hdb:(x==("__debug__":Str))=false:=by decide)
  (he:starEach (e::es) X.env=(false,eval e X.env)::starEach es X.env:=by rfl) (hpl:(backTo pos (starEach es X.env)).any (·.1)=false:=by rfl):
  PE X (.Call (.Name x p) (e::es) [] pos) (aH sp [] E0 t):=by
 let#[f,fd,F,Y,O,W]:=c.ex;show kE F (hr.mono hk) hg W O Y .nil Jw ha hdb he hpl
end
theorem small (h:n<=1000):n<=sizeLine:=Nat.le_of_lt (yM h)
theorem aB (h:H p=none) (o:HO):Same H (upd H p o):=λ b u q=>by rw [aq (aF q h)];show q
theorem Same.get (e:Same H H') {o:HO} (h:H a=some o):H' a=some o:=e a o h
theorem bf {o o':HO} (h:H p=none) (q:H a=some o):upd H p o' a=some o:=aB h o' a o q
section
variable {X:Cx} (K:W.Frag) (hK:X.K=K)
include hK
theorem Bg:Qw X (cY K):=hK▸Hh
theorem Hv:Qw X (aV K):=hK▸Lb
theorem rZ:KZ X (Ai K):=hK▸Hi
theorem lU:gA X (compareOp .In) (QQ K false):=hK▸yI
theorem pU (hu:X.A.units+64<cLine):gA X (compareOp .Eq) (rEqD K):=hK▸Lq hu
theorem Hw (hu:X.A.units+64<cLine):gA X (compareOp .NotEq) (rNeD K):=hK▸Lr hu
def bT (K:W.Frag):List V->Hp->VK->Prop:=λ xs H Q=> ∃x n,xs=[x]/\QM K x H n/\Q (.int n) H
theorem aJ:bG X (.builtin "len") (bT K):=by subst hK;show Aa
def pW (K:W.Frag):List V->Hp->VK->Prop:=λ xs H Q=> ∃p ys,xs=[.ref p]/\(SqL K H p ys\/SqT K H p ys)/\ ∀l,H l=none->Q (.ref l) (upd H l (.lst ys))
theorem nA:bG X (.type "list") (pW K):=by subst hK;show pM
def fc (K:W.Frag):List V->Hp->VK->Prop:=λ xs H Q=> ∃p ys,xs=[.ref p]/\((SqL K H p ys/\ ∀l,H l=none->Q (.ref l) (upd H l (.tup ys)))\/(SqT K H p ys/\Q (.ref p) H))
theorem cU:bG X (.type "tuple") (fc K):=by subst hK;show nu
def dZ (K:W.Frag):List V->Hp->VK->Prop:=λ xs H Q=> ∃T x t b,xs=[x, .ty T]/\TyOf K H x t/\PySem.W.kitOne K t (.type T)=some b/\Q (.bl b) H
theorem cu:bG X (.builtin "isinstance") (dZ K):=by subst hK;show rY
def Ls (K:W.Frag):List V->Hp->VK->Prop:=λ xs H Q=> ∃ (a:Addr) (ns:List Int),xs=[.ref a]/\SqL K H a (ns.map V.int)/\Q (.int ns.sum) H
theorem yQ (hc:X.calm=true):bG X (.builtin "sum") (Ls K):=by subst hK;show Be hc
theorem bN {l:Expr} (hl:PE X l tl):PI X tg l (dC K tl):=hK▸GK hl
theorem jc {l:Expr} (hl:PE X l tl):PI X tg l (rD K tl):=hK▸Ks hl
def lV (K:W.Frag) (ta:TE):TT:=λ σ H Q=>ta σ H λ x H'=> ∃k,zX K x H' k/\Q k H'
theorem cA {a:Expr} {ta:TE} (ha:PE X a ta) (he: ∀O,isTrue a X.env O=(do let v <- O;standAt a.pos;holding [v] (truthy v))):PT X a (lV K ta):=by subst hK;show zY ha he
theorem cV {es:List Expr} {t:Gu} (hc:X.calm=true) (h:QH X es t)
  (hn:(assignEach es X.env).length=n:=by rfl) (hst:(assignEach es X.env).findIdx? (·.1)=none:=by rfl):PG X (.Tuple es k pos) (j5 K n t):=by subst hK;show Kg hc h hn hst
end
section
variable {X:Cx} (K:W.Frag) (hK:X.K=K) {o e:Expr} {es:List Expr} {to:TE} {t:TA} {name:Str} {apos cpos:Pos} {T id:String} {r:V->List V->Hp->VK->Prop}
include hK
theorem Hx (pa:PlainAttrs T) (slot:Slot T name id) (hty:typeOf (.builtin id)=pure (.type "method_descriptor")) (hm:Uy X id r) (ho:PE X o to) (hbase:attributeBase o name X.env (eval o X.env)=eval o X.env:=by rfl)
  (hline:(apos.endLine==cpos.line)=true:=by rfl):PE X (.Call (.Attribute o name apos) [] [] cpos) (Hk K T r to):=by subst hK;show Lf pa slot hty hm ho hbase hline
theorem pX (pa:PlainAttrs T) (slot:Slot T name id) (hty:typeOf (.builtin id)=pure (.type "method_descriptor")) (hm:Uy X id r) (ho:PE X o to) (ha:PA X (e::es) t) (hbase:attributeBase o name X.env (eval o X.env)=eval o X.env:=by rfl)
  (hfew:((backTo cpos (starEach (e::es) X.env)).all (λ x=> !x.1)&&(backToKw cpos (keywordEach [] X.env)).all (λ x=>x.1.isSome)&&decide ((e::es).length+([]:List Keyword).length+(if ([]:List Keyword).isEmpty then 0 else 1)<30))=true:=by rfl)
  (hline:(apos.endLine==cpos.line)=true:=by rfl) (hs:starEach (e::es) X.env=(false,eval e X.env)::starEach es X.env:=by rfl) (hplain:(backTo cpos (starEach es X.env)).any (·.1)=false:=by rfl):
  PE X (.Call (.Attribute o name apos) (e::es) [] cpos) (uz K T r to t):=by subst hK;show QR pa slot hty hm ho ha hbase hfew hline hs hplain
end
abbrev bJ:R2:=pH λ i j=> .int (i+j)
abbrev lW:R2:=pH λ i j=> .int (i-j)
abbrev iH:R2:=rI CMul λ i j=> .int (i*j)
abbrev iW:R2:=rI QL λ i j=> .int (i / j)
abbrev bK:R2:=rI (λ _ j=>0<j) λ i j=> .int (i%j)
abbrev JB:R2:=rI GZ λ i j=> .int (i^j.toNat)
abbrev QV:R2:=rI GZ λ i j=> .int (i*2^j.toNat)
abbrev QW:R2:=pH λ i j=> .int (Builtin.bitAnd i j)
abbrev QX:R2:=pH λ i j=> .int (Builtin.bitXor i j)
abbrev Bh:R2:=pH λ i j=> .bl (decide (i<j))
abbrev su:R2:=pH λ i j=> .bl (decide (i<=j))
abbrev uJ:R2:=pH λ i j=> .bl (decide (j<i))
abbrev Lw:R2:=pH λ i j=> .bl (decide (j<=i))
abbrev cB:R2:=λ x y H Q=> ∃i j,x= .str i/\y= .str j/\i.length+j.length<=sizeLine/\Q (.str (i++j)) H
abbrev lX:R2:=λ x y H Q=> ∃i j,x= .str i/\y= .str j/\Q (.bl (!(decide (j.cps.toList<i.cps.toList)))) H
abbrev lY:R2:=λ x y H Q=>y= .non/\Q (.bl (decide (x= .non))) H
abbrev Bj:R2:=λ x y H Q=>y= .non/\Q (.bl (!decide (x= .non))) H
abbrev xJ:V->Hp->VK->Prop:=rU λ i=> .int (-i)
abbrev QZ:V->List V->Hp->VK->Prop:=λ x xs H Q=> ∃i,x= .int i/\xs=[]/\Q (.int (Builtin.Int.intBits i)) H
abbrev JC:List V->Hp->VK->Prop:=λ xs H Q=> ∃x,xs=[.str x]/\x.length=1/\Q (.int (x.cps.getD 0 0:Nat)) H
abbrev Bk:List V->Hp->VK->Prop:=λ xs H Q=> ∃i j,xs=[.int i, .int j]/\Q (.int (if j<i then j else i)) H
abbrev Vh:List V->Hp->VK->Prop:=λ xs H Q=> ∃i j,xs=[.int i, .int j]/\Q (.int (if j>i then j else i)) H
abbrev Hy:Kf:=Va λ i j=>i+j
theorem ObjOk.there {P:Program} {h:Heap} {o:HO} (x:ObjOk P w H h a o): ∃u,h.get? a=some u:=by
 cases o with
 | lst xs=>let#[_,_,_,_,e]:=x;show#[_,e]
 | tup xs=>let#[_,_,_,o,e,_]:=x;show#[_,e]
 | dK kvs=>let#[_,_,_,_,o,_,_,e,_]:=x;show#[_,e]
 | dT kvs=>let#[_,_,_,_,o,_,_,e,_]:=x;show#[_,e]
 | set S n=>let#[o,_,_,_,e,_]:=x;show#[_,e]
 | ins C dx fs=>let#[_,_,_,e,_]:=x;show#[_,e]
 | own y=>show x
 | xd fs=>let#[_,#[_,_,_,e,_],_]:=x;show#[_,e]
 | rng lo hi=>let#[_,_,_,e]:=x;show#[_,e]
 | frz ob u=>let#[e,_]:=x;show#[_,e]
 | tbl ps=>show#[_,(show h.get? a=some _ from x)]
 | met f y=>show#[_,(show h.get? a=some _ from x)]
 | ext φ=>let#[_,#[_,e],_]:=x;show#[_,e]
def iY (P:Program) (w:World):zG:=λ outer H s E e s'=>
 ∃ (x:Addr) (C a0:Value) (B:Heap) (H':Hp),e= .ref x/\s'.os=s.os/\AllBare s'.gens/\Un (frs outer) [] H H' s.heap s'.heap/\HOk P w H' s'.heap/\H' x=none/\
  Heap.FlyingW B outer x C a0 s'.heap/\s.heap.get? x=none/\(∀b o,s.heap.get? b=some o->b∉frs outer-> ∃u,B.get? b=some u)/\(∀b o,H' b=some o-> ∃u,B.get? b=some u)/\E C none H'
def JD (X:Cx) (E:XK):Prop:=
 ∀ (pins:List (Addr×Obj)) (σ:St) (H:Hp) (s:Shared) (x:Addr) (C:Value) (vs:List Value) (h':Heap),Inv X pins σ H s->Heap.MadeExcOf s.heap h' x C vs->E C none H->X.xe (.ref x) { s with heap:=h' }
section
variable {P:Program} {w:World} {K:W.Frag} {mg:Str->Option Value} {base:Heap} {N:List Str} {qual:Str} {sc:Scope} {f:Addr} {cd:Value} {A:Around} {outer:List Env} {s₀:Shared} {H₀:Hp} {E E':XK}
theorem fj:frs (envOfC qual sc s₀.heap.objs.size f cd::outer)=s₀.heap.objs.size::frs outer:=rfl
theorem cM:JD (iu (iY P w) P w K mg base N qual sc f cd A outer s₀ H₀ E) E:=by
 intro af σ H s x C vs h' I hx hE;have fr:(A.deeper (envOfC qual sc s₀.heap.objs.size f cd)).frames=some (envOfC qual sc s₀.heap.objs.size f cd::outer):=I.ok.frames;have FF:s.heap.FunFrames base (envOfC qual sc s₀.heap.objs.size f cd::outer):=I.stack;have u:Un (frs outer) [] H₀ H s₀.heap s.heap:=I.base;have sf: ∀b∈frs (envOfC qual sc s₀.heap.objs.size f cd::outer),H b=none:=I.stkFree;change wpAny (model P w) (A.deeper (envOfC qual sc s₀.heap.objs.size f cd)) (leaving (envOfC qual sc s₀.heap.objs.size f cd) (.ref x)) (λ _ ab=>iY P w outer H₀ s₀ E (.ref x) ab) (λ e' ab=>iY P w outer H₀ s₀ E e' ab) { s with heap:=h' };refine wpAny_leaves_madeW (base:=PySem.W.hideAll s.heap (frs (envOfC qual sc s₀.heap.objs.size f cd::outer))) fr rfl (λ b o q=>PySem.W.of_hideAll _ q) (PySem.W.funFrames_hide FF λ e he a ha=>List.mem_filterMap.mpr #[e,he,ha]) hx λ ac t x1 x2 x3 x4=> ?_
 have kept: ∀b o,s.heap.get? b=some o->b∉frs (envOfC qual sc s₀.heap.objs.size f cd::outer)->ac.get? b=some o:=λ b o e O=>x1.1 b o (PySem.W.hideAll_get _ e O)
 have slots: ∀b o,s.heap.get? b=some o->b∈frs (envOfC qual sc s₀.heap.objs.size f cd::outer)-> ∃sl,ac.get? b=some { o with slots:=sl }:=λ b o e O=>by
  let#[_,o',e',hd]:=FF.mem O;rw [e] at e'
  cases e';show x4 b o (hx.keeps b o e) hd
 have nL: ∀b o,s₀.heap.get? b=some o->b∉frs outer->b∉frs (envOfC qual sc s₀.heap.objs.size f cd::outer):=λ b o e O hm=>by
  rw [fj] at hm;rcases Zk.mp hm with z | z
  .exact absurd (Zh e) (by rw [z];show Nat.lt_irrefl _)
  .exact O z
 have ad:H x=none:=by
  cases q:H x with
  | none=>rfl
  | some o=>
   let#[v,e]:=(I.hok x o q).there;have:=hx.new;rw [e] at this;cases this
 refine#[x,C, .ref t,_,H,rfl,I.os,I.bare,#[λ b o q n O Y=>kept b o (u.keep b o q n O Y) (nL b o q O),λ b o q n O Y=> ?_,u.free,λ b o q Y=> ?_,u.tups,u.frzs,u.tbls],λ a o e=> ?_,ad,x1,?_,λ b o q O=> ?_,λ b o q=> ?_,hE]
 .obtain ⟨sl,e1⟩:=u.slot b o q n O Y;let#[ae,e2]:=slots b _ e1 (by rw [fj];show Zs _ O);show#[ae,e2]
 .obtain ⟨o',e1⟩:=u.there b o q Y;by_cases O:b∈frs (envOfC qual sc s₀.heap.objs.size f cd::outer)
  .obtain ⟨sl,e2⟩:=slots b o' e1 O;show#[_,e2]
  .exact #[_,kept b o' e1 O]
 .refine (I.hok a o e).stay (λ c v hc q=>kept c v q λ hm=> ?_) (λ _ q=>q) λ _ _ q=>q
  have z:=sf c hm;rcases hc with rfl | hc
  .rw [e] at z;cases z
  .rw [hc] at z;cases z
 .cases q:s₀.heap.get? x with
  | none=>rfl
  | some o=>
   let#[o',e1]:=u.there x o q (by simp);have:=hx.new;rw [e1] at this;cases this
 .obtain ⟨o',e1⟩:=u.there b o q (by simp);show#[_,PySem.W.hideAll_get _ e1 (nL b o q O)]
 .obtain ⟨v,e⟩:=(I.hok b o q).there;refine#[_,PySem.W.hideAll_get _ e λ hm=> ?_];rw [sf b hm] at q;cases q
theorem bZ (hE: ∀C H',E' C none H'->E C none H'):eQ (iY P w) (iu (iY P w) P w K mg base N qual sc f cd A outer s₀ H₀ E) E':=by
 intro ah σ H s e s' I h;let#[x,C,a0,B,H',rfl,ho,hg,un,ag,hx,fl,sx,d1,d2,q]:=h;have fr:(A.deeper (envOfC qual sc s₀.heap.objs.size f cd)).frames=some (envOfC qual sc s₀.heap.objs.size f cd::outer):=I.ok.frames;have u:Un (frs outer) [] H₀ H s₀.heap s.heap:=I.base;have un:Un (frs (envOfC qual sc s₀.heap.objs.size f cd::outer)) [] H H' s.heap s'.heap:=un;have fl:Heap.FlyingW B (envOfC qual sc s₀.heap.objs.size f cd::outer) x C a0 s'.heap:=fl;have d1: ∀b o,s.heap.get? b=some o->b∉frs (envOfC qual sc s₀.heap.objs.size f cd::outer)-> ∃u,B.get? b=some u:=d1;change wpAny (model P w) (A.deeper (envOfC qual sc s₀.heap.objs.size f cd)) (leaving (envOfC qual sc s₀.heap.objs.size f cd) (.ref x)) (λ _ ab=>iY P w outer H₀ s₀ E (.ref x) ab) (λ e' ab=>iY P w outer H₀ s₀ E e' ab) s';refine wpAny_leaves_onW fr rfl fl λ af ac up=> ?_
 have nL: ∀b o,s₀.heap.get? b=some o->b∉frs outer->b∉frs (envOfC qual sc s₀.heap.objs.size f cd::outer):=λ b o e hb hm=>by
  rw [fj] at hm;rcases Zk.mp hm with z | z
  .exact absurd (Zh e) (by rw [z];show Nat.lt_irrefl _)
  .exact hb z
 have Y: ∀b o,s'.heap.get? b=some o->(∃v,B.get? b=some v)->af.get? b=some o:=λ b o e ⟨v,hv⟩=>by
  have z:=fl.1 b v hv;rw [e] at z
  cases z;show ac.1 b o hv
 have slots: ∀b o,s'.heap.get? b=some o->b∈frs (envOfC qual sc s₀.heap.objs.size f cd::outer)-> ∃sl,af.get? b=some { o with slots:=sl }:=λ b o e hb=>by
  let#[_,o',e',hd]:=fl.2.2.1.mem hb;rw [e] at e'
  cases e';show up b o e hd
 refine#[x,C,a0,B,H',rfl,ho.trans I.os,hg,#[λ b o q n hb O=> ?_,λ b o q n hb O=> ?_,λ b o q n O=> ?_,λ b o q O=> ?_,λ b xs q=>un.tups b xs (u.tups b xs q),λ b o v q=>un.frzs b o v (u.frzs b o v q),λ b ps q=> ?_],λ a o e=> ?_,hx,ac,?_,λ b o q hb=> ?_,d2,hE C H' q]
 .have W:=u.keep b o q n hb O;have n1:=u.free b o q n O;show Y b o (un.keep b o W n1 (nL b o q hb) O) (d1 b o W (nL b o q hb))
 .obtain ⟨sl,W⟩:=u.slot b o q n hb O;have n1:=u.free b o q n O;have ae:b∈frs (envOfC qual sc s₀.heap.objs.size f cd::outer):=by rw [fj];show Zs _ hb
  let#[ai,e2]:=un.slot b _ W n1 ae O;let#[ad,e3]:=slots b _ e2 ae;show#[ad,e3]
 .obtain ⟨o',W⟩:=u.there b o q O;show un.free b o' W (u.free b o q n O) O
 .obtain ⟨o',W⟩:=u.there b o q O;let#[o2,e2]:=un.there b o' W O;by_cases hb:b∈frs (envOfC qual sc s₀.heap.objs.size f cd::outer)
  .obtain ⟨sl,e3⟩:=slots b o2 e2 hb;show#[_,e3]
  .exact #[_,Y b o2 e2 (d1 b o' W hb)]
 .obtain ⟨m1,W⟩:=u.tbls b ps q;let#[m2,e2]:=un.tbls b _ W;show#[m1++m2,by rw [e2,Array.append_assoc]]
 .refine (ag a o e).stay (λ c v hc z=>Y c v z ?_) (λ _ z=>z) λ _ _ z=>z
  rcases hc with rfl | hc
  .exact d2 _ _ e
  .exact d2 _ _ hc
 .cases z:s₀.heap.get? x with
  | none=>rfl
  | some o=>
   let#[o',W]:=u.there x o z (by simp);rw [sx] at W;cases W
 .obtain ⟨o',W⟩:=u.there b o q (by simp);show d1 b o' W (nL b o q hb)
end
section
variable {P:Program} {w:World} {K:W.Frag} {mg:Str->Option Value} {base:Heap}
theorem Fun.okX {qual:Str} {st:Stmt} {N ps:List Str} (F:Fun K x qual st f fd) (S:FnScope N ps (au st)) (len: ∀vs H Q E,sp vs H Q E->vs.length=ps.length)
  (hbody: ∀ (O:Value) (A:Around) (outer:List Env) (s:Shared) (H:Hp) (vs:List V) (Q:VK) (E:XK),Room k (A.deeper (envOfC qual (au st) s.heap.objs.size f O))->sp vs H Q E->
   ∃t,PSs (iu (iY P w) P w K mg base N qual (au st) f O A outer s H E) (bL st) t/\t { nx:=λ _ H'=>Q .non H',rt:=Q } (start N vs) H):FnOk P w K mg base (iY P w) (k+1) f fd ps sp:=by
 let#[oc,od,kV,ac,pm,an,O,ct,ab,rfl,lk,Y]:=F.ex;show Ab lk Y S len λ A outer s H vs Q E hr W=>hbody O A outer s H vs Q E hr W
end
structure CalX (P:Program) (w:World) (K:W.Frag) (mg:Str->Option Value) (base:Heap) (n:Nat) (x:Str) (ps:List Str) (sp:Sp):Prop where
 ex: ∃ (f:Addr) (fd:FuncData),FnOk P w K mg base (iY P w) n f fd ps sp/\Binds K fd ps []/\W.keepIn K (.ref f)=true/\mg x=some (.ref f)
section
variable {X:Cx} {n k:Nat} {x:Str} {ps:List Str} {sp:Sp} {p pos:Pos} {e:Expr} {es:List Expr} {t:TA} {E:XK}
theorem dH (c:CalX X.prog X.w X.K X.mg X.base n x ps sp) (hr:Room k X.A) (hk:n<=k) (hg:Gl X x) (hx:eQ (iY X.prog X.w) X E) (ha:PA X (e::es) t) (hdb:(x==("__debug__":Str))=false:=by decide)
  (he:starEach (e::es) X.env=(false,eval e X.env)::starEach es X.env:=by rfl) (hpl:(backTo pos (starEach es X.env)).any (·.1)=false:=by rfl):
  PE X (.Call (.Name x p) (e::es) [] pos) (aH sp [] E t):=by
 let#[f,fd,F,Y,O,W]:=c.ex;show kE F (hr.mono hk) hg W O Y .nil hx ha hdb he hpl
theorem FnOk.quiet {P:Program} {K:W.Frag} {base:Heap} {ps:List Str} (F:FnOk P w K mg base (iY P w) k f fd ps sp):
  FnOk P w K mg base Hm k f fd ps (λ vs H Q _=>sp vs H Q E0):=
 ⟨λ vs H Q _ h=>F.len vs H Q E0 h,λ A O s H args us vs Q E hr e0 hb r h=>codeAny_mono (F.run A O s H args us vs Q E0 hr e0 hb r h) λ res s' Y=>by
  cases res with
  | ok fl=>cases fl<;>show Y
  | error e=>
   let#[x,C,a0,B,H',rfl,ho,hg,un,ab,hx,fl,sx,d1,d2,q]:=Y;show q.elim⟩
end
theorem Hz {K:W.Frag} (q:PySem.W.excIn K C bmB newId=true):
  ∃bm N nm qn bs hd sn sub ab col dd k0 k1 k2 k3 k5,K.lookup C=some (excClassObj nm qn C N bs bm hd sn sub ab col dd k0 k1 k2 k3 k5 newId)/\PySem.W.tailIn K bmB bm=true/\PySem.W.nsOkIn K N=true/\W.nsIn K N "__init__"=some none:=by
 unfold PySem.W.excIn at q;split at q
 .rename_i dd cd sl ho;split at q
  .rename_i C' bm k0 k1 k2 k3 n k5 hm hs;simp only [Bool.and_eq_true,beq_iff_eq,Bool.not_eq_true'] at q;let#[#[#[#[#[rfl,rfl],O],ht],ac],Y]:=q;let#[nm,bs,ae,ns,qn,hd,sn,sub,ab,col,ad]:=cd;dsimp only at hm O ac Y;subst hm O;let#[l]:=sl;have hl:l=[k0,k1,k2,k3,some (.builtin n),k5]:=hs;subst hl;show#[bm,ns,nm,qn,bs,hd,sn,sub,ab,col,dd,k0,k1,k2,k3,k5,ho,ht,ac,Y]
  .cases q
 .cases q
theorem uK {K:W.Frag} {N:Addr} (q:PySem.W.nsOkIn K N=true): ∃o,K.lookup N=some o:=by
 unfold PySem.W.nsOkIn at q;split at q
 .rename_i O;show#[_,O]
 .cases q
section
variable {X:Cx} {x:Str} {np cpos pos:Pos} {e:Expr} {es:List Expr} {t:TA} {E:XK} {C:Addr} {bm:List Value} {B newId initId:String}
def eU (E:XK) (C:Addr) (t:TA):TS:=λ _ σ H=>t σ H λ vs H1=>vs.length<=sizeLine/\E (.ref C) none H1
theorem di (FB:ExcBaseFacts B newId initId bm) (hf:JD X E) (hc:X.calm=true) (hg:Gl X x) (hm:X.mg x=some (.ref C)) (hq:PySem.W.excIn X.K C bm newId=true) (ha:PA X (e::es) t) (hdb:(x==("__debug__":Str))=false:=by decide)
  (he:starEach (e::es) X.env=(false,eval e X.env)::starEach es X.env:=by rfl) (hpl:(backTo cpos (starEach es X.env)).any (·.1)=false:=by rfl):
  PS X (.Raise (some (.Call (.Name x np) (e::es) [] cpos)) none pos) (eU E C t):=by
 intro O s σ H D I h;let#[tl,N,nm,qn,bs,hd,sn,sub,ab,col,dd,k0,k1,k2,k3,k5,hK,ht,Y,ad]:=Hz hq;have T:=PySem.W.tail_of_in I.kIn ht;have hN:s.heap.Ns N (s.heap.nsMap N):= .of_isNs (PySem.W.isNs_of_in I.kIn Y);let#[oN,ac]:=uK Y;refine wpAny_Raise_call_subT (C:=C) (nm:=nm) (q:=qn) (N:=N) (bs:=bs) (bm:=tl) (hdct:=hd) (sn:=sn) (sub:=sub) (ab:=ab) (col:=col) (dd:=dd) (k0:=k0) (k1:=k1) (k2:=k2) (k3:=k3) (k5:=k5)
  FB (mN:=s.heap.nsMap N) (T.hasType FB.hasBase) (I.ok.hd hc) (by rw [he];change(false||(backTo cpos (starEach es X.env)).any (·.1))=false;rw [hpl];rfl) (PySem.W.nsMap_none_of_in I.kIn Y ad) (km I hg hm #[rfl,?_] hdb)
 have z:=ha cpos O s σ H _ I h;rw [he] at z ⊢;refine Calls.evalArgs_plain (aW z λ us s2 ⟨vs,H2,I2,r,hl,q⟩=>#[rfl,?_,I2.kIn _ _ hK,hN.at' λ o e=> ?_,PySem.W.tail_of_in I2.kIn ht,λ h' ex hx=>hf O σ H2 s2 ex _ _ h' I2 hx q])
 .rw [<- r.length];show hl
 .have e1:=I.kIn _ _ ac;rw [e] at e1
  cases e1;show I2.kIn _ _ ac
end
def ExcAt (x:Addr) (C:Value) (h:Heap):Prop:= ∃o vs,h.get? x=some o/\o.cls=C/\o.data= .fields vs
abbrev zH (x:Addr) (C:Value):HO:= .ext (ExcAt x C)
abbrev uL (X:Cx) (pins:List (Addr×Obj)) (xe:Value->Shared->Prop):Cx where
 prog:=X.prog
 w:=X.w
 K:=X.K
 mg:=X.mg
 base:=X.base
 A:=X.A
 N:=X.N
 s₀:=X.s₀
 H₀:=X.H₀
 env:=X.env
 outer:=X.outer
 stack:=X.stack
 ex:=X.ex
 fn:=X.fn
 calm:=X.calm
 pn:=X.pn++pins
 xe:=xe
abbrev Bo (X:Cx) (x:Addr) (pins:List (Addr×Obj)):Cx where
 prog:=X.prog
 w:=X.w
 K:=X.K
 mg:=X.mg
 base:=X.base
 A:=X.A.mark (some (.ref x))
 N:=X.N
 s₀:=X.s₀
 H₀:=X.H₀
 env:=X.env
 outer:=X.outer
 stack:=X.stack
 ex:=X.ex
 fn:=X.fn
 calm:=false
 pn:=X.pn++pins
 xe:=λ _ _=>False
section
variable {X:Cx} {pins pins':List (Addr×Obj)} {σ:St} {H:Hp} {s:Shared} {xe:Value->Shared->Prop} {x:Addr}
theorem Inv.tryIn (I:Inv X pins σ H s) (xe:Value->Shared->Prop):Inv (uL X pins xe) [] σ H s:=
 ⟨⟨I.ok.mod,I.ok.kind,I.ok.glob,I.ok.blt,I.ok.above,I.ok.inj,I.ok.has,I.ok.cab,I.ok.hd,I.ok.frames,I.ok.stk,I.ok.exf,I.ok.bs,I.ok.bsz,I.ok.noex,I.ok.exfs,I.ok.funs,I.ok.frf⟩,
  I.os,I.bare,I.base,I.loc,I.cell,I.free,I.freeC,λ p O=>I.pin p (by simpa using O),I.hok,I.len⟩
theorem Inv.tryOut (I:Inv (uL X pins xe) pins' σ H s):Inv X pins σ H s:=
 ⟨⟨I.ok.mod,I.ok.kind,I.ok.glob,I.ok.blt,I.ok.above,I.ok.inj,I.ok.has,I.ok.cab,I.ok.hd,I.ok.frames,I.ok.stk,I.ok.exf,I.ok.bs,I.ok.bsz,I.ok.noex,I.ok.exfs,I.ok.funs,I.ok.frf⟩,
  I.os,I.bare,I.base,I.loc,I.cell,I.free,I.freeC,λ p O=>I.pin p (Ym _ O),I.hok,I.len⟩
theorem Inv.hanIn (I:Inv X pins σ H s) (x:Addr):Inv (Bo X x pins) [] σ H s:=
 ⟨⟨I.ok.mod,I.ok.kind,I.ok.glob,I.ok.blt,I.ok.above,I.ok.inj,I.ok.has,I.ok.cab,λ z=>Bool.noConfusion z,I.ok.frames,I.ok.stk,I.ok.exf,I.ok.bs,I.ok.bsz,I.ok.noex,I.ok.exfs,I.ok.funs,I.ok.frf⟩,
  I.os,I.bare,I.base,I.loc,I.cell,I.free,I.freeC,λ p O=>I.pin p (by simpa using O),I.hok,I.len⟩
theorem Inv.hanOut (ok:X.Ok) (I:Inv (Bo X x pins) pins' σ H s):Inv X pins σ H s:=
 #[ok,I.os,I.bare,I.base,I.loc,I.cell,I.free,I.freeC,λ p O=>I.pin p (Ym _ O),I.hok,I.len]
end
theorem xK {Y:Cx} {s:Shared} {x:Addr} {C a0:Value} {B h:Heap} (I:Inv Y pins σ H s) (ho:s'.os=s.os) (hg:AllBare s'.gens) (un:Un (frs Y.stack) [] H H' s.heap s'.heap)
  (hok:HOk Y.prog Y.w H' s'.heap) (hx:H' x=none) (fl:Heap.FlyingW B Y.stack x C a0 s'.heap) (sx:s.heap.get? x=none) (d1: ∀b o,s.heap.get? b=some o->b∉frs Y.stack-> ∃u,B.get? b=some u) (d2: ∀b o,H' b=some o-> ∃u,B.get? b=some u)
  (fl':Heap.FlyingW B Y.stack x C a0 h) (up:s'.heap.UpToSlots h):Inv Y pins σ (upd H' x (zH x C)) { s' with heap:=h }:=by
 have W: ∀b o,s'.heap.get? b=some o->(∃v,B.get? b=some v)->h.get? b=some o:=λ b o e ⟨v,hv⟩=>by
  have z:=fl.1 b v hv;rw [e] at z
  cases z;show fl'.1 b o hv
 have slots: ∀b o,s'.heap.get? b=some o->b∈frs Y.stack-> ∃sl,h.get? b=some { o with slots:=sl }:=λ b o e hb=>by
  let#[_,o',e',hd]:=fl.2.2.1.mem hb;rw [e] at e'
  cases e';show up b o e hd
 have ae:Un (frs Y.stack) [] H (upd H' x (zH x C)) s.heap h:=by
  refine#[λ b o q n hb O=>W b o (un.keep b o q n hb O) (d1 b o q hb),λ b o q n hb O=> ?_,λ b o q n O=> ?_,λ b o q O=> ?_,λ b xs q=> ?_,λ b o v q=> ?_,λ b ps q=> ?_]
  .obtain ⟨sl,e1⟩:=un.slot b o q n hb O;let#[ad,e2]:=slots b _ e1 hb;show#[ad,e2]
  .have nb:b≠x:=λ z=>by rw [z,sx] at q;cases q
   rw [aq nb];show un.free b o q n O
  .obtain ⟨o',e1⟩:=un.there b o q O;by_cases hb:b∈frs Y.stack
   .obtain ⟨sl,e2⟩:=slots b o' e1 hb;show#[_,e2]
   .exact #[_,W b o' e1 (d1 b o q hb)]
  .rw [aq (aF (un.tups b xs q) hx)];show un.tups b xs q
  .rw [aq (aF (un.frzs b o v q) hx)];show un.frzs b o v q
  .obtain ⟨m,e⟩:=un.tbls b ps q;show#[m,by rw [aq (aF e hx)];show e]
 have ab:HOk Y.prog Y.w H' h:=λ a o e=>by
  refine(hok a o e).stay (λ c v hc z=>W c v z ?_) (λ _ z=>z) λ _ _ z=>z
  rcases hc with rfl | hc
  .exact d2 _ _ e
  .exact d2 _ _ hc
 let#[oe,vs,e1,e2,e3,_]:=fl'.first;have ac:HOk Y.prog Y.w (upd H' x (zH x C)) h:=HOk.track ab hx #[#[oe,vs,e1,e2,e3],#[oe,e1],λ h1 h2 ⟨o,ws,q1,q2,q3⟩ k=>#[o,ws,k o q1,q2,q3]];show I.call' (s':={ s' with heap:=h }) ho ae ac hg λ b hb=>nomatch hb
theorem gY {X:Cx} {s:Shared} {n:Str} (I:Inv X pins σ H s) (hN:X.N.Nodup) (hi:X.N[i]? =some n)
  (hl:X.env.scope.names.lookup n=some .local) (h: ∀s',Inv X pins (σ.set i none) H s'->Q Unit.unit s'):wpAny M A (do bindName X.env n .none;unbindBehindTheSuite X.env n pos) Q E s:=by
 refine Qb (wpAny_bindName (gn I hN hi (.inl hl) (v:= .non) rfl (λ s1 I1=> ?_) (.inr hl)));unfold unbindBehindTheSuite;let#[m,hn,ab]:=id I1.loc;have Y:i<σ.length:=by
  rw [I.len];show(Zj.mp hi).1
 let#[u,ru,lk]:=ab i n .non hi (by rw [List.getElem?_set_self Y]) (.inl hl);have hv:m n=some u:=by
  rcases lk with ⟨_,z⟩ | ⟨hk,_⟩
  .exact z
  .have ah:X.env.kindOf n=some .local:=hl;rcases hk with z | z<;>(rw [ah] at z;cases z)
 refine wpAny_onRaise (wpAny_unbindName_local (env:=X.env) hl hn hv (by rw [I.ok.kind];rfl) (λ h' uu ag ac=> ?_))
 .have O:=I1.weak (σ':=σ.set i none) (by simp) (λ j v e=>by
   by_cases hj:i=j
   .subst hj;rw [List.getElem?_set_self Y] at e;cases e
   .rw [List.getElem?_set_ne hj] at e;rw [List.getElem?_set_ne hj];show e)
  have nL: ∀b o,X.s₀.heap.get? b=some o->b≠X.env.locals:=λ b o e=>Yb (Zx (Zh e) I.ok.above)
  have W: ∀b o,b≠X.env.locals->s1.heap.get? b=some o->h'.get? b=some o:=λ b o hb e=>ac.extBut b o hb e
  have u:=O.base;refine h _ #[O.ok,O.os,O.bare,#[λ b o q z hb hx=>W b o (nL b o q) (u.keep b o q z hb hx),λ b o q z hb hx=> ?_,u.free,λ b o q hx=> ?_,u.tups,u.frzs,u.tbls],#[_,ag,λ j y v e1 e2 e3=> ?_],λ y c hc=> ?_,O.free,O.freeC,λ p hp=> ?_,λ b v e=> ?_,O.len]
  .obtain ⟨sl,e1⟩:=u.slot b o q z hb hx;show#[sl,W b _ (nL b o q) e1]
  .obtain ⟨o',e1⟩:=u.there b o q hx;show#[o',W b o' (nL b o q) e1]
  .obtain ⟨m2,ad,ae⟩:=O.loc;have em:m2=m:=by
    let#[o1,al,ar,q1,r1,_,f1]:=ad;let#[o2,am,ap,q2,r2,_,f2]:=hn;rw [q1] at q2;cases q2;rw [r1] at r2;cases r2;funext y;rw [<- f1 y,<- f2 y]
   subst em;let#[u',af,ai]:=ae j y v e1 e2 e3;refine#[u',af,?_];rcases ai with ⟨k1,z1⟩ | ⟨k1,c,z1,z2⟩
   .refine .inl #[k1,?_];have ny:y≠n:=λ z=>by
     subst z;have:i=j:=lA hN hi e1;subst this;rw [List.getElem?_set_self Y] at e2
     cases e2
    simp only [ny,if_false];show z1
   .refine .inr #[k1,c,z1,?_];let#[o,q1,r]:=z2;show#[o,W c o (O.cne y c z1) q1,r]
  .obtain ⟨v,o,q1,r⟩:=O.cell y c hc;show#[v,o,W c o (O.cne y c hc) q1,r]
  .obtain ⟨a1,a2,a3,a4⟩:=O.pin p hp;show#[W _ _ a3 a1,a2,a3,a4]
  .refine (O.hok b v e).stay (λ c w hc q=>W c w (λ z=> ?_) q) (λ _ q=>q) λ _ _ q=>q
   rcases hc with y | y
   .rw [<- y,z,O.free] at e;cases e
   .rw [z,O.free] at y;cases y
section
variable {X:Cx} {body:List Stmt} {b₀:Stmt} {suite:List Stmt} {c n:Str} {np hpos pos:Pos} {tb th:TS} {Cc:Addr} {i:Nat}
def behind (i:Nat) (D:Ends):Ends where
 nx:=λ σ H=>D.nx (σ.set i none) H
 rt:=D.rt
 bk:=λ σ H=>D.bk (σ.set i none) H
 ct:=λ σ H=>D.ct (σ.set i none) H
def Lx (K:W.Frag) (N:List Str) (Cc:Addr) (i:Nat) (Eh:XK) (tb th:TS):TS:=λ D σ H=>tb D σ H/\ ∀C H',Eh C none H'->PySem.W.exmOne K C (.ref Cc)=some true/\
 ∀x,H' x=none->th (behind i D) ((List.replicate N.length none).set i (some (.ref x))) (upd H' x (zH x C))
theorem Ly (Eh:XK) (hN:X.N.Nodup) (hi:X.N[i]? =some n) (hln:X.env.scope.names.lookup n=some .local) (hg:Gl X c) (hm:X.mg c=some (.ref Cc)) (hst:X.stack=X.env::X.outer) (hfr:X.env.frame=some X.env.locals)
  (hb: ∀pins xe,eQ (iY X.prog X.w) (uL X pins xe) Eh->PSs (uL X pins xe) body tb) (hh: ∀x pins,PSs (Bo X x pins) (b₀::suite) th) (hdb:(c==("__debug__":Str))=false:=by decide):
  PS X (.Try body [.ExceptHandler (some (.Name c np)) (some n) (b₀::suite) hpos] [] [] pos) (Lx X.K X.N Cc i Eh tb th):=by
 intro pins s σ H D I h;let#[h1,h2]:=h;refine wpAny_Try_except ?_;have hp:eQ (iY X.prog X.w) (uL X pins λ e ae=>wpAny (model X.prog X.w) X.A (noteFrame e X.env) (λ _ ap=>wpAny (model X.prog X.w) X.A (setFlight e none) (λ _ ab=>wpAny (model X.prog X.w) X.A (handleBy e X.env [.ExceptHandler (some (.Name c np)) (some n) (b₀::suite) hpos]) (SP X pins D) X.xe ab) X.xe ap) X.xe ae) Eh:=by
  intro pins' σ' H1 s1 e s' I1 hx;let#[x,C,a0,B,H',rfl,ho,ai,un,al,ad,fl,sx,d1,d2,q]:=hx;have fr:X.A.frames=some (X.env::X.outer):=by rw [<- hst];show I.ok.frames
  have av:Heap.FlyingW B X.stack x C a0 s'.heap:=fl;have a3:Heap.FlyingW B (X.env::X.outer) x C a0 s'.heap:=by rw [<- hst];show av
  let#[a2,as]:=h2 C H' q;change wpAny (model X.prog X.w) X.A (noteFrame (.ref x) X.env) _ X.xe s';refine wpAny_looks_onW fr hfr a3 λ h4 ag am=> ?_
  refine wpAny_landsW ag λ h5 ac ah=> ?_
  have af:Heap.FlyingW B X.stack x C a0 h5:=by rw [hst];show ac
  have I5:Inv X pins σ' (upd H' x (zH x C)) { s' with heap:=h5 }:=(xK (Y:=uL X pins _) I1 ho ai un al ad fl sx d1 d2 af (am.trans ah)).tryOut;have a1:=I5.hanIn x;let#[oe,vs,e1,e2,e3,_]:=ac.first;have LT:PySem.W.Looks (model X.prog X.w) h5 (typeOf (.ref x)) C:=e2▸(PySem.W.Looks.ld e1).andThen .now;refine wpAny_handleBy_cons (codeAny_handlers_test (km (X:=Bo X x pins) a1 hg hm ?_ hdb)) (by intro z;cases z);refine(PySem.W.exm_one I5.kIn LT a2).here ?_;change codeAny _ _ (.handlers (.ref x) [.ExceptHandler none (some n) (b₀::suite) hpos] X.env) _ _;refine codeAny_handlers_suite_as (lands_againW ac λ h6 aw ay=> ?_);have ar:Heap.FlyingW B X.stack x C a0 h6:=by rw [hst];show aw
  have I6:Inv X pins σ' (upd H' x (zH x C)) { s' with heap:=h6 }:=(xK (Y:=uL X pins _) I1 ho ai un al ad fl sx d1 d2 ar ((am.trans ah).trans ay)).tryOut;have ax:Inv X pins (List.replicate X.N.length none) (upd H' x (zH x C)) { s' with heap:=h6 }:=I6.weak (by rw [List.length_replicate,I6.len]) λ j v z=>by
   rw [List.getElem?_replicate] at z;split at z<;>cases z
  refine gn (X:=Bo X x pins) (ax.hanIn x) hN hi (.inl hln) (v:= .ref x) rfl (λ s7 I7=> ?_) (.inr hln);refine Yv (hh x pins [] s7 _ _ (behind i D) I7 (as x ad)) (λ f s8 hs=> ?_) (λ _ _ z=>z.elim);change wpAny (model X.prog X.w) X.A (do bindName X.env n .none;unbindBehindTheSuite X.env n hpos) (λ _ ab=>SP X pins D f ab) X.xe s8
  cases f with
  | next=>let#[O,H8,I8,q8]:=hs;show gY (I8.hanOut I.ok) hN hi hln λ s9 I9=>#[_,H8,I9,q8]
  | brk=>let#[O,H8,I8,q8]:=hs;show gY (I8.hanOut I.ok) hN hi hln λ s9 I9=>#[_,H8,I9,q8]
  | cont=>let#[O,H8,I8,q8]:=hs;show gY (I8.hanOut I.ok) hN hi hln λ s9 I9=>#[_,H8,I9,q8]
  | ret u=>let#[v,O,H8,I8,r8,q8]:=hs;show gY (I8.hanOut I.ok) hN hi hln λ s9 I9=>#[v,_,H8,I9,r8,q8]
 refine Yv (hb pins _ hp [] s σ H D (I.tryIn _) h1) (λ f s1 hs=> ?_) (λ e s1 z=>z)
 cases f with
 | next=>let#[O,H8,I8,q8]:=hs;show wpAny_execs_nil #[O,H8,I8.tryOut,q8]
 | brk=>let#[O,H8,I8,q8]:=hs;show#[O,H8,I8.tryOut,q8]
 | cont=>let#[O,H8,I8,q8]:=hs;show#[O,H8,I8.tryOut,q8]
 | ret u=>let#[v,O,H8,I8,r8,q8]:=hs;show#[v,O,H8,I8.tryOut,r8,q8]
end
end L2
end
section
namespace L2
open PySem PySem.Spec PySem.Calls PyProof.Rows PySem.W PySem.Builtin PySem.Builtin.ObjectAttr PySem.Builtin.Getset_descriptor
variable {H₀:Hp} {C:Addr} {M:Model} {w:World} {A:Around} {sc:Scope} {s₀:Shared} {cd tp:Value} {outer:List Env} {mg:Str->Option Value} {R:Result->Shared->Prop} {Q:Option Value->Shared->Prop}
theorem jT:Slot "ValueError" "__getattribute__" "BaseException.__getattribute__":=
 .of (owner:="BaseException") (n:="__getattribute__") (by rw [typeLookup_type,builtinLookup_eq_fast];kernel_rfl) (by ac_nf) (by ac_nf) (by ac_nf)
  (by first | show .inl (by ac_nf) | show .inr (by ac_nf)) (by rw [isSubtype_type];kernel_rfl)
theorem pY:entryFor table "BaseException.__getattribute__"=some Builtin.«object.__getattribute__»:=
 entryFor_alias (id':="object.__getattribute__") (by kernel_rfl) (by first | rfl | decide+kernel) (by ac_nf) (by kernel_rfl)
theorem sy (a b:Value):argsOk "BaseException.__getattribute__" #[[a,b],[]]:=by
 unfold argsOk;rw [signature?_of (id:="BaseException.__getattribute__") (n:=['_','_','e','t','u','b','i','r','t','t','a','t','e','g','_','_']) (o:=['n','o','i','t','p','e','c','x','E','e','s','a','B']) (by kernel_rfl) (by first | rfl | decide+kernel)];kernel_rfl
section
variable {prog:Program} {w:World} {A:Around} {E:Value->Shared->Prop} {s:Shared} {K:Frag} {x C:Addr}
theorem yR {rest:List Value} {Q:Unit->Shared->Prop} (X:K.In s.heap) (LT:Looks M s.heap (typeOf (.ref x)) (.ref C)) (hb:subIn K (.ref C) (.type "BaseException")=some true) (ha:argsOk "BaseException.__getattribute__" #[.ref x::rest,[]]) (hQ:Q Unit.unit s):
  wpAny M A (checkBuiltinCall "BaseException.__getattribute__" #[.ref x::rest,[]]) Q E s:=by
 have O:splitId "BaseException.__getattribute__"=some ("BaseException","__getattribute__"):=by ac_nf
 have h:(Manifest.find? "BaseException").bind (·.attrs.lookup "__getattribute__")=some .slot:=by ac_nf
 have W:builtinKind "BaseException.__getattribute__"=(Manifest.find? "BaseException").bind (·.attrs.lookup "__getattribute__"):=by simp only [builtinKind,O]
 have LI:Looks M s.heap (isInstance (.ref x) (.type "BaseException")) true:=LT.andThen (looks_subIn X hb);simp only [checkBuiltinCall,W,h,O];refine Qb (LI.here ?_);simp only [Bool.not_true,Yh,if_false]
 cases hsig:Manifest.signature? "BaseException.__getattribute__" with
 | none=>show Zc hQ
 | some sig=>
  simp only [argsOk,hsig] at ha;have Y:Bind.checkArgs "BaseException.__getattribute__" sig ⟨.ref x::rest,[]⟩=pure Unit.unit:=ha;change wpAny M A (Bind.checkArgs "BaseException.__getattribute__" sig #[.ref x::rest,[]]) Q E s;rw [Y];show Zc hQ
theorem nF (X:K.In s.heap) (LT: ∀M,Looks M s.heap (typeOf (.ref x)) (.ref C)) (hm:mroIn K C (.type "object")=some true)
  (h:R (.ok (.ret (.ref C))) s):codeAny (model prog w) A (.call (.builtin "getset_descriptor.__get__") #[[.builtin "object.__class__", .ref x,tp],[]]) R s:=by
 let#[O,g,dr,t,os]:=s;have W:=LT (model prog w);have Y:=looks_mroIn (M:=model prog w) X hm;refine codeAny_call_builtin KF.slot_gs.plain KF.entry_gs (KF.slot_gs.check _ _ _ _ _ _ _ _ KF.type_class (KF.args_gs _ _ _) ?_);unfold Builtin.«getset_descriptor.__get__» descrGet;rw [dga_obj];refine Qb (Zc ?_);unfold descrGetter descrCheckInstance descrNameAndClass isInstance;simp only [KF.owner_class];repeat lk
 refine#[Code.quiet_builtin _ (by ac_nf),codeAny_builtin KF.entry_class ?_];unfold Builtin.«object.__class__» shownTypeOf;repeat lk
 show h
theorem yS {tk:Tok} {Q:Fin->Shared->Prop} (X:K.In s.heap) (LT: ∀M,Looks M s.heap (typeOf (.ref x)) (.ref C)) (ha:findIn K (.ref C) "__class__"=some (some (.builtin "object.__class__")))
  (hn:specialIn K (.builtin "object.__class__") "__get__"=some (some (.builtin "getset_descriptor.__get__"))) (htk:takesIn K (.builtin "object.__class__")=some true) (hm:mroIn K C (.type "object")=some true)
  (hq:Q (.done (.ret (.ref C))) s):wpAny (model prog w) A (Builtin.«object.__getattribute__» #[[.ref x, .str "__class__" tk],[]]) Q E s:=by
 let#[O,g,dr,t,os]:=s;have L0:=LT (model prog w);have L1:=looks_findIn (M:=model prog w) X ha;have L2:Looks (model prog w) O (getOf (some (.builtin "object.__class__"))) (some (.builtin "getset_descriptor.__get__")):=looks_specialIn X hn;have Y:=looks_takesIn (M:=model prog w) X htk;have W:Looks (model prog w) O (find (.ref x) (.ref C) "__class__") (.bind (.builtin "getset_descriptor.__get__") (.builtin "object.__class__")):=
  L1.andThen (L2.andThen ((show Looks (model prog w) O (dataDescriptor? (some (.builtin "object.__class__")) (some (.builtin "getset_descriptor.__get__"))) (some (.builtin "getset_descriptor.__get__", .builtin "object.__class__")) from Y.andThen .now).andThen (Looks.tag .now)))
 refine Qb (Zc (Qb (Zc (Qb (L0.at (Qb (W.at ?_)))))));change wpAny _ _ (holding [.builtin "object.__class__"] (call (.builtin "getset_descriptor.__get__") [.builtin "object.__class__", .ref x, .ref C]) >>= ret) _ _ _;refine Qb (Yp (wpAny_call (nF (s:=#[O,g,dr,t,os]) X LT hm ?_)));show Zc hq
theorem lZ (X:K.In s.heap) (LT: ∀M,Looks M s.heap (typeOf (.ref x)) (.ref C)) (hga:findIn K (.ref C) "__getattribute__"=some (some (.builtin "BaseException.__getattribute__")))
  (hgt:findIn K (.ref C) "__getattr__"=some none) (ha:findIn K (.ref C) "__class__"=some (some (.builtin "object.__class__")))
  (hn:specialIn K (.builtin "object.__class__") "__get__"=some (some (.builtin "getset_descriptor.__get__"))) (htk:takesIn K (.builtin "object.__class__")=some true) (hm:mroIn K C (.type "object")=some true)
  (hb:subIn K (.ref C) (.type "BaseException")=some true) (h:Q (some (.ref C)) { s with toks:=s.toks+1 }):wpAny (model prog w) A (getAttr? (.ref x) "__class__") Q E s:=by
 let#[O,g,d,t,W]:=s;have Y:=LT (model prog w);have L1:=looks_findIn (M:=model prog w) X hga;have L2:=looks_findIn (M:=model prog w) X hgt;unfold getAttr? getAttrBy? getAttrBy;refine Qb (wpAny_mkText (Qb (wpAny_attempt (Yp (Qb (Y.at (Qb (L1.at ?_))))))));change wpAny _ _ (getAttrByItsOwn _ _ _ _ _ _) _ _ _;unfold getAttrByItsOwn;refine Qb (show wpAny _ _ (typeLookup (.ref C) "__getattr__") _ _ _ from L2.at ?_);refine Qb (wpAny_attempt (Yp ?_));change wpAny _ _ (boundAndCalled _ _ _) _ _ _;unfold boundAndCalled;rw [jT.bind];refine Qb (Zc ?_);change wpAny _ _ (call (.builtin "BaseException.__getattribute__") [.ref x, .str "__class__" t]) _ _ _;refine wpAny_call (codeAny_call_builtin jT.plain pY (yR (s:=#[O,g,d,t+1,W]) X (LT _) hb (sy _ _) (yS (s:=#[O,g,d,t+1,W]) X LT ha hn htk hm ?_)));show Zc (Zc h)
end
structure ExcK (K:W.Frag) (C:Addr):Prop where
 ex:PySem.W.excIn K C [.type "ValueError", .type "Exception", .type "BaseException", .type "object"] "ValueError.__new__"=true
 ga:findIn K (.ref C) "__getattribute__"=some (some (.builtin "BaseException.__getattribute__"))
 gt:findIn K (.ref C) "__getattr__"=some none
 cl:findIn K (.ref C) "__class__"=some (some (.builtin "object.__class__"))
 ge:specialIn K (.builtin "object.__class__") "__get__"=some (some (.builtin "getset_descriptor.__get__"))
 tk:takesIn K (.builtin "object.__class__")=some true
 mo:mroIn K C (.type "object")=some true
 mb:subIn K (.ref C) (.type "BaseException")=some true
theorem ExcK.cls {K:W.Frag} (z:ExcK K C): ∃c d cd sl,K.lookup C=some #[c,d, .cls cd,sl]:=by
 let#[cd,h,_]:=Option.bind_eq_some_iff.mp z.mo;unfold clsIn at h;split at h
 .rename_i c' d' Y O ho;show#[_,_,_,_,ho]
 .cases h
theorem m5 {K:W.Frag} {x:Addr} (z:ExcK K C):KitX K (.ref x) (.ref C) (ExcAt x (.ref C)) where
 ty:=λ M h _ ⟨o,vs,Y,h2,_⟩=>h2▸(Looks.ld Y).andThen .now
 it:=λ M h X _=>by
  let#[c,d,cd,sl,ho]:=z.cls;intro A' Q' E' s' k q;unfold isType loadHead;show Qb (wpAny_loadPart (k _ _ (X _ _ ho)) (Zc q))
 ne:=λ h tp dd ab n sl X O=>by
  let#[c,d,cd,ac,ho]:=z.cls;refine Bool.eq_false_iff.mpr λ q=> ?_
  have e:C=tp:=Value.ref.inj (beq_iff_eq.mp q);subst e;have z:=(X _ _ ho).symm.trans O
  cases z
 ca:=λ X ⟨o,vs,Y,h2,_⟩ k=>lZ X (λ M=>h2▸(Looks.ld Y).andThen .now) z.ga z.gt z.cl z.ge z.tk z.mo z.mb k
def dN (K:W.Frag):List V->Hp->VK->Prop:=λ xs H Q=> ∃ (x C:Addr) (y:V) (b:Bool),xs=[.ref x,y]/\H x=some (zH x (.ref C))/\ExcK K C/\
 ((∃T,y= .ty T/\kitOne K (.ref C) (.type T)=some b)\/(∃D,y= .ref D/\kitOne K (.ref C) (.ref D)=some b)\/ ∃ (p:Addr) (ds:List Addr),y= .ref p/\H p=some (.tup (ds.map V.ref))/\kitAny K (.ref C) (ds.map Value.ref)=some b)/\Q (.bl b) H
theorem oM: ∀ {ds:List Addr} {us:List Value},Vals (ds.map V.ref) us->us=ds.map Value.ref
 | [],_,r=>by cases r;rfl
 | d::ds,_,r=>by
  cases r with
  | cons r rr=>rw [Zl,<- oM rr];show Yc (· ::_) r
section
variable {X:Cx}
theorem pZ:bG X (.builtin "isinstance") (dN X.K):=by
 intro ab s σ H xs us Q I rv h;let#[x,C,y,b,rfl,hx,zC,hy,q]:=h;let#[u,Y,rfl,ru,O]:=rv.two
 cases (show u=Value.ref x from ru);let#[hE,_,_]:=(show ObjOk X.prog X.w H s.heap x (zH x (.ref C)) from I.hok x _ hx);rcases hy with ⟨T,rfl,e⟩ | ⟨D,rfl,e⟩ | ⟨p,ds,rfl,hp,e⟩
 .cases (show Y=Value.type T from O);show kia_one (m5 zC) I.kIn hE e (λ z=>nomatch z) λ W=>#[.bl b,H,I.tok W,rfl,q]
 .cases (show Y=Value.ref D from O);show kia_one (m5 zC) I.kIn hE e (λ z=>nomatch z) λ W=>#[.bl b,H,I.tok W,rfl,q]
 .cases (show Y=Value.ref p from O);let#[_,ae,r,o,h1,h2,n,h3]:=(show ObjOk X.prog X.w H s.heap p (.tup (ds.map V.ref)) from I.hok p _ hp);let#[oc,od,ad,ac]:=o
  cases h2
  cases h3;have er:=oM r;subst er;show kia_tup (m5 zC) I.kIn hE h1 e (λ z=>nomatch z) λ W=>#[.bl b,H,I.tok W,rfl,q]
theorem eV (K:W.Frag) (hK:X.K=K):bG X (.builtin "isinstance") (dN K):=hK▸pZ
end
theorem m7 {P:Program} {K:W.Frag} {base:Heap} {N:List Str} {qual:Str} {f:Addr} {E:XK}:
  PassesOwn (model (iu (iY P w) P w K mg base N qual sc f cd A outer s₀ H₀ E).prog (iu (iY P w) P w K mg base N qual sc f cd A outer s₀ H₀ E).w) (iu (iY P w) P w K mg base N qual sc f cd A outer s₀ H₀ E).A (iu (iY P w) P w K mg base N qual sc f cd A outer s₀ H₀ E).env (iu (iY P w) P w K mg base N qual sc f cd A outer s₀ H₀ E).xe:=PassesOwn.leaving
end L2
end
section
namespace L2
open PySem PySem.Spec PyProof.Rows
variable {k:Nat} {ta:TA} {a:Expr} {w:World} {elts:List Expr} {p pos tpos:Pos} {R:Value->Shared->Prop}
def uM:V->Option Int->Option Int->Hp->VK->Prop:=λ x lo hi H Q=> ∃s:Str,x= .str s/\s.length<=sizeLine/\Q (.str (Txt.slice s lo hi)) H
section
variable {X:Cx}
theorem m8:KZ X uM:=by
 intro O s σ H x v vl vu lo hi Y Q I rx W pl pu h;let#[z,rfl,hz,q]:=h;let#[t,rfl]:=rx;have fin: ∀ (l u:Option (Int×Tok)),l.map (·.1)=lo->u.map (·.1)=hi->s.heap.IsSlice Y l u none->wpAny (model X.prog X.w) X.A (getItem (.str z t) (.ref Y)) (EP X O σ Q) X.xe s:=by
  intro l u e1 e2 hh;refine wpAny_getItem_str_slice (l:=l) (u:=u) (st:=none) hh rfl ?_;subst e1 e2;show post_val_or_str #[Nat.le_trans (Txt.slice_le z _ _) hz,λ t' k=>#[.str _,H,I.tok k,#[t',rfl],q]]
 refine#["str",_,F.slot_str_getitem.lookup,typeIs_str _ _ _,?_]
 cases pl with
 | none=>
  cases pu with
  | none=>show fin none none rfl rfl W
  | int j u=>show fin none (some (j,u)) rfl rfl W
 | int i u=>
  cases pu with
  | none=>show fin (some (i,u)) none rfl rfl W
  | int j u'=>show fin (some (i,u)) (some (j,u')) rfl rfl W
end
def Vi (K:W.Frag) (a:Addr):It:=
 ⟨λ i H=> ∃xs x,SqL K H a xs/\xs[i]? =some x,
  λ i H v H'=> ∃p x,H p=none/\v= .ref p/\H'=upd H p (.tup [.int (i:Int),x])/\ ∀xs,SqL K H a xs->xs[i]? =some x,
  λ i H=> ∃xs,SqL K H a xs/\xs.length<=i⟩
structure EnSt (e it a:Addr) (i:Nat) (h:Heap):Prop where
 he: ∃old,IsEnum h e it (i:Int) old
 h1:h.IsListIter it a i
theorem yU {P:Program} {K:W.Frag} {e it:Addr} (a:Addr) (D:e≠it):
  Turn P w K (.Tuple elts k tpos) (Vi K a) [e,it] e (EnSt e it a) where
 mem:=by simp
 obj:=λ i h st c hc=>by
  let#[#[ad,he],#[o1,e1,c1,d1]]:=st;simp only [Zk,Yn,or_false] at hc;rcases hc with rfl | rfl
  .exact #[_,he,λ v z=>by cases z]
  .exact #[o1,e1,λ v z=>by rw [d1] at z;cases z]
 keep:=λ i h h' st kk=>by
  let#[#[ad,he],h1]:=st;show#[#[ad,kk e (by simp) _ he],h1.at λ o e=>kk it (by simp) o e]
 item:=by
  intro X hP hw hK hc i ac s σ H E I hf st hg;subst hP hw hK;let#[xs,x,ae,hx]:=hg;let#[ag,rv,p,ai]:=I.list ae;let#[u,hu,ru]:=rv.get hx;let#[#[ad,he],h1]:=id st;refine wpAny_pyNext_enum_item (x:=u) he h1 p.isList (by simpa using hu) D λ h' a1 a2 a3 a4 a5=> ?_
  refine#[_,rfl,wpAny_letOwnedTupleGo_enum a1 λ ab b1 hs=> ?_];have hT:s.heap.objs.size≠e:=Nat.ne_of_gt (Zh he);have kk: ∀c o,c∉[e,it]->s.heap.get? c=some o->ab.get? c=some o:=λ c o O q=>by
   simp only [Zk,Yn,or_false,not_or] at O;show hs.extBut _ _ O.1 (a5 c o O.1 O.2 q)
  have I1:Inv X ac σ H { s with heap:=ab,toks:=s.toks+1 }:=I.turnedAll kk hf;have Y:H s.heap.objs.size=none:=I.hok.fresh (Zm _);have e5:ab.get? s.heap.objs.size=some { cls:= .type "tuple",data:= .seq ([.int i s.toks,u].toArray) }:=hs.extBut _ _ hT a3;have un:Un (frs X.stack) [e,it] H (upd H s.heap.objs.size (.tup [.int (i:Int),x])) s.heap ab:=
   ⟨λ b o q _ _ hx=>kk b o hx q,λ b o q _ _ hx=>⟨o.slots,kk b o hx q⟩,λ b o q n _=>by rw [aq (Yb (Zh q))];show n,λ b o q hx=>⟨o,kk b o hx q⟩,
    λ b xs q=>by rw [aq (aF q Y)];show q,λ b o x q=>by rw [aq (aF q Y)];show q,λ b ps q=>⟨([].toArray),by rw [aq (aF q Y),q];simp⟩⟩
  have af:HOk X.prog X.w (upd H s.heap.objs.size (.tup [.int (i:Int),x])) ab:=HOk.track I1.hok Y #[by change 2<=sizeLine;decide,[.int i s.toks,u], .cons #[_,rfl] (.cons ru .nil),_,e5,rfl,_,rfl];have I2:Inv X ac σ (upd H s.heap.objs.size (.tup [.int (i:Int),x])) { s with heap:=ab,toks:=s.toks+1 }:=I.call' (s':={ s with heap:=ab,toks:=s.toks+1 }) rfl un af I.bare λ c O=>⟨(hf c O).2.2.2.1,(hf c O).2.1,(hf c O).2.2.2.2⟩
  refine#[.ref s.heap.objs.size,_,I2,rfl,#[_,x,Y,rfl,rfl,λ ap h=>by rw [I.list_inj h ae];show hx],#[#[u,by have:=b1;rwa [show((i:Int)+1)=((i+1:Nat):Int) by rfl'] at this],a2.extBut hs.extBut (Ne.symm D)],λ c O=> ?_];have ah:c<s.heap.objs.size:=by
   let#[o1,e1,_]:=h1;simp only [Zk,Yn,or_false] at O;rcases O with rfl | rfl
   .exact Zh he
   .exact Zh e1
  rw [aq (Yb ah)];show(hf c O).1
 done:=by
  intro X hP hw hK hc i ac s σ H E I hf st hg;subst hP hw hK;let#[xs,ae,al]:=hg;let#[ag,rv,p,ai]:=I.list ae;let#[#[ad,he],h1]:=id st;have am:=rv.length;refine wpAny_pyNext_enum_end (I.ok.hd hc) he h1 p.isList (by simp;rfl') λ h' kk=> ?_
  refine#[rfl,I.turnedAll (t':=s.toks) (λ c o O q=> ?_) hf];simp only [Zk,Yn,or_false,not_or] at O;show kk c o O.2 q
 self:=λ _ _ _ _ _ st h=>by
  let#[ad,he]:=st.he;show wpAny_pyIter_enum he h
def xM (K:W.Frag) (ta:TA):TI:=λ σ H R=>ta σ H λ vs H1=> ∃a xs,vs=[.ref a]/\SqL K H1 a xs/\R (Vi K a) H1
theorem HB {X:Cx} (hg:Gl X "enumerate") (hc:X.calm=true) (hm:X.mg "enumerate"=none) (ha:PA X [a] ta) (hs:starEach [a] X.env=[(false,eval a X.env)]:=by rfl):
  PI X (.Tuple elts k tpos) (.Call (.Name "enumerate" p) [a] [] pos) (xM X.K ta):=by
 intro O s σ H R I h;refine Call_ (fG I hg hm (show bootBuiltins "enumerate"=some (.type "enumerate") by ac_nf) (PyProof.Rows.callWith_type1 (aW (ha pos O s σ H _ I h) λ us Y ⟨vs,H1,I1,r1,q1⟩=> ?_) (by rw [hs];rfl) (by rfl)));let#[la,xs,e,ac,q]:=q1;subst e
 cases r1 with
 | cons r rr=>
  cases rr
  cases r;let#[ad,rv,p1,ae]:=I1.list ac;refine call_enumerate_list p1.isList λ h' z1 z2 z3 kk=> ?_
  refine wpAny_pyIter_enum z1 ?_;refine#[Y.heap.objs.size+1,[Y.heap.objs.size+1,Y.heap.objs.size],_,_,H1,rfl,I1.kept (t':=Y.toks) kk,yU la (by change(_:Nat)≠_;rfl'),#[#[_,z1],z2],λ c ab=> ?_,q];have W:Y.heap.objs.size<=c:=by
   simp only [Zk,Yn,or_false] at ab;rcases ab with rfl | rfl<;>(change(_:Nat)<=_;rfl')
  show I1.fpOk W (I1.hok.fresh W)
theorem Bp {X:Cx} (K:W.Frag) (hK:X.K=K) (hg:Gl X "enumerate") (hc:X.calm=true) (hm:X.mg "enumerate"=none) (ha:PA X [a] ta) (hs:starEach [a] X.env=[(false,eval a X.env)]:=by rfl):
  PI X (.Tuple elts k tpos) (.Call (.Name "enumerate" p) [a] [] pos) (xM K ta):=by subst hK;show HB hg hc hm ha hs
section
variable {prog:Program} {w:World} {A:Around} {E:Value->Shared->Prop} {s:Shared} {it d:Addr} {i ep:Nat} {od:Obj} {es:Array DictEntry} {Q:Option Value->Shared->Prop}
theorem m9 (hit:s.heap.IsKeyIter it d i es.size ep) (hod:s.heap.get? d=some od) (hdd:od.data= .dict es ep) (hi:i<es.size)
  (hQ: ∀h',h'.IsKeyIter it d (i+1) es.size ep->Heap.SameBut it s.heap h'->Q (some es[i].key) { s with heap:=h' }):wpAny (model prog w) A (pyNext (.ref it)) Q E s:=by
 let#[o,Y,hc,W]:=id hit;have T:=hit.typeIs (s:=s);unfold pyNext;refine Qb (wpAny_attempt (wpAny_callSpecial?_slot (name:=Str.ofString "__next__") T F.slot_dict_keyiterator_next (Yo F.slot_dict_keyiterator_next T F.entry_dict_keyiterator_next ?_ (F.args_dict_keyiterator_next_1 _))));have f0:Builtin.Dict_items.ownsTuple "dict_keyiterator"=false:=by decide
 have f1: ¬ (Value.ref d==Value.none)=true:=Zu;have f2: ¬ ((i:Int)<0):=()
 have tn: ∀ {s':Shared} {A':Around} {E':Value->Shared->Prop} {R:String->Shared->Prop},s'.TypeIs (.ref it) "dict_keyiterator"->R "dict_keyiterator" s'->wpAny (model prog w) A' (typeNameOfWhole (.ref it)) R E' s':=λ a b=>wpAny_typeNameOfWhole_keyiter a b
 repeat (first
  | (refine tn T ?_)
  | (refine wpAny_fieldsOf Y W ?_)
  | (refine wpAny_dictEntries hod hdd ?_)
  | (refine wpAny_dictEpoch hod hdd ?_)
  | (refine wpAny_isOneOf_keyiter T ?_)
  | (refine Zc ?_)
  | (refine Qb ?_)
  | (simp only [f0,Yh,if_false])
  | (rw [if_neg f1])
  | (rw [if_neg (by simp)]))
 rw [Yk,Array.getElem?_eq_getElem hi];have O:(s.heap.update it (Obj.mapFields (·.setIfInBounds 1 (rawInt ((i:Int)+1))))).IsKeyIter it d (i+1) es.size ep:=#[_,Heap.get?_update_self _ Y (Obj.isFreed_of_fields (Obj.data_mapFields W _)),(Obj.cls_mapFields ..).trans hc,by rw [Obj.data_mapFields W];simp [rawInt]];have T':=O.typeIs (s:={ s with heap:=s.heap.update it (Obj.mapFields (·.setIfInBounds 1 (rawInt ((i:Int)+1)))) });dsimp only;refine Qb (Qb (tn T (Zc (Qb (wpAny_isOneOf_keyiter T ?_)))));change wpAny (model prog w) A.in1 (do setField (.ref it) 1 (rawInt ((i:Int)+1));_) _ _ s;refine Qb (wpAny_setField Y W (by simp) (Qb (Yp (Qb (wpAny_isOneOf_keyiter T' (Zc ?_))))));show Zc #[_,rfl,Zc (hQ _ O (Heap.SameBut.update ..))]
theorem q9 (hh:A.handled=none) (hit:s.heap.IsKeyIter it d i es.size ep) (hod:s.heap.get? d=some od) (hdd:od.data= .dict es ep) (hi:es.size<=i)
  (hQ: ∀h',Heap.ExtBut it s.heap h'->Q none { s with heap:=h' }):wpAny (model prog w) A (pyNext (.ref it)) Q E s:=by
 let#[o,ho,hc,Y]:=id hit;have T:=hit.typeIs (s:=s);unfold pyNext;refine Qb (wpAny_attempt (wpAny_callSpecial?_slot (name:=Str.ofString "__next__") T F.slot_dict_keyiterator_next (Yo F.slot_dict_keyiterator_next T F.entry_dict_keyiterator_next ?_ (F.args_dict_keyiterator_next_1 _))));have f0:Builtin.Dict_items.ownsTuple "dict_keyiterator"=false:=by decide
 have f1: ¬ (Value.ref d==Value.none)=true:=Zu;have f2: ¬ ((i:Int)<0):=()
 have W: ∀ {s':Shared} {A':Around} {E':Value->Shared->Prop} {R:String->Shared->Prop},s'.TypeIs (.ref it) "dict_keyiterator"->R "dict_keyiterator" s'->wpAny (model prog w) A' (typeNameOfWhole (.ref it)) R E' s':=λ a b=>wpAny_typeNameOfWhole_keyiter a b
 repeat (first
  | (refine W T ?_)
  | (refine wpAny_fieldsOf ho Y ?_)
  | (refine wpAny_dictEntries hod hdd ?_)
  | (refine wpAny_dictEpoch hod hdd ?_)
  | (refine wpAny_isOneOf_keyiter T ?_)
  | (refine Zc ?_)
  | (refine Qb ?_)
  | (simp only [f0,Yh,if_false])
  | (rw [if_neg f1])
  | (rw [if_neg (by simp)]))
 rw [Yk,Array.getElem?_eq_none hi];dsimp only;refine Qb (Qb (W T (Zc ?_)));change wpAny (model prog w) A.in1 (do setField (.ref it) 0 .none;_) _ _ s;refine Qb (wpAny_setField ho Y (by simp) (Qb ?_));have fin: ∀h' x,Heap.ExtBut it s.heap h'->(∃O,h'.get? x=some O/\O.cls= .type "StopIteration")->wpAny (model prog w) A (do let b <- isInstance (.ref x) (.type "StopIteration");if b=true then pure none else throw (.ref x)) Q E { s with heap:=h' }:=λ h' x eb ⟨O,e1,e2⟩=>Qb (wpAny_isInstance (T:="StopIteration") (b:=true) ⟨O,e1,e2⟩ isSubtype_stop (Zc (hQ h' eb)))
 simp only [newExc,newTuple,raiseNew];repeat (first
  | show fin _ _ (((Heap.SameBut.update ..).extBut.push _).push _) #[_,Zo _ rfl,rfl]
  | (refine Ys ?_ (by size_fits))
  | (refine wpAny_handled ?_)
  | (refine wpAny_throw ?_)
  | (refine Zc ?_)
  | (rw [show A.in1.handled=none from hh])
  | (refine Qb (m:=firstArgMember _ _) (wpAny_of_eq (a:=Value.none) (by first | rfl | (simp only [firstArgMember];rfl)) ?_))
  | (refine Qb ?_))
theorem jd (hsm:(d==sysModules)=false) (T:s.TypeIs (.ref d) "dict") (hod:s.heap.get? d=some od) (hdd:od.data= .dict es ep)
  (hQ:R (.ref s.heap.objs.size) { s with heap:=s.heap.push { cls:= .type "dict_keyiterator",data:= .fields ([.ref d, .int 0 0, .int es.size 0, .int ep 0].toArray) } }):wpAny (model prog w) A (pyIter (.ref d)) R E s:=by
 refine wpAny_pyIter_slot T F.slot_dict_iter (Yo F.slot_dict_iter T F.entry_dict_iter ?_ (F.args_dict_iter_1 _));unfold Builtin.«dict.__iter__» Builtin.Dict.dictSlotNone Builtin.Dict.showsAll;have O: ¬ ((d==sysModules)=true):=by rw [hsm];show Zu
 refine Qb (Qb (wpAny_notOrdered_dict T ?_));change wpAny _ _ (pure (Value.ref d)) _ _ s;refine Zc ?_;change wpAny _ _ ((if (d==sysModules)=true then _ else _) >>= _) _ _ s;rw [if_neg O];refine Qb (Zc (Qb (wpAny_dictEntries hod hdd (Qb (wpAny_dictEpoch hod hdd ?_)))));show Qb (Ys (Zc #[_,rfl,"dict_keyiterator",_,#[_,Zo _ rfl,rfl],F.slot_dict_keyiterator_next.lookup,by simpa [rawInt] using hQ]))
end
theorem fu {α β:Type} {F:α->β->Prop}: ∀ {O:List α} {l₂:List β} (i:Nat),Paired F O l₂->i<O.length-> ∃a b,O[i]? =some a/\l₂[i]? =some b/\F a b
 | _,_,_, .nil,h=>by simp at h
 | _,_,0, .cons r _,_=>#[_,_,rfl,rfl,r]
 | _,_,i+1, .cons _ t,h=>by
  let#[a,b,Y,h2,W]:=fu i t (by simpa using h);show#[a,b,by simpa using Y,by simpa using h2,W]
def Wi (od:Obj) (a:Addr):It:=
 ⟨λ i H=> ∃kvs,H a=some (.frz od (.dT kvs))/\i<kvs.length,
  λ i H v H'=>H'=H/\ ∀kvs,H a=some (.frz od (.dT kvs))-> ∃k x b,kvs[i]? =some (k,x)/\v= .ref b/\H b=some (.tup (k.map kV)),
  λ i H=> ∃kvs,H a=some (.frz od (.dT kvs))/\kvs.length<=i⟩
def Wj (tl:TE):TI:=λ σ H R=>tl σ H λ x H1=> ∃a kvs,x= .ref a/\H1 a=some (.dT kvs)/\ ∀od,R (Wi od a) (upd H1 a (.frz od (.dT kvs)))
end L2
end
section
namespace Sx
open PySem PyProof.Rows
variable {v:Value} {s':Shared} {Q:Option Nat->SortSt->Prop}
structure Wk (B:Keyed->Keyed->Bool):Prop where
 rf: ∀p,B p p=false
 tr: ∀ {p q r},B q p=false->B r q=false->B r p=false
 an: ∀ {p q},B p q=true->B q p=false
def gt (xs:Array Keyed) (i:Nat):Keyed:=xs[i]?.getD (.none, .none)
def Up (B:Keyed->Keyed->Bool) (xs:Array Keyed) (k:Nat):Prop:= ∀i j,i<=j->j<k->B (gt xs j) (gt xs i)=false
def Dn (B:Keyed->Keyed->Bool) (xs:Array Keyed) (k:Nat):Prop:= ∀i j,i<=j->j<k->B (gt xs i) (gt xs j)=false
def Eb (B:Keyed->Keyed->Bool) (xs:Array Keyed) (l k:Nat):Prop:= ∀i j,l<=i->i<k->l<=j->j<k->B (gt xs i) (gt xs j)=false
structure Bs (kd:SortKind) (a0:Array Keyed) (st:SortSt):Prop where
 pm:(arrOf st).Perm a0
 kn:kindOf st=kd
 fl:failedOf st=none
 pe:pendingOf st= ([].toArray)
section
variable {kd:SortKind} {a0 xs:Array Keyed} {st:SortSt} {B:Keyed->Keyed->Bool} {k l m:Nat}
theorem Bs.sz (b:Bs kd a0 st):(arrOf st).size=a0.size:=b.pm.size_eq
theorem Bs.put (b:Bs kd a0 st) (hp:xs.Perm (arrOf st)):Bs kd a0 (setArr st xs):=#[hp.trans b.pm,b.kn,b.fl,b.pe]
theorem Br {src d:Nat} (hs:src<xs.size) (hd:d<=src):gt (bubble xs src d) k=if k=src-d then gt xs src else if src-d<k/\k<=src then gt xs (k-1) else gt xs k:=by
 unfold gt;rw [getElem?_bubble hs d hd k];split
 .rfl
 .split<;>rfl
theorem gG (hm:m<=xs.size):gt (mirror xs l m ((m-l) / 2)) k=if l<=k/\k<m then gt xs (l+m-1-k) else gt xs k:=by
 unfold gt;rw [getElem?_mirror_all hm k];split<;>rfl
theorem Up.one (o:Wk B):Up B xs 1:=λ i j W O=>by
 have:i=j:=()
 rw [this];show o.rf _
theorem Up.next (o:Wk B) (u:Up B xs k) (hk:1<=k) (e:B (gt xs k) (gt xs (k-1))=false):Up B xs (k+1):=λ i j O h2=>by
 by_cases Y:j<k
 .exact u i j O Y
 .obtain rfl:j=k:=()
  by_cases W:i=j
  .rw [W];show o.rf _
  .exact o.tr (u i (j-1) () ()) e
theorem Dn.next (o:Wk B) (u:Dn B xs k) (hk:1<=k) (e:B (gt xs (k-1)) (gt xs k)=false):Dn B xs (k+1):=λ i j O h2=>by
 by_cases Y:j<k
 .exact u i j O Y
 .obtain rfl:j=k:=()
  by_cases W:i=j
  .rw [W];show o.rf _
  .exact o.tr e (u i (j-1) () ())
theorem Eb.one (o:Wk B):Eb B xs (k-1) k:=λ i j W h2 O Y=>by
 have:i=j:=()
 rw [this];show o.rf _
theorem Eb.next (o:Wk B) (u:Eb B xs l k) (hl:l<k) (e1:B (gt xs k) (gt xs (k-1))=false) (e2:B (gt xs (k-1)) (gt xs k)=false):Eb B xs l (k+1):=λ i j Y h2 W h4=>by
 by_cases hi:i<k
 .by_cases O:j<k
  .exact u i j Y hi W O
  .obtain rfl:j=k:=()
   show o.tr e2 (u i (j-1) Y hi () ())
 .obtain rfl:i=k:=()
  by_cases O:j<i
  .exact o.tr (u (i-1) j () () W O) e1
  .obtain rfl:j=i:=()
   show o.rf _
theorem Dn.mir (u:Dn B xs m) (q:Eb B xs l m) (hm:m<=xs.size):Dn B (mirror xs l m ((m-l) / 2)) m:=λ i j O W=>by
 rw [gG hm,gG hm];by_cases a:l<=i/\i<m
 .rw [if_pos a,if_pos ()];show q _ _ () () () ()
 .rw [if_neg a];by_cases c:l<=j/\j<m
  .rw [if_pos c];show u _ _ () ()
  .rw [if_neg c];show u i j O W
theorem Dn.up (u:Dn B xs m) (hm:m<=xs.size):Up B (mirror xs 0 m ((m-0) / 2)) m:=λ i j W O=>by
 rw [gG hm,gG hm,if_pos (),if_pos ()];show u _ _ () ()
end
def Gx (M:Model) (A:Around) (E:Value->Shared->Prop) (s:Shared) (kd:SortKind) (a0:Array Keyed) (B:Keyed->Keyed->Bool):Prop:=
 ∀ (st:SortSt) (i j:Nat) (Q:Option Bool->SortSt->Prop),Bs kd a0 st->i≠j->i<a0.size->j<a0.size->Q (some (B (gt (arrOf st) i) (gt (arrOf st) j))) st->wpS M A E s (ltAt' i j) Q st
section
variable {prog:Program} {w:World} {A:Around} {E:Value->Shared->Prop} {s:Shared} {kd:SortKind} {a0:Array Keyed} {B:Keyed->Keyed->Bool} {st:SortSt} {n k:Nat}
theorem xN (o:Wk B) (hA:Gx (model prog w) A E s kd a0 B) {Q:AscSt->SortSt->Prop} (hn:n<=a0.size) (hk:1<=k) (hkn:k<=n) (b:Bs kd a0 st) (u:Up B (arrOf st) k)
  (h: ∀m,k<=m->m<=n->Up B (arrOf st) m->(m=n\/B (gt (arrOf st) m) (gt (arrOf st) (m-1))=true)->Q (none,m) st):wpS (model prog w) A E s (ascLoop k n) Q st:=by
 unfold ascLoop;refine wpS_forRange (I:=λ m c t=>c=(none,m)/\t=st/\Up B (arrOf st) m) (λ m c t Y h2 W=> ?_) (λ c t W=> ?_) #[rfl,rfl,u]
 .obtain ⟨rfl,rfl,O⟩:=W;refine Yz (hA _ _ _ _ b (show m≠m-1 by rfl') (show m<_ by rfl') (show m-1<_ by rfl') ?_);dsimp only
  cases e:B (gt (arrOf t) m) (gt (arrOf t) (m-1)) with
  | true=>rw [if_pos rfl];show wpS_pure (h m Y () O (.inr e))
  | false=>rw [if_neg Zu];show wpS_pure #[rfl,rfl,O.next o () e]
 .obtain ⟨rfl,rfl,O⟩:=W;rw [show max k n=n from Nat.max_eq_right hkn] at O ⊢;show h n hkn (Zm _) O (.inl rfl)
theorem sE (o:Wk B) (hA:Gx (model prog w) A E s kd a0 B) (hn:n<=a0.size) (hk:1<=k) (hkn:k<=n) (b:Bs kd a0 st) (u:Dn B (arrOf st) k)
  (h: ∀m t,Bs kd a0 t->1<=m->m<=n->Up B (arrOf t) m->Q (some m) t):wpS (model prog w) A E s (tail3 k n) Q st:=by
 unfold tail3;refine Yz (wpS_reverse ?_);have O:=b.put (mirror_perm (arrOf st) 0 k ((k-0) / 2));show Yz (xN o hA hn hk hkn O (u.up (by rw [b.sz];rfl')) λ m h1 Y W _=>wpS_pure (h m _ O () Y W))
theorem Bt (o:Wk B) (hA:Gx (model prog w) A E s kd a0 B) {Q:DescSt->SortSt->Prop} (hn:n<=a0.size) (hk:1<=k) (hkn:k<=n) (b:Bs kd a0 st) (u:Dn B (arrOf st) k)
  (h: ∀m e t,Bs kd a0 t->k<=m->m<=n->Dn B (arrOf t) m->e+1<=m->Eb B (arrOf t) (m-(e+1)) m->Q (none,m,e) t):wpS (model prog w) A E s (descLoop k n) Q st:=by
 unfold descLoop;refine wpS_forRange (I:=λ m c t=> ∃e,c=(none,m,e)/\Bs kd a0 t/\Dn B (arrOf t) m/\e+1<=m/\Eb B (arrOf t) (m-(e+1)) m) (λ m c t h1 h2 Y=> ?_) (λ c t Y=> ?_) #[0,rfl,b,u,hk,Eb.one o]
 .obtain ⟨e,rfl,bt,O,W,q⟩:=Y;have hsz:m<=(arrOf t).size:=by rw [bt.sz];rfl'
  refine Yz (hA _ _ _ _ bt (show m≠m-1 by rfl') (show m<_ by rfl') (show m-1<_ by rfl') ?_);dsimp only
  cases e1:B (gt (arrOf t) m) (gt (arrOf t) (m-1)) with
  | true=>
   rw [if_pos rfl];have dn:Dn B (arrOf t) (m+1):=O.next o () (o.an e1);by_cases h0:e>0
   .rw [if_pos h0];refine Yz (wpS_reverse (wpS_pure #[0,rfl,bt.put (mirror_perm _ _ _ _),λ i j g1 g2=> ?_,(),Eb.one o]));by_cases hj:j<m
    .exact (O.mir q hsz) i j g1 hj
    .obtain rfl:j=m:=()
     change B (gt (mirror (arrOf t) _ _ _) i) (gt (mirror (arrOf t) _ _ _) j)=false;rw [gG hsz,gG hsz,if_neg (show ¬ (_/\j<j) by rfl')];split
     .exact dn _ _ () ()
     .exact dn _ _ g1 g2
   .rw [if_neg h0];show wpS_pure #[0,rfl,bt,dn,(),Eb.one o]
  | false=>
   rw [if_neg Zu];refine Yz (hA _ _ _ _ bt (show m-1≠m by rfl') (show m-1<_ by rfl') (show m<_ by rfl') ?_);dsimp only
   cases e2:B (gt (arrOf t) (m-1)) (gt (arrOf t) m) with
   | true=>rw [if_pos rfl];show wpS_pure (h m e t bt h1 () O W q)
   | false=>
    rw [if_neg Zu];refine wpS_pure #[e+1,rfl,bt,O.next o () e2,(),?_];rw [show m+1-(e+1+1)=m-(e+1) by rfl'];show q.next o () e1 e2
 .obtain ⟨e,rfl,bt,O,W,q⟩:=Y;rw [show max k n=n from Nat.max_eq_right hkn] at O W q ⊢;show h n e t bt hkn (Zm _) O W q
theorem oO (o:Wk B) (hA:Gx (model prog w) A E s kd a0 B) (hn:n<=a0.size) (hkn:k+1<=n) (b:Bs kd a0 st) (u:Dn B (arrOf st) (k+1))
  (h: ∀m t,Bs kd a0 t->1<=m->m<=n->Up B (arrOf t) m->Q (some m) t):wpS (model prog w) A E s (descPart k n) Q st:=by
 unfold descPart;refine Yz (wpS_lift (wpAny_rule #[rfl,Yz (Bt o hA hn () hkn b u λ m e t bt h1 Y W he q=> ?_)]));dsimp only;have hsz:m<=(arrOf t).size:=by rw [bt.sz];rfl'
 by_cases O:e>0
 .rw [if_pos O];show Yz (wpS_reverse (sE o hA hn () Y (bt.put (mirror_perm _ _ _ _)) (W.mir q hsz) h))
 .rw [if_neg O];show sE o hA hn () Y bt W h
theorem yV (o:Wk B) (hA:Gx (model prog w) A E s kd a0 B) (hn:n<=a0.size) (h1n:1<=n) (b:Bs kd a0 st)
  (h: ∀m t,Bs kd a0 t->1<=m->m<=n->Up B (arrOf t) m->Q (some m) t):wpS (model prog w) A E s (countRun' 0 n) Q st:=by
 rw [countRun0_eq];refine Yz (xN o hA hn (Zm 1) h1n b (Up.one o) λ m h1 h2 W ab=> ?_);dsimp only;by_cases hm:m=n
 .rw [if_pos (by simpa using hm)];show wpS_pure (h m st b h1 h2 W)
 .rw [if_neg (by simpa using hm)];have O:=ab.resolve_left hm;have hsz:m<=(arrOf st).size:=by rw [b.sz];rfl'
  by_cases g:m>1
  .rw [if_pos g];refine Yz (hA _ _ _ _ b () (show 0<_ by rfl') (show m-1<_ by rfl') ?_);dsimp only
   cases e:B (gt (arrOf st) 0) (gt (arrOf st) (m-1)) with
   | true=>rw [if_pos rfl];show wpS_pure (h m st b h1 h2 W)
   | false=>
    rw [if_neg Zu];have q:Eb B (arrOf st) 0 m:=λ i j _ hi _ Y=>o.tr (W j (m-1) () ()) (o.tr e (W 0 i () hi))
    have dn:Dn B (arrOf st) (m+1):=Dn.next o (λ i j _ Y=>q i j () () () Y) h1 (o.an O);refine Yz (wpS_reverse (oO o hA hn () (b.put (mirror_perm _ _ _ _)) (λ i j g1 g2=> ?_) h));change B (gt (mirror (arrOf st) _ _ _) i) (gt (mirror (arrOf st) _ _ _) j)=false;rw [gG hsz,gG hsz];by_cases Y:j<m
    .rw [if_pos (),if_pos ()];show q _ _ () () () ()
    .rw [if_neg (show ¬ (0<=j/\j<m) by rfl')];split
     .exact dn _ _ () g2
     .exact dn _ _ g1 g2
  .rw [if_neg g];obtain rfl:m=1:=()
   show oO o hA hn () b (Dn.next o (λ i j g1 g2=>by rw [show i=j by rfl'];show o.rf _) (Zm 1) (o.an O)) h
theorem HD (o:Wk B) (hA:Gx (model prog w) A E s kd a0 B) {Q:Bool->SortSt->Prop} (hn:n<=a0.size) (hkn:k<=n) (b:Bs kd a0 st) (u:Up B (arrOf st) k)
  (h: ∀t,Bs kd a0 t->Up B (arrOf t) n->Q true t):wpS (model prog w) A E s (binarySort' 0 n k) Q st:=by
 rw [binarySort'_eq];simp only [Nat.zero_add];refine Yz (wpS_mono (wpS_forRange (I:=λ m c t=>c=(none,Unit.unit)/\Bs kd a0 t/\Up B (arrOf t) (min m n)) (Q:=λ c t=>c=(none,Unit.unit)/\Bs kd a0 t/\Up B (arrOf t) n) (λ m c t h1 h2 hi=> ?_) (λ c t hi=> ?_) #[rfl,b,λ i j g1 g2=> ?_]) λ c t hc=> ?_)
 .obtain ⟨rfl,bt,Y⟩:=hi;rw [Nat.min_eq_left (Nat.le_of_lt h2)] at Y;have hm:m<a0.size:=()
  refine Yz (wpS_mono (wpS_forRange (I:=λ x c t'=>t'=t/\ ∃l r,c=(none,l,r)/\l<=r/\r<=m/\r+x<=m+l/\(∀i,i<l->B (gt (arrOf t) m) (gt (arrOf t) i)=false)/\ ∀i,r<=i->i<m->B (gt (arrOf t) i) (gt (arrOf t) m)=false)
   (Q:=λ c t'=>t'=t/\ ∃l r,c=(none,l,r)/\l<=m/\(∀i,i<l->B (gt (arrOf t) m) (gt (arrOf t) i)=false)/\ ∀i,l<=i->i<m->B (gt (arrOf t) i) (gt (arrOf t) m)=false)
   (λ x c t' g1 g2 hi=> ?_) (λ c t' hi=> ?_) #[rfl,0,m,rfl,(),(),(),λ i z=>(),λ i z1 z2=>()]) λ c t' hc=> ?_)
  .obtain ⟨rfl,l,r,rfl,ac,W,hx,lo,O⟩:=hi;dsimp only;by_cases ge:l>=r
   .rw [if_pos ge];obtain rfl:l=r:=()
    show wpS_pure #[rfl,l,l,rfl,W,lo,O]
   .rw [if_neg ge];have h1:l<=(l+r) / 2:=by clear hx lo O Y W h1 h2 g1 g2 hm hn hkn;rfl'
    have h2:(l+r) / 2<r:=by clear hx lo O Y W h1 h2 g1 g2 hm hn hkn;rfl'
    generalize (l+r) / 2=c at h1 h2 ⊢;have ab:=Zx h2 W;refine Yz (hA _ _ _ _ bt () hm (show c<_ from Nat.lt_trans ab hm) ?_);dsimp only
    cases e:B (gt (arrOf t') m) (gt (arrOf t') c) with
    | true=>
     simp only [if_true];show wpS_pure #[rfl,l,c,rfl,h1,Nat.le_of_lt ab,by clear h1 ab hm;rfl',lo,λ i z1 z2=>o.tr (o.an e) (Y _ _ z1 z2)]
    | false=>
     simp only [Yh,if_false];show wpS_pure #[rfl,c+1,r,rfl,h2,W,by clear ab hm;rfl',λ i z=>o.tr (Y i c (Nat.le_of_lt_succ z) ab) e,O]
  .obtain ⟨rfl,l,r,rfl,ac,W,hx,lo,O⟩:=hi;obtain rfl:l=r:=()
   show#[rfl,l,l,rfl,W,lo,O]
  .obtain ⟨rfl,l,r,rfl,ad,lo,O⟩:=hc;change wpS _ _ _ _ (do moveDown' m l;pure (ForInStep.yield (none,Unit.unit))) _ _;rw [moveDown'_eq];refine Yz (wpS_modify (wpS_pure #[rfl,bt.put (bubble_perm _ _ _),?_]));rw [show min (m+1) n=m+1 by rfl'];have hsz:m<(arrOf t').size:=by rw [bt.sz];show hm
   intro i j g1 g2;change B (gt (bubble (arrOf t') m (m-l)) j) (gt (bubble (arrOf t') m (m-l)) i)=false;rw [Br hsz (),Br hsz (),Nat.sub_sub_self ad];by_cases i1:i=l
   .rw [if_pos i1];by_cases j1:j=l
    .rw [if_pos j1];show o.rf _
    .rw [if_neg j1,if_pos ()];show O (j-1) () ()
   .rw [if_neg i1];by_cases i2:l<i/\i<=m
    .rw [if_pos i2,if_neg (),if_pos ()];show Y _ _ () ()
    .rw [if_neg i2];by_cases j1:j=l
     .rw [if_pos j1];show lo i ()
     .rw [if_neg j1];by_cases j2:l<j/\j<=m
      .rw [if_pos j2];show Y _ _ () ()
      .rw [if_neg j2];show Y _ _ g1 ()
 .obtain ⟨hc,bt,Y⟩:=hi;refine#[hc,bt,?_];rwa [show min (max (max k 1) n) n=n by rfl'] at Y
 .by_cases h0:k=0
  .rw [show i=j by rfl'];show o.rf _
  .exact u i j g1 ()
 .obtain ⟨rfl,bt,Y⟩:=hc;show wpS_pure (h t bt Y)
def Dd (B:Keyed->Keyed->Bool) (a0:Array Keyed) (st:SortSt):Prop:=(arrOf st).Perm a0/\failedOf st=none/\pendingOf st= ([(0,a0.size,0)].toArray)/\Up B (arrOf st) a0.size
theorem Bs.dd (b:Bs kd a0 st) (u:Up B (arrOf st) a0.size):Dd B a0 (setPending st ((pendingOf st).push (0,a0.size,0))):=#[b.pm,b.fl,by change(pendingOf st).push (0,a0.size,0)=_;rw [b.pe];rfl,u]
theorem HF (o:Wk B) (hA:Gx (model prog w) A E s kd a0 B) {Q:Unit->SortSt->Prop} (b:Bs kd a0 st) (h2:2<=a0.size) (h64:a0.size<64)
  (h: ∀t,(arrOf t).Perm a0->failedOf t=none->Up B (arrOf t) a0.size->Q Unit.unit t):wpS (model prog w) A E s sortRuns' Q st:=by
 rw [sortRuns'_eq];refine Yz (wpS_get ?_);have ac: ∀f,minRun' (f+1) a0.size 0=a0.size:=λ f=>by rw [minRun'_succ,if_pos h64];rfl
 have W:minRun' a0.size a0.size 0=a0.size:=by
  have:=ac (a0.size-1);rwa [show a0.size-1+1=a0.size by rfl'] at this
 dsimp only;simp only [b.sz,W];refine Yz (wpS_mono (wpS_forRange (I:=λ x c t=>(x=0/\c=(none,0)/\Bs kd a0 t)\/(1<=x/\c=(none,a0.size)/\Dd B a0 t)) (Q:=λ c t=>c=(none,a0.size)/\Dd B a0 t) (λ x c t _ _ hi=> ?_) (λ c t hi=> ?_) (.inl #[rfl,rfl,b])) λ c t Y=> ?_)
 .rcases hi with ⟨rfl,rfl,bt⟩ | ⟨hx,rfl,O⟩
  .dsimp only;rw [if_neg ()];simp only [Nat.sub_zero,Nat.min_self,Nat.zero_add];refine Yz (yV o hA (Zm _) () bt λ m t2 b2 m1 m2 u2=> ?_);dsimp only;by_cases ab:m<a0.size
   .rw [if_pos ab];refine Yz (wpS_lift (wpAny_rule #[rfl,Yz (HD o hA (Zm _) m2 b2 u2 λ t3 b3 u3=> ?_)]));simp only [Bool.not_true,Yh,if_false];refine Yz (wpS_get ?_);rw [show(pendingOf t3).back?=none by rw [b3.pe];rfl];show Yz (wpS_modify (wpS_pure (.inr #[(),rfl,b3.dd u3])))
   .rw [if_neg ab];obtain rfl:m=a0.size:=()
    refine Yz (wpS_get ?_);rw [show(pendingOf t2).back?=none by rw [b2.pe];rfl];show Yz (wpS_modify (wpS_pure (.inr #[(),rfl,b2.dd u2])))
  .dsimp only;rw [if_pos (Zm _)];show wpS_pure #[rfl,O]
 .rcases hi with ⟨hx,_⟩ | ⟨_,Y,O⟩
  .rfl'
  .exact #[Y,O]
 .obtain ⟨rfl,O⟩:=Y;dsimp only;refine Yz (wpS_mono (wpS_forRange (I:=λ _ c t'=>t'=t/\c=(none,Unit.unit)) (Q:=λ c t'=>t'=t/\c=(none,Unit.unit)) (λ x c t' _ _ hi=> ?_) (λ _ _ z=>z) #[rfl,rfl]) λ c t' Y=> ?_)
  .obtain ⟨rfl,rfl⟩:=hi;refine Yz (wpS_get ?_);rw [if_pos (by rw [O.2.2.1];show Zm 1)];show wpS_pure #[rfl,rfl]
  .obtain ⟨rfl,rfl⟩:=Y;show wpS_pure (h _ O.1 O.2.1 O.2.2.2)
def Kp (s s':Shared):Prop:=(∀b o,s.heap.get? b=some o->s'.heap.get? b=some o)/\s'={ s with heap:=s'.heap }
def mid (h:Heap) (a:Addr) (vs:List Value):Heap:=((h.update a (Obj.mapSeq λ _=> ([].toArray))).push (seqObj "tuple" vs.toArray 0)).push (seqObj "list" ([].toArray) 0)
theorem sG (o:Wk B) {a:Addr} {vs:List Value} {n:Nat} {P:Fin->Shared->Prop} (ho:s.heap.get? a=some (seqObj "list" vs.toArray n)) (h64:vs.length<64)
  (hK:2<=vs.length->wpAny (model prog w) A (keyKind' vs.toArray) (λ k s'=>s'={ s with heap:=mid s.heap a vs }/\k=kd) E { s with heap:=mid s.heap a vs })
  (hA:Gx (model prog w) A E { s with heap:=mid s.heap a vs } kd (pairsOf vs) B)
  (h: ∀W:Array Keyed,W.Perm (pairsOf vs)->Up B W vs.length->P (.done (.ret .none)) { s with heap:=sortedHeap s.heap a vs (W.map (·.2)) }):
  wpAny (model prog w) A (Builtin.«list.sort» #[[.ref a],[]]) P E s:=by
 rw [list_sort_plain];have ha:a<s.heap.objs.size:=Zh ho;let#[e1,h1]: ∃e1,(s.heap.update a (Obj.mapSeq λ _=> ([].toArray))).get? a=some (seqObj "list" ([].toArray) e1):=#[_,get?_update_seq ho (λ _=> ([].toArray))];have h6:(mid s.heap a vs).get? a=some (seqObj "list" ([].toArray) e1):=by
  unfold mid;show Zd _ (Zd _ h1)
 have O:(pairsOf vs).size=vs.length:=pairsOf_size vs;refine Qb (listItems_at ho rfl (Qb (listUpdate_at ho rfl (Qb (seqEpoch_at h1 rfl (Qb (wpAny_newTuple (Qb (wpAny_newList (Yp ?_))))))))));change wpAny (model prog w) A _ P E { s with heap:=mid s.heap a vs };dsimp only;have hz:vs.toArray.size=vs.length:=by simp
 rw [hz];by_cases h2:vs.length<2
 .rw [if_pos h2,if_pos h2];refine Qb (Zc ?_);rw [StateT.run_pure];refine Qb (Zc (Qb (seqEpoch_at h6 rfl (Qb (listUpdate_at h6 rfl ?_ (hsz2:= ?_))))))
  .simp only [bne_self_eq_false,Yh,if_false];show Zc (h (pairsOf vs) (Array.Perm.refl _) λ i j g1 g2=>by rw [show i=j by rfl'];show o.rf _)
  .rw [Array.size_map];change(pairsOf vs).size<=_;rw [O,sizeLine_eq];rfl'
 .rw [if_neg h2,if_neg h2];refine Qb (Yv (hK ()) ?_ λ _ _ z=>z);rintro k s' ⟨rfl,rfl⟩;refine Qb (Yv (HF o hA (st:=SortSt.mk' k (vs.toArray.zip vs.toArray) ([].toArray) 7 none) (Q:=λ _ t=>(arrOf t).Perm (pairsOf vs)/\failedOf t=none/\Up B (arrOf t) (pairsOf vs).size)
   #[Array.Perm.refl _,rfl,rfl,rfl] () () λ t z1 z2 Y=>#[z1,z2,Y]) ?_ λ _ _ z=>z)
  rintro ⟨⟨⟩,t⟩ s' ⟨rfl,z1,z2,Y⟩;refine Qb (seqEpoch_at h6 rfl (Qb (listUpdate_at h6 rfl ?_ (hsz2:= ?_))))
  .dsimp only;rw [z2];simp only [bne_self_eq_false,Yh,if_false];rw [O] at Y;show Zc (h _ z1 Y)
  .rw [Array.size_map];change(arrOf t).size<=_;rw [z1.size_eq,O,sizeLine_eq];rfl'
theorem uN (o:Wk B) {l:Addr} {vs:List Value} {Q:Value->Shared->Prop} (hl:s.heap.IsList l vs.toArray) (h64:vs.length<64)
  (hK: ∀ (W:Around) (E':Value->Shared->Prop) s',Kp s s'->2<=vs.length->wpAny (model prog w) W (keyKind' vs.toArray) (λ k Y=>Y=s'/\k=kd) E' s')
  (hA: ∀ (W:Around) (E':Value->Shared->Prop) s',Kp s s'->Gx (model prog w) W E' s' kd (pairsOf vs) B)
  (h: ∀O:Array Keyed,O.Perm (pairsOf vs)->Up B O vs.length->Q (.ref (s.heap.objs.size+1)) { s with heap:=sortedAll s.heap vs (O.map (·.2)) }):
  wpAny (model prog w) A (call (.builtin "sorted") [.ref l]) Q E s:=by
 refine Calls.call_function_entry kind_sorted plain_sorted entry_sorted (args_sorted1 _) ?_;unfold Builtin.«sorted»;refine Qb (m:=checkCount "sorted" 1 1 _) (Zc (Qb (collect_list hl (Qb (wpAny_newList ?_)))));have z:((s.heap.push (seqObj "list" ([].toArray) 0)).update s.heap.objs.size (Obj.mapSeq (· ++vs.toArray))).objs.size=s.heap.objs.size+1:=by rw [Heap.size_update,size_push']
 have g:(((s.heap.push (seqObj "list" ([].toArray) 0)).update s.heap.objs.size (Obj.mapSeq (· ++vs.toArray))).push (seqObj "list" vs.toArray 0)).get? (s.heap.objs.size+1)=some (seqObj "list" vs.toArray 0):=by
  rw [<- z];show Zo _ rfl
 have kp:Kp s { s with heap:=mid (((s.heap.push (seqObj "list" ([].toArray) 0)).update s.heap.objs.size (Obj.mapSeq (· ++vs.toArray))).push (seqObj "list" vs.toArray 0)) (s.heap.objs.size+1) vs }:=by
  refine#[λ b ob hb=> ?_,rfl];have lt:b<s.heap.objs.size:=Zh hb;unfold mid;refine Zd _ (Zd _ ?_);rw [Heap.get?_update_ne _ _ _ _ (Yb (Nat.lt_succ_of_lt lt))];refine Zd _ ?_;rw [Heap.get?_update_ne _ _ _ _ (Yb lt)];show Zd _ hb
 change wpAny _ _ _ _ _ { s with heap:=((s.heap.push (seqObj "list" ([].toArray) 0)).update s.heap.objs.size (Obj.mapSeq (· ++vs.toArray))).push (seqObj "list" vs.toArray 0) };rw [z];refine Qb (Yp (Yo slot_list_sort #[_,g,rfl] entry_list_sort (sG o g h64 (λ h2=>hK _ _ _ kp h2) (hA _ _ _ kp) λ O z1 z2=>#[_,rfl,?_]) (args_list_sort _)));show Zc #[_,rfl,h O z1 z2]
end
theorem qb (b:Bool) (x y:Value):keyLt' (tuples' b) x y=(do
  let xs <- Builtin.List.listItems x;let ys <- Builtin.List.listItems y
  for ((p,q),i) in (xs.toList.zip ys.toList).zipIdx do
   if !(<- eqBool p q) then return <- oneLt' (b&&i==0) p q
  return xs.size<ys.size):=rfl
theorem Bu (v:Value):firstOfTuple' v=(do
  if (<- typeOf v)!= .type "tuple" then return none
  return (<- Builtin.List.listItems v)[0]?):=rfl
def Fs (h:Heap) (f:Value->Str) (v:Value):Prop:= ∃b ob its tk n rest,v= .ref b/\h.get? b=some ob/\ob.cls= .type "tuple"/\ob.data= .seq its n/\its.toList= .str (f v) tk::rest
section
variable {prog:Program} {w:World} {A:Around} {E:Value->Shared->Prop} {s:Shared} {f:Value->Str}
theorem sI {α β:Type} {g:α->Sem β} {r:α->β}: ∀ {vs:List α} {Q:List β->Shared->Prop},(∀v∈vs,∀R:β->Shared->Prop,R (r v) s->wpAny (model prog w) A (g v) R E s)->Q (vs.map r) s->wpAny (model prog w) A (vs.mapM g) Q E s
 | [],Q,_,q=>by rw [List.mapM_nil];show Zc q
 | v::vs,Q,h,q=>by
  rw [List.mapM_cons];show Qb (h v Zt _ (Qb (sI (λ u O=>h u (Zs _ O)) (Zc q))))
theorem Fs.keep (k:Kp s s') (h:Fs s.heap f v):Fs s'.heap f v:=by
 let#[b,ob,O,Y,n,rest,e1,W,e3]:=h;show#[b,ob,O,Y,n,rest,e1,k.1 _ _ W,e3]
theorem jU {vs:List Value} (h2:vs≠[]) (hF: ∀v∈vs,Fs s.heap f v):wpAny (model prog w) A (keyKind' vs.toArray) (λ k s'=>s'=s/\k=tuples' true) E s:=by
 rw [keyKind'_eq,List.mapM_toArray];have ht: ∀v∈vs,∃O,∀R:Option Value->Shared->Prop,R (some (.str (f v) O)) s->wpAny (model prog w) A (firstOfTuple' v) R E s:=by
  intro v W;let#[b,ob,ac,O,n,rest,rfl,e2,e3,e4,e5]:=hF v W;refine#[O,λ R r=> ?_];rw [Bu];refine Qb (wpAny_typeOf_ref e2 ?_);rw [e3];refine Qb (listItems_at e2 e4 (Zc ?_));have:ac[0]? =some (.str (f (.ref b)) O):=by rw [<- Array.getElem?_toList,e5];rfl
  rw [this];show r
 let O:Value->Tok:=λ v=>if W:v∈vs then (ht v W).choose else 0
 have ab: ∀v∈vs,∀R:Option Value->Shared->Prop,R (some (.str (f v) (O v))) s->wpAny (model prog w) A (firstOfTuple' v) R E s:=by
  intro v W R r;refine(ht v W).choose_spec R ?_;have:O v=(ht v W).choose:=dif_pos W;rwa [<- this]
 have sa: ∀us:List Value,StrsAre (us.map λ v=> .str (f v) (O v)) (us.map f):=by
  intro us;induction us with
  | nil=>show .nil
  | cons u us ih=>show .cons _ _ ih
 rw [map_eq_pure_bind,bind_assoc];refine Qb (sI (r:=λ v=>some (.str (f v) (O v))) ab ?_);rw [pure_bind];have a1:((vs.map λ v=>some (Value.str (f v) (O v))).toArray.all (·.isSome))=true:=by
  rw [List.all_toArray,List.all_map,List.all_eq_true];intro _ _;rfl
 have a2:(vs.map λ v=>some (Value.str (f v) (O v))).toArray.filterMap id=(vs.map λ v=>Value.str (f v) (O v)).toArray:=by
  rw [List.filterMap_toArray,List.filterMap_map];congr 1;change vs.filterMap (λ v=>some (Value.str (f v) (O v)))=_;rw [List.filterMap_eq_map']
 rw [if_pos a1,a2,oneTypeOnly'_eq,List.mapM_toArray,mapM_typeOf_strs (sa vs)];simp only [map_pure,pure_bind];refine Qb (wpAny_rule ?_);let#[v,Y,rfl]:=List.exists_cons_of_ne_nil h2;have a3:((List.map (λ _=>Value.type "str") ((v::Y).map λ v=>Value.str (f v) (O v))).toArray.all λ x=>x==Value.type "str")=true:=by
  rw [List.all_toArray,List.all_map,List.all_eq_true];intro _ _;rfl
 have a4:(List.map (λ _=>Value.type "str") ((v::Y).map λ v=>Value.str (f v) (O v))).toArray[0]? =some (Value.type "str"):=by simp
 rw [a4];simp only [a3,if_true,pure_bind];show Zc #[rfl,rfl]
def Bf (f:Value->Str) (p q:Keyed):Bool:=strKind.blt (f p.1).cps.toList (f q.1).cps.toList
theorem R0:Wk (Bf f):=#[λ p=>strKind.irrefl _,λ {p q r} W Y=>KeyOrd.kle_trans (O:=strKind.toKeyOrd) W Y,λ {p q} h=>KeyOrd.klt_asymm (O:=strKind.toKeyOrd) h]
theorem mj {vs:List Value} (hF: ∀v∈vs,Fs s.heap f v) (hd:(vs.map f).Nodup):Gx (model prog w) A E s (tuples' true) (pairsOf vs) (Bf f):=by
 intro st i j Q b Y hi hj q;have W:i<(arrOf st).size:=by rw [b.sz];show hi
 have O:j<(arrOf st).size:=by rw [b.sz];show hj
 have mem: ∀k (hk:k<(arrOf st).size),((arrOf st)[k]).1∈vs:=by
  intro k hk;have hm:(arrOf st)[k]∈(pairsOf vs).toList:=(Array.perm_iff_toList_perm.mp b.pm).mem_iff.mp (by simp);rw [pairsOf_toList] at hm;show(mem_zip_self hm).2
 have ne:f ((arrOf st)[i]).1≠f ((arrOf st)[j]).1:=by
  have hp:((arrOf st).toList.map λ p=>f p.1).Perm (vs.map f):=by
   have:=(Array.perm_iff_toList_perm.mp b.pm).map (λ p:Keyed=>f p.1);rw [pairsOf_toList] at this;have e:(vs.zip vs).map (λ p:Keyed=>f p.1)=vs.map f:=by
    rw [show(λ p:Keyed=>f p.1)=f∘Prod.fst from rfl,<- Zn,List.map_fst_zip (Zm _)]
   rwa [e] at this
  have nd:=(hp.nodup_iff).mpr hd;intro e;show Y ((List.getElem_inj (h₀:=by simpa using W) (h₁:=by simpa using O) nd).mp (by simpa using e))
 have gi:gt (arrOf st) i=(arrOf st)[i]:=by unfold gt;rw [getElem?_pos _ i W];rfl
 have gj:gt (arrOf st) j=(arrOf st)[j]:=by unfold gt;rw [getElem?_pos _ j O];rfl
 rw [gi,gj] at q;rw [ltAt'_eq];refine Yz (wpS_get ?_);change wpS _ _ _ _ (do let x <- elem' (arrOf st) i;let y <- elem' (arrOf st) j;lt' x y) Q st;rw [elem'_eq,elem'_eq,getElem?_pos _ i W,getElem?_pos _ j O];refine Yz (wpS_pure (Yz (wpS_pure ?_)));rw [lt'_eq];refine Yz (wpS_get ?_);rw [b.kn];obtain ⟨b1,o1,ab,t1,n1,r1,v1,x1,y1,z1,w1⟩:=hF _ (mem i W);obtain ⟨b2,o2,ac,t2,n2,r2,v2,x2,y2,z2,w2⟩:=hF _ (mem j O);refine Yz (wpS_lift (wpAny_attempt ?_));rw [qb];generalize hp:(arrOf st)[i]=p at*;generalize hq:(arrOf st)[j]=p' at*;rw [v1,v2];refine Qb (listItems_at x1 z1 (Qb (listItems_at x2 z2 ?_)));rw [w1,w2,List.zip_cons_cons,List.zipIdx_cons,Yw];refine Qb (Qb (Qb (eqBool_str ?_)));rw [if_pos (by rw [beq_eq_false_iff_ne.mpr ne];rfl)];refine Qb (strKind_oneLt prog w A _ s _ _ (f p.1).cps.toList (f p'.1).cps.toList rfl rfl (Zc (Zc (Zc #[rfl,wpS_pure ?_]))));show q
theorem nG {l:Addr} {vs:List Value} {Q:Value->Shared->Prop} (hl:s.heap.IsList l vs.toArray) (h64:vs.length<64) (hF: ∀v∈vs,Fs s.heap f v) (hd:(vs.map f).Nodup)
  (h: ∀O:List Value,O.Perm vs->(O.map f).Pairwise (λ a b=>a.cps.toList<b.cps.toList)->Q (.ref (s.heap.objs.size+1)) { s with heap:=sortedAll s.heap vs O.toArray }):
  wpAny (model prog w) A (call (.builtin "sorted") [.ref l]) Q E s:=by
 refine uN (kd:=tuples' true) (R0 (f:=f)) hl h64 (λ A' E' s' k h2=>jU (by intro e;rw [e] at h2;simp at h2) λ v hv=>(hF v hv).keep k) (λ A' E' s' k=>mj (λ v hv=>(hF v hv).keep k) hd) λ O hp u=> ?_
 have W:O.toList.Perm (vs.zip vs):=by
  have:=Array.perm_iff_toList_perm.mp hp;rwa [pairsOf_toList] at this
 have Y: ∀p∈O.toList,p.1=p.2:=λ p hm=>(mem_zip_self (W.mem_iff.mp hm)).1
 have ab:(O.toList.map (·.2)).Perm vs:=by
  have:=W.map (·.2);rwa [List.map_snd_zip (Zm _)] at this
 have hsz:O.size=vs.length:=by rw [hp.size_eq,pairsOf_size]
 have:=h (O.toList.map (·.2)) ab ?_
 .rwa [show(O.toList.map (·.2)).toArray=O.map (·.2) by rw [<- Array.toList_map]] at this
 have af:((O.toList.map (·.2)).map f).Nodup:=((ab.map f).nodup_iff).mpr hd;rw [List.pairwise_iff_getElem];intro i j hi hj ae;have ad:i<O.size:=by simpa using hi
 have ac:j<O.size:=by simpa using hj
 have uu:=u i j (Nat.le_of_lt ae) ();have gi:gt O i=O[i]:=by unfold gt;rw [getElem?_pos _ i ad];rfl
 have gj:gt O j=O[j]:=by unfold gt;rw [getElem?_pos _ j ac];rfl
 rw [gi,gj] at uu;have f1:((O.toList.map (·.2)).map f)[i]=f (O[i]).1:=by
  rw [Y _ (by simp)];simp
 have f2:((O.toList.map (·.2)).map f)[j]=f (O[j]).1:=by
  rw [Y _ (by simp)];simp
 rw [f1,f2];have ne:f (O[i]).1≠f (O[j]).1:=by
  intro e;have:=(List.getElem_inj (h₀:=hi) (h₁:=hj) af).mp (by rw [f1,f2,e]);rfl'
 unfold Bf at uu;have ag: ¬ (f (O[j]).1).cps.toList<(f (O[i]).1).cps.toList:=of_decide_eq_false uu
 cases e:strKind.blt (f (O[i]).1).cps.toList (f (O[j]).1).cps.toList with
 | true=>show of_decide_eq_true e
 | false=>
  have:=strKind.total _ _ e uu;show absurd (by
   have h3:(f (O[i]).1).cps=(f (O[j]).1).cps:=Array.toList_inj.mp this
   cases h4:f (O[i]).1;cases h5:f (O[j]).1;rw [h4,h5] at h3;simpa using h3) ne
end
end Sx
namespace L2
open PySem PySem.Spec PyProof.Rows
variable {v:Value} {w:World} {A:Around} {prog:Program} {kvs:List (Int×V)} {us:List (Key×Value)} {E Q:Value->Shared->Prop} {C R:List Value->Shared->Prop} {Z:List Value->Shared->Array Value->Prop}
theorem xO {α β:Type} {g:α->β} {l out:List β} (h:l.Perm out): ∀ {zs:List α},l=zs.map g-> ∃O:List α,O.Perm zs/\out=O.map g:=by
 induction h with
 | nil=>intro zs e;show#[zs, .refl _,e]
 | cons x _ ih=>
  intro zs e
  cases zs with
  | nil=>cases e
  | cons z zs=>
   rw [Zl] at e;injection e with e1 e2
   let#[O,p,q]:=ih e2;show#[z::O,p.cons z,by rw [Zl,q,e1]]
 | swap x y l=>
  intro zs e
  match zs,e with
  | z1::z2::r,e=>
   rw [Zl,Zl] at e;injection e with e1 e2
   injection e2 with e2 e3
   show#[z2::z1::r, .swap _ _ _,by rw [Zl,Zl,e1,e2,e3]]
 | trans _ _ ih1 ih2=>
  intro zs e;let#[O,p,q]:=ih1 e;let#[us,W,Y]:=ih2 q;show#[us,W.trans p,Y]
def fB (h:Heap):Value->Str
 | .ref b=>match h.get? b with
  | some ob=>match ob.data with
   | .seq its _=>match (its[0]? :Option Value) with
    | some (Value.str x _)=>x
    | _=>#[([].toArray)]
   | _=>#[([].toArray)]
  | none=>#[([].toArray)]
 | _=>#[([].toArray)]
theorem mC {α:Type} {g:α->Addr}: ∀ {zs:List α} {us:List Value},Vals (zs.map λ z=>V.ref (g z)) us->us=zs.map λ z=>Value.ref (g z)
 | [],_,r=>by cases r;rfl
 | z::zs,_,r=>by
  cases r with
  | cons r rr=>
   rw [mC rr,Zl];congr 1
theorem jz {α:Type} {g:α->Addr}: ∀zs:List α,Vals (zs.map λ z=>V.ref (g z)) (zs.map λ z=>Value.ref (g z))
 | []=> .nil
 | _::zs=> .cons rfl (jz zs)
def qd (K:W.Frag):List V->Hp->VK->Prop:=λ xs H Q=> ∃ (a:Addr) (zs:List (Addr×Str×List V)),xs=[.ref a]/\SqL K H a (zs.map λ z=>V.ref z.1)/\(∀z∈zs,SqT K H z.1 (.str z.2.1::z.2.2))/\(zs.map (·.2.1)).Nodup/\zs.length<64/\
 ∀r (ws:List (Addr×Str×List V)),ws.Perm zs->(ws.map (·.2.1)).Pairwise (λ a b=>a.cps.toList<b.cps.toList)->H r=none->Q (.ref r) (upd H r (.lst (ws.map λ z=>V.ref z.1)))
theorem uO {X:Cx}:bG X (.builtin "sorted") (qd X.K):=by
 intro ad s σ H xs us Q I rv h;let#[a,zs,rfl,hx,hz,ac,Y,q]:=h;let#[u,rfl,ru]:=rv.one
 cases (show u=Value.ref a from ru);let#[ae,r,ht,_]:=I.list hx;have ei:=mC r;subst ei;have hF: ∀z∈zs,fB s.heap (.ref z.1)=z.2.1/\Sx.Fs s.heap (fB s.heap) (.ref z.1):=by
  intro z O;let#[is,r1,p1,_]:=I.tuple (hz z O);let#[ob,ho,hc,n,ab]:=p1
  cases r1 with
  | cons r2 rr=>
   let#[t,rfl]:=r2;have e:fB s.heap (.ref z.1)=z.2.1:=by
    unfold fB;dsimp only;rw [ho];dsimp only;rw [ab];rfl
   show#[e,z.1,ob,_,t,n,_,rfl,ho,hc,ab,by rw [e]]
 have ef:(zs.map λ z=>Value.ref z.1).map (fB s.heap)=zs.map (·.2.1):=by
  rw [Zn];show List.map_congr_left λ z O=>(hF z O).1
 refine Sx.nG (f:=fB s.heap) (vs:=zs.map λ z=>Value.ref z.1) ht.isList (by rw [Qr];show Y) (λ v hv=> ?_) (by rw [ef];show ac) λ af hp hs=> ?_
 .obtain ⟨z,O,rfl⟩:=Zb.mp hv;show(hF z O).2
 let#[W,hw,rfl]:=xO hp.symm rfl;let#[e,he]:=sortedAll_at s.heap (zs.map λ z=>Value.ref z.1) (W.map λ z=>Value.ref z.1).toArray;have hr:H (s.heap.objs.size+1)=none:=I.hok.fresh (Nat.le_succ _);have es:(W.map λ z=>Value.ref z.1).map (fB s.heap)=W.map (·.2.1):=by
  rw [Zn];show List.map_congr_left λ z O=>(hF z (hw.mem_iff.mp O)).1
 rw [es] at hs;refine#[.ref _,_,I.laid (t':=s.toks) (a:=s.heap.objs.size+1) (o:= .lst (W.map λ z=>V.ref z.1)) (λ b o hb=>sortedAll_old hb) (Nat.le_succ _) (show ObjOk X.prog X.w _ _ _ (.lst _) from #[?_,_,e,jz (g:=λ z=>z.1) W,he]),rfl,q _ W hw hs hr];rw [Qr,hw.length_eq];show Nat.le_of_lt (Nat.lt_trans Y (by decide))
theorem sJ {X:Cx} (K:W.Frag) (hK:X.K=K):bG X (.builtin "sorted") (qd K):=hK▸uO
abbrev qg (a b:Str):Prop:=a.cps.toList<b.cps.toList
def qi:List V->Hp->VK->Prop:=λ xs H Q=> ∃ (a:Addr) (kvs:List (Int×V)),xs=[.ref a]/\H a=some (.dK (kvs.map λ p=>(Sum.inl p.1,p.2)))/\kvs.length<64/\ ∀r (ns:List Int),ns.Perm (kvs.map (·.1))->ns.Pairwise (· < ·)->H r=none->Q (.ref r) (upd H r (.lst (ns.map V.int)))
def qj (td:TE):TE:=λ σ H Q=>td σ H λ x H1=> ∃ (a:Addr) (kvs:List (Str×V)),x= .ref a/\H1 a=some (.dK (kvs.map λ p=>(Sum.inr p.1,p.2)))/\kvs.length<64/\ ∀r (zs:List (Addr×Str×V)) (H2:Hp),(zs.map (·.2)).Perm kvs->(zs.map (·.2.1)).Pairwise qg->H1 r=none->Same H1 H2->H2 r=some (.lst (zs.map λ z=>V.ref z.1))->(∀z∈zs,H2 z.1=some (.tup [.str z.2.1,z.2.2]))->Q (.ref r) H2
def Wl (te:TE):TE:=λ σ H Q=>te σ H λ x H1=> ∃cs:List Nat,x= .str #[cs.toArray]/\cs.length<=1000000/\Q (.str #[cs.reverse.toArray]) H1
theorem mD {s:Shared}
  (hc: ∀ (E':Value->Shared->Prop) (R:List Value->Shared->Prop),(∀vs s1,C vs s1->R vs s1)->wpAny (model prog w) A.in1 (collect v) R E' s)
  (hz: ∀vs s1,C vs s1->vs.length<64/\(∀ (W:Around) (E':Value->Shared->Prop) (P:PySem.Fin->Shared->Prop),(∀O,Z vs s1 O->P (.done (.ret .none)) { s1 with heap:=sortedHeap (s1.heap.push (seqObj "list" vs.toArray 0)) s1.heap.objs.size vs O })->
    wpAny (model prog w) W (Builtin.«list.sort» #[[.ref s1.heap.objs.size],[]]) P E' { s1 with heap:=s1.heap.push (seqObj "list" vs.toArray 0) })/\
   ∀O,Z vs s1 O->Q (.ref s1.heap.objs.size) { s1 with heap:=sortedHeap (s1.heap.push (seqObj "list" vs.toArray 0)) s1.heap.objs.size vs O }):
  wpAny (model prog w) A (call (.builtin "sorted") [v]) Q E s:=by
 refine Calls.call_function_entry kind_sorted plain_sorted entry_sorted (args_sorted1 _) ?_;unfold Builtin.«sorted»;refine Qb (m:=checkCount "sorted" 1 1 _) (Zc (Qb (hc _ _ λ vs s1 hC=> ?_)));let#[ab,Y,h]:=hz vs s1 hC;refine Qb (wpAny_newList ?_ (by rw [sizeLine_eq];rfl'));have g:(s1.heap.push (seqObj "list" vs.toArray 0)).get? s1.heap.objs.size=some (seqObj "list" vs.toArray 0):=Zo _ rfl;change wpAny _ _ _ _ _ { s1 with heap:=s1.heap.push (seqObj "list" vs.toArray 0) };refine Qb (Yp (Yo slot_list_sort #[_,g,rfl] entry_list_sort (Y _ _ _ λ O z=>#[_,rfl,?_]) (args_list_sort _)));show Zc #[_,rfl,h O z]
theorem ql {s:Shared} {K:Type} [DecidableEq K] {knd:PySem.KeyKind prog w K} {d:Addr} {kvs:List (K×Value)} {ep:Nat}
  (hh:A.handled=none) (lo:(d==sysModules)=false) (hm:s.heap.DictAt knd d kvs ep) (hn:kvs.length<=sizeLine)
  (h: ∀ (h':Heap) (tk:Nat) (vs:List Value),(∀b o,s.heap.get? b=some o->h'.get? b=some o)->s.heap.objs.size<=h'.objs.size->vs.length=kvs.length->(∀ (j:Nat) v,vs[j]? =some v-> ∃k x,kvs[j]? =some (k,x)/\knd.is k v=true)->R vs { s with heap:=h',toks:=tk }):
  wpAny (model prog w) A (collect (.ref d)) R E s:=by
 have hd:d<s.heap.objs.size:=hm.lt_size;have KS:=PySem.W.kdl_dict (prog:=prog) (w:=w) (knd:=knd) (d:=d) (kvs:=kvs) (ep:=ep) lo;unfold collect;refine Qb (wpAny_runValue (codeAny_builtin entry_proto_collect' ?_));rw [Around.under_plainId PySem.F.plain_proto_collect _];change wpAny _ A.in1 (newList [] >>= λ l=>again (.builtin "list.__iadd__" #[[l, .ref d],[]])) _ _ s;refine Qb (Ys ?_);refine Zc #[plainId_quiet PySem.F.plain_list_iadd _,codeAny_builtin entry_list_iadd' ?_];rw [Around.under_plainId PySem.F.plain_list_iadd _];have ac:(s.heap.push { cls:= .type "list",data:= .seq ([]:List Value).toArray }).get? s.heap.objs.size=some { cls:= .type "list",data:= .seq ([].toArray) }:=Zo _ rfl;change wpAny _ A.in1 (Builtin.List.listExtendWith (.ref s.heap.objs.size) (.ref d) (.ref s.heap.objs.size)) _ _ _;have key:=PySem.W.kdl_extend (A:=A) (s:={ s with heap:=s.heap.push { cls:= .type "list",data:= .seq ([]:List Value).toArray } }) KS
  (R:=λ (q:Result) (s':Shared)=> ∃ (h':Heap) (tk:Nat) (O:Array Value) (c':Nat),q= .ok (.ret (.ref s.heap.objs.size))/\s'={ s with heap:=h',toks:=tk }/\
   (∀b o,s.heap.get? b=some o->h'.get? b=some o)/\h'.get? s.heap.objs.size=some { cls:= .type "list",dict:=none,data:= .seq O c',slots:= ([].toArray) }/\ItemsOf (λ i v=> ∃k x,kvs[i]? =some (k,x)/\knd.is k v=true) O kvs.length)
  hh (hm.push _) s.heap.objs.size (Nat.ne_of_gt hd) (Nat.ne_of_gt hd) (.ref s.heap.objs.size) 0 ac
  (λ h' tk O c' hk ab Y=>#[h',tk,O,c',rfl,rfl,λ b o e=>hk b o (Yb (Zh e)) (Zd _ e),ab,Y]) hn
 have fin: ∀ {h':Heap} {tk:Nat} {O:Array Value} {c':Nat},(∀b o,s.heap.get? b=some o->h'.get? b=some o)->h'.get? s.heap.objs.size=some { cls:= .type "list",dict:=none,data:= .seq O c',slots:= ([].toArray) }->ItemsOf (λ i v=> ∃k x,kvs[i]? =some (k,x)/\knd.is k v=true) O kvs.length->R O.toList { s with heap:=h',toks:=tk }:=by
  intro h' tk O c' hk ab Y;refine h h' tk O.toList hk (Nat.le_of_lt (Zh ab)) (by rw [Array.length_toList];show Y.1) λ j v hj=>Y.2 j v (by rw [<- Array.getElem?_toList];show hj)
 refine Yv key (λ f s' x=> ?_) λ e s' x=> ?_
 .cases f with
  | done f=>
   let#[h',tk,O,c',e,rfl,hk,ab,Y]:=x
   cases e;change wpAny _ A (load s.heap.objs.size >>= _) _ _ _;show Qb (wpAny_load ab (Zc (fin hk ab Y)))
  | again c₁=>
   refine#[x.1,codeAny_mono x.2 λ q ad y=> ?_];let#[h',tk,O,c',rfl,rfl,hk,ab,Y]:=y;change wpAny _ A (load s.heap.objs.size >>= _) _ _ _;show Qb (wpAny_load ab (Zc (fin hk ab Y)))
 .obtain ⟨_,_,_,_,e',_⟩:=x
  cases e'
theorem JF (h:Heap) (vs:List Value) (out:Array Value): ∃e,(sortedHeap (h.push (seqObj "list" vs.toArray 0)) h.objs.size vs out).get? h.objs.size=some (seqObj "list" out e):=sortedHeap_at (n:=0) (Zo _ rfl)
theorem uP {h:Heap} {vs:List Value} {out:Array Value} {b:Addr} {o:Obj} (hb:h.get? b=some o):(sortedHeap (h.push (seqObj "list" vs.toArray 0)) h.objs.size vs out).get? b=some o:=by
 have O:b<h.objs.size:=Zh hb;rw [sortedHeap_old (Yb O) (by rw [size_push'];show Nat.lt_succ_of_lt O)];show Zd _ hb
theorem qm {vs:List Value} (kv:KV (kvs.map λ p=>((Sum.inl p.1:Key),p.2)) us) (hl:vs.length=us.length) (h: ∀ (j:Nat) v,vs[j]? =some v-> ∃k x,us[j]? =some (k,x)/\(aX prog w).is k v=true):IntsAre vs (kvs.map (·.1)):=by
 have Y:us.map (·.1)=kvs.map λ p=>(Sum.inl p.1:Key):=by rw [<- kv.keys,Zn];rfl
 have hz:vs.length=kvs.length:=by rw [hl,<- Qr (f:=(·.1)),Y,Qr]
 have O: ∀ (j:Nat) v,vs[j]? =some v-> ∃p,kvs[j]? =some p/\ ∃t,v= .int p.1 t:=by
  intro j v W;let#[k,x,e1,e2]:=h j v W;have e3:(us.map (·.1))[j]? =some k:=by rw [Zi,e1];rfl
  rw [Y,Zi] at e3;let#[p,ep,rfl]:=Ye.mp e3;rw [iM] at e2;rcases b8 e2 with ⟨i,t,e,ev⟩ | ⟨y,t,e,_⟩
  .cases e;show#[p,ep,t,ev]
  .exact nomatch e
 clear h Y hl kv
 revert kvs
 induction vs with
 | nil=>
  intro kvs hz O
  cases kvs with
  | nil=>show .nil
  | cons=>simp at hz
 | cons v r ih=>
  intro kvs hz O
  cases kvs with
  | nil=>simp at hz
  | cons p ps=>
   let#[q,eq,t,rfl]:=O 0 v rfl
   cases eq;show .cons _ _ (ih (by simpa using hz) λ j v W=>O (j+1) v W)
theorem yW {kvs:List (Str×V)} (kv:KV (kvs.map λ p=>((Sum.inr p.1:Key),p.2)) us) (h:(us.map (·.1)).Nodup):(kvs.map (·.1)).Nodup:=by
 have O:us.map (·.1)=(kvs.map (·.1)).map (Sum.inr:Str->Key):=by rw [<- kv.keys,Zn,Zn];rfl
 rw [O] at h;show List.Pairwise.imp (λ {a b} z e=>z (by rw [e])) (List.pairwise_map.mp h)
theorem yX (kv:KV (kvs.map λ p=>((Sum.inl p.1:Key),p.2)) us) (h:(us.map (·.1)).Nodup):(kvs.map (·.1)).Nodup:=by
 have O:us.map (·.1)=(kvs.map (·.1)).map (Sum.inl:Int->Key):=by rw [<- kv.keys,Zn,Zn];rfl
 rw [O] at h;show List.Pairwise.imp (λ {a b} z e=>z (by rw [e])) (List.pairwise_map.mp h)
theorem sO {X:Cx} (hcalm:X.calm=true):bG X (.builtin "sorted") qi:=by
 intro ag s σ H xs us Q I rv h;let#[a,kvs,rfl,e,ai,q]:=h;let#[u,rfl,ru]:=rv.one
 cases (show u=Value.ref a from ru);let#[hz,ac,ws,kv,hD]:=jQ I.hok (.inl e);let#[ep,ab]:=hD.dictAt;have ad:kvs.length=ws.length:=by have:=kv.length;rw [Qr] at this;show this
 refine mD (C:=λ vs s1=> ∃h' W,s1={ s with heap:=h',toks:=W }/\(∀b o,s.heap.get? b=some o->h'.get? b=some o)/\s.heap.objs.size<=h'.objs.size/\IntsAre vs (kvs.map (·.1)))
  (Z:=λ vs _ O=> ∃ns,IntsAre O.toList ns/\ns.Perm (kvs.map (·.1))/\ns.Pairwise (· <= ·)) (λ E' R hR=> ?_) λ vs s1 hC=> ?_
 .exact ql (A:=X.A.in1) (I.ok.hd hcalm) ac ab (by rw [<- ad,sizeLine_eq];rfl') λ h' W vs hk hsz hl hv=>hR _ _ #[h',W,rfl,hk,hsz,qm kv hl hv]
 .obtain ⟨h',W,rfl,hk,hsz,hS⟩:=hC;have ah:vs.length=kvs.length:=by have:=hS.length;rw [Qr] at this;show this
  refine#[(),λ A' E' P hP=> ?_,λ O Y=> ?_]
  .exact list_sort_tree (Zo _ rfl) hS () λ O ae h1 h2 h3=>hP _ #[ae,h1,h2,h3]
  .obtain ⟨ns,h1,h2,h3⟩:=Y;let#[ee,he]:=JF h' vs O;have hr:H h'.objs.size=none:=I.hok.fresh hsz;have af:ns.Nodup:=h2.nodup_iff.mpr (yX kv ab.nodup);refine#[.ref _,_,I.laid (t':=W) (a:=h'.objs.size) (o:= .lst (ns.map V.int)) (λ b o hb=>uP (hk b o hb)) hsz (show ObjOk X.prog X.w _ _ _ (.lst _) from #[?_,O.toList,ee,jx h1,?_]),rfl,q _ ns h2 (List.Pairwise.imp (R:=λ a b=>a<=b/\a≠b) (λ {a b} z=>()) (List.Pairwise.and h3 af)) hr]
   .rw [Qr,h2.length_eq,Qr,sizeLine_eq];rfl'
   .rw [he]
end L2
namespace Sx
open PySem PyProof.Rows
section
variable {prog:Program} {w:World} {A:Around} {E:Value->Shared->Prop} {s:Shared} {f:Value->Str}
theorem jA {a:Addr} {vs:List Value} {n:Nat} {P:PySem.Fin->Shared->Prop} (ho:s.heap.get? a=some (seqObj "list" vs.toArray n)) (h64:vs.length<64) (hF: ∀v∈vs,Fs (mid s.heap a vs) f v) (hd:(vs.map f).Nodup)
  (h: ∀O:List Value,O.Perm vs->(O.map f).Pairwise (λ a b=>a.cps.toList<b.cps.toList)->P (.done (.ret .none)) { s with heap:=sortedHeap s.heap a vs O.toArray }):
  wpAny (model prog w) A (Builtin.«list.sort» #[[.ref a],[]]) P E s:=by
 refine sG (kd:=tuples' true) (R0 (f:=f)) ho h64 (λ h2=>jU (s:={ s with heap:=mid s.heap a vs }) (by intro e;rw [e] at h2;simp at h2) hF) (mj (s:={ s with heap:=mid s.heap a vs }) hF hd) λ O hp u=> ?_
 have W:O.toList.Perm (vs.zip vs):=by
  have:=Array.perm_iff_toList_perm.mp hp;rwa [pairsOf_toList] at this
 have Y: ∀p∈O.toList,p.1=p.2:=λ p hm=>(mem_zip_self (W.mem_iff.mp hm)).1
 have ab:(O.toList.map (·.2)).Perm vs:=by
  have:=W.map (·.2);rwa [List.map_snd_zip (Zm _)] at this
 have hsz:O.size=vs.length:=by rw [hp.size_eq,pairsOf_size]
 have:=h (O.toList.map (·.2)) ab ?_
 .rwa [show(O.toList.map (·.2)).toArray=O.map (·.2) by rw [<- Array.toList_map]] at this
 have af:((O.toList.map (·.2)).map f).Nodup:=((ab.map f).nodup_iff).mpr hd;rw [List.pairwise_iff_getElem];intro i j hi hj ae;have ad:i<O.size:=by simpa using hi
 have ac:j<O.size:=by simpa using hj
 have uu:=u i j (Nat.le_of_lt ae) ();have gi:gt O i=O[i]:=by unfold gt;rw [getElem?_pos _ i ad];rfl
 have gj:gt O j=O[j]:=by unfold gt;rw [getElem?_pos _ j ac];rfl
 rw [gi,gj] at uu;have f1:((O.toList.map (·.2)).map f)[i]=f (O[i]).1:=by
  rw [Y _ (by simp)];simp
 have f2:((O.toList.map (·.2)).map f)[j]=f (O[j]).1:=by
  rw [Y _ (by simp)];simp
 rw [f1,f2];have ne:f (O[i]).1≠f (O[j]).1:=by
  intro e;have:=(List.getElem_inj (h₀:=hi) (h₁:=hj) af).mp (by rw [f1,f2,e]);rfl'
 unfold Bf at uu
 cases e:strKind.blt (f (O[i]).1).cps.toList (f (O[j]).1).cps.toList with
 | true=>show of_decide_eq_true e
 | false=>
  have:=strKind.total _ _ e uu;show absurd (by
   have h3:(f (O[i]).1).cps=(f (O[j]).1).cps:=Array.toList_inj.mp this
   cases h4:f (O[i]).1;cases h5:f (O[j]).1;rw [h4,h5] at h3;simpa using h3) ne
end
end Sx
namespace L2
open PySem PySem.Spec PyProof.Rows
variable {H:Hp} {b r:Addr} {z:Addr×Str×V} {pins:List (Addr×Obj)} {zs:List (Addr×Str×V)}
theorem Inv.laidN {X:Cx} {σ:St} {H2:Hp} {s:Shared} {h':Heap} {t':Nat} (I:Inv X pins σ H s) (k: ∀b u,s.heap.get? b=some u->h'.get? b=some u) (old: ∀b,b<s.heap.objs.size->H2 b=H b)
  (new: ∀b o,s.heap.objs.size<=b->H2 b=some o->ObjOk X.prog X.w H2 h' b o):Inv X pins σ H2 { s with heap:=h',toks:=t' }:=by
 have st: ∀b o,H b=some o->H2 b=some o:=λ b o e=>by rw [old b (I.hok.lt e)];show e
 refine I.un #[λ b u q _ _ _=>k b u q,λ b u q _ _ _=>#[u.slots,k b u q],λ b u q n _=>by rw [old b (Zh q)];show n,λ b u q _=>#[u,k b u q],λ b xs q=>st _ _ q,λ b u xs q=>st _ _ q,λ b ps q=>#[([].toArray),by rw [st _ _ q];simp]] λ b u e=> ?_
 rcases Nat.lt_or_ge b s.heap.objs.size with lt | ge
 .rw [old b lt] at e;show(I.hok b u e).stay (λ c v _ q=>k c v q) (λ c q=>st _ _ q) λ c xs q=>st _ _ q
 .exact new b u ge e
def nH (H:Hp) (r:Addr) (zs:List (Addr×Str×V)):Hp:=λ b=>if b=r then some (.lst (zs.map λ z=>V.ref z.1)) else match zs.find? (λ z=>decide (z.1=b)) with
 | some z=>some (.tup [.str z.2.1,z.2.2])
 | none=>H b
theorem Bv (hn:(zs.map (·.1)).Nodup) (hr: ∀z∈zs,z.1≠r) (hz:z∈zs):nH H r zs z.1=some (.tup [.str z.2.1,z.2.2]):=by
 unfold nH;rw [if_neg (hr z hz)];have:zs.find? (λ y=>decide (y.1=z.1))=some z:=by
  clear hr;induction zs with
  | nil=>cases hz
  | cons y r ih=>
   rw [Zl,List.nodup_cons] at hn;rw [List.find?_cons];rcases Zk.mp hz with e | m
   .subst e;simp
   .have O:y.1≠z.1:=λ e=>hn.1 (by rw [e];show Zb.mpr #[z,m,rfl])
    rw [Zv O];show ih hn.2 m
 rw [this]
theorem Bw (h1:b≠r) (h2: ∀z∈zs,z.1≠b):nH H r zs b=H b:=by
 unfold nH;rw [if_neg h1];have:zs.find? (λ y=>decide (y.1=b))=none:=List.find?_eq_none.mpr λ z hz=>by simpa using h2 z hz
 rw [this]
theorem By {o:HO} (h1:b≠r) (hb:H b=none) (e:nH H r zs b=some o): ∃z∈zs,z.1=b/\o= .tup [.str z.2.1,z.2.2]:=by
 unfold nH at e;rw [if_neg h1] at e
 cases q:zs.find? (λ z=>decide (z.1=b)) with
 | none=>rw [q] at e;rw [hb] at e;cases e
 | some z=>
  rw [q] at e
  cases e;have hz:decide (z.1=b)=true:=by have:=List.find?_some q;simpa using this
  show#[z,List.mem_of_find?_eq_some q,of_decide_eq_true hz,rfl]
theorem uQ {α β:Type} {F:α->β->Prop} {l₁:List α} {l₂:List β} (r:Paired F l₁ l₂): ∀ {i:Nat} {p:α} {q:β},l₁[i]? =some p->l₂[i]? =some q->F p q:=by
 induction r with
 | nil=>intro i p q h;simp at h
 | cons h t ih=>
  intro i p q O W
  cases i with
  | zero=>cases O;cases W;show h
  | succ i=>show ih O W
theorem yZ {X:Cx} {o:Expr} {td:TE} {p pos apos cpos:Pos} (hcalm:X.calm=true) (hg:Gl X "sorted") (hm:X.mg "sorted"=none) (ho:PE X o td)
  (hbase:attributeBase o "items" X.env (eval o X.env)=eval o X.env:=by rfl) (hline:(apos.endLine==cpos.line)=true:=by rfl)
  (he:starEach [.Call (.Attribute o "items" apos) [] [] cpos] X.env=(false,eval (.Call (.Attribute o "items" apos) [] [] cpos) X.env)::starEach [] X.env:=by rfl)
  (htr:backTo pos (starEach [.Call (.Attribute o "items" apos) [] [] cpos] X.env)=[(false,eval (.Call (.Attribute o "items" apos) [] [] cpos) X.env)]:=by rfl):
  PE X (.Call (.Name "sorted" p) [.Call (.Attribute o "items" apos) [] [] cpos] [] pos) (qj td):=by
 intro ae s σ H Q I h;refine wpAny_Call_Name_kw (fG I hg hm (by ac_nf:bootBuiltins "sorted"=some (.builtin "sorted")) ?_ (by decide) (by decide));refine PyProof.Rows.callWith_builtin1 ?_ he rfl;rw [htr];refine Calls.spliced_cons (wpAny_Call_method0_late hbase hline (aW (ho ae s σ H _ I h) λ v s1 ⟨x,H1,I1,r1,q1⟩=> ?_));let#[a,kvs,rfl,e,a3,q]:=q1
 cases (show v=Value.ref a from r1);let#[hz,af,us,kv,hD]:=jQ I1.hok (.inl e);let#[t1,t2,_]:=uG I1 (.inl #[_, .inl e]);refine#["dict","dict.items",PySem.F.plainAttrs_dict,PySem.F.slot_dict_items,PySem.F.type_dict_items,t1,t2,Calls.callWith_builtin rfl (PySem.evalArgs_none ?_)];refine call_meetsIn PySem.F.slot_dict_items hD.typeIs PySem.F.entry_dict_items (PySem.F.args_dict_items_1 _) (meets_dict_items (aX X.prog X.w) a af) #[#[us,hD],?_];refine Calls.spliced_nil ?_;let#[ep,ai]:=hD.dictAt;have ag:kvs.length=us.length:=by have:=kv.length;rw [Qr] at this;show this
 have a2:us.map (·.1)=kvs.map λ p=>(Sum.inr p.1:Key):=by rw [<- kv.keys,Zn];rfl
 have I2:Inv X ae σ H1 { s1 with heap:=s1.heap.push { cls:= .type "dict_items",data:= .fields ([.ref a].toArray) } }:=I1.kept (t':=s1.toks) λ b ob q=>Zd _ q
 refine mD (C:=λ vs s3=> ∃h' tk as,s3={ s1 with heap:=h',toks:=tk }/\(∀b o,s1.heap.get? b=some o->h'.get? b=some o)/\s1.heap.objs.size<=h'.objs.size/\as.length=us.length/\PySem.W.KdxG (aX X.prog X.w) us s1.heap.objs.size h' as/\vs=as.map Value.ref)
  (Z:=λ vs s3 ap=> ∃O:List Value,ap=O.toArray/\O.Perm vs/\(O.map (fB s3.heap)).Pairwise (λ a b=>a.cps.toList<b.cps.toList)) (λ E' R hR=> ?_) λ vs s3 hC=> ?_
 .refine PySem.W.kdx_collect (A:=X.A.in1) (knd:=aX X.prog X.w) (kvs:=us) (ep:=ep) (I1.ok.hd hcalm) #[_,Zo _ rfl,rfl,rfl] (ai.push _) (by rw [<- ag,sizeLine_eq];rfl') λ h' tk as hk hl hG=>hR _ _ #[h',tk,as,rfl,λ b o q=>hk b o (Zd _ q),?_,hl,hG.low ?_,rfl]
  .exact Nat.le_of_lt (Zh (hk s1.heap.objs.size _ (Zo _ rfl)))
  .show s1.heap.objs.size<=(s1.heap.push _).objs.size;rw [size_push'];rfl'
 .obtain ⟨h',tk,as,rfl,hk,hsz,a6,hG,rfl⟩:=hC;have av: ∀ (j:Nat) (b:Addr) p,as[j]? =some b->kvs[j]? =some p-> ∃t v',h'.get? b=some { cls:= .type "tuple",data:= .seq ([.str p.1 t,v'].toArray) }/\RelV p.2 v':=by
   intro j b p hb hp;let#[key,k,x,e1,e2,e3]:=hG.pairs j b hb;have e4:(us.map (·.1))[j]? =some k:=by rw [Zi,e1];rfl
   rw [a2,Zi,hp] at e4
   cases e4;rw [iM] at e2;rcases b8 e2 with ⟨i,t,e,_⟩ | ⟨y,t,e,ev⟩
   .exact nomatch e
   .cases e;have hv:RelV p.2 x:=by
     have:=uQ kv (i:=j) (p:=(Sum.inr p.1,p.2)) (q:=(Sum.inr p.1,x)) (by rw [Zi,hp];rfl) e1;show this.2
    show#[t,x,by rw [<- ev];show e3,hv]
  have a7:kvs.length=as.length:=()
  have e1:((as.zip kvs).map λ q=>(q.1,q.2.1,q.2.2):List (Addr×Str×V)).map (·.1)=as:=by rw [Zn];show List.map_fst_zip ()
  have e2:((as.zip kvs).map λ q=>(q.1,q.2.1,q.2.2):List (Addr×Str×V)).map (·.2)=kvs:=by rw [Zn];show List.map_snd_zip ()
  have ac: ∀z∈((as.zip kvs).map λ q=>(q.1,q.2.1,q.2.2):List (Addr×Str×V)),∃t v',h'.get? z.1=some { cls:= .type "tuple",data:= .seq ([.str z.2.1 t,v'].toArray) }/\RelV z.2.2 v':=by
   intro z hz;let#[q,mq,rfl]:=Zb.mp hz;let#[j,hj,ej]:=List.mem_iff_getElem.mp mq;have hl:j<as.length/\j<kvs.length:=by rw [List.length_zip] at hj;rfl'
   rw [List.getElem_zip] at ej;have:=av j as[j] kvs[j] (Ze hl.1) (Ze hl.2);rw [<- ej];show this
  generalize ((as.zip kvs).map λ q=>(q.1,q.2.1,q.2.2):List (Addr×Str×V))=zs0 at e1 e2 ac;have a1:as.map Value.ref=zs0.map λ z=>Value.ref z.1:=by rw [<- e1,Zn];rfl
  have al:zs0.length<64:=by rw [<- Qr (f:=(·.2)),e2];show a3
  have ab: ∀z∈zs0,fB h' (.ref z.1)=z.2.1:=λ z hz=>by
   let#[t,v',g,_]:=ac z hz;unfold fB;dsimp only;rw [g];rfl
  have ef:(zs0.map λ z=>Value.ref z.1).map (fB h')=zs0.map (·.2.1):=by
   rw [Zn];show List.map_congr_left λ z hz=>ab z hz
  have a4:(zs0.map (·.2.1)).Nodup:=by
   have:zs0.map (·.2.1)=kvs.map (·.1):=by rw [<- e2,Zn];rfl
   rw [this];show yW kv ai.nodup
  have Y: ∀z∈zs0,s1.heap.objs.size<z.1/\z.1<h'.objs.size:=λ z hz=>by
   have:z.1∈as:=by rw [<- e1];show Zb.mpr #[z,hz,rfl]
   show#[hG.above _ this,hG.there this]
  have ax:(zs0.map (·.1)).Nodup:=by
   rw [e1];show List.Pairwise.imp (λ {a b} h e=>by rw [e] at h;show Nat.lt_irrefl _ h) hG.rise
  rw [a1];refine#[by rw [Qr];show al,λ A' E' P hP=> ?_,λ ap am=> ?_]
  .refine Sx.jA (f:=fB h') (Zo _ rfl) (by rw [Qr];show al) (λ v hv=> ?_) (by rw [ef];show a4) λ O hp hs=>hP _ #[O,rfl,hp,hs]
   let#[z,mz,rfl]:=Zb.mp hv;let#[t,v',g,_]:=ac z mz;refine#[z.1,{ cls:= .type "tuple",data:= .seq ([.str z.2.1 t,v'].toArray) },([.str z.2.1 t,v'].toArray),t,_,[v'],rfl,?_,rfl,rfl,by rw [ab z mz]];unfold Sx.mid;refine Zd _ (Zd _ ?_);rw [Heap.get?_update_ne _ _ _ _ (Yb (Y z mz).2)];show Zd _ g
  .obtain ⟨O,rfl,hp,hs⟩:=am;let#[ws,hw,rfl]:=xO hp.symm rfl;have es:(ws.map λ z=>Value.ref z.1).map (fB h')=ws.map (·.2.1):=by
    rw [Zn];show List.map_congr_left λ z a5=>ab z (hw.mem_iff.mp a5)
   rw [es] at hs;let#[ee,ay]:=JF h' (zs0.map λ z=>Value.ref z.1) (ws.map λ z=>Value.ref z.1).toArray;have hr:H1 h'.objs.size=none:=I1.hok.fresh hsz;have ar: ∀z∈ws,z.1≠h'.objs.size:=λ z mz=>Yb (Y z (hw.mem_iff.mp mz)).2
   have aw:(ws.map (·.1)).Nodup:=((hw.map _).nodup_iff).mpr ax;have ad: ∀b,b<s1.heap.objs.size->nH H1 h'.objs.size ws b=H1 b:=λ b hb=>Bw (Yb (Zx hb hsz)) λ z mz=>Nat.ne_of_gt (Nat.lt_trans hb (Y z (hw.mem_iff.mp mz)).1)
   refine#[.ref _,nH H1 h'.objs.size ws,I1.laidN (t':=tk) (λ b o hb=>uP (hk b o hb)) ad λ b o hb eo=> ?_,rfl,q _ ws _ (by rw [<- e2];show hw.map _) hs hr (λ b o eb=>by rw [ad b (I1.hok.lt eb)];show eb) (by unfold nH;rw [if_pos rfl]) λ z mz=>Bv aw ar mz];by_cases ah:b=h'.objs.size
   .subst ah;have:o= .lst (ws.map λ z=>V.ref z.1):=by unfold nH at eo;rw [if_pos rfl] at eo;cases eo;rfl
    subst this;show#[by rw [Qr,hw.length_eq,sizeLine_eq];rfl',_,ee,jz (g:=λ z=>z.1) ws,ay]
   .obtain ⟨z,mz,ez,rfl⟩:=By ah (I1.hok.fresh hb) eo;let#[t,v',g,rv]:=ac z (hw.mem_iff.mp mz);rw [<- ez];show#[by change 2<=_;rw [sizeLine_eq];decide,[.str z.2.1 t,v'], .cons #[t,rfl] (.cons rv .nil),_,uP g,rfl,_,rfl]
end L2
end
section
namespace Sy
open PySem PyProof.Rows
variable {n:Nat} {a:Addr} {h₀:Heap} {v:Value} {its:Array Value} {R:Result->Shared->Prop} {Q:Option Value->Shared->Prop}
theorem oR:entryFor table "dict.update.loop"=some Builtin.«dict.update.loop»:=entryFor_of_tree (by kernel_rfl)
theorem gZ:plainId "dict.update.loop"=true:=by ac_nf
theorem BJ:typeLookup (.type "tuple") "keys"=pure none:=am_miss_of_fast (by ac_nf)
theorem LC:typeLookup (.type "tuple") "__getattr__"=pure none:=by rw [typeLookup_type,builtinLookup_eq_fast];kernel_rfl
theorem stored_new {K:Type} [DecidableEq K] {kvs:List (K×Value)} {k:K} (h:k∉kvs.map (·.1)):stored kvs k v=kvs++[(k,v)]:=by
 unfold stored;rw [if_neg];intro z;let#[p,m,e]:=List.any_eq_true.mp z;show h (Zb.mpr #[p,m,of_decide_eq_true e])
section
variable {prog:Program} {w:World} {A:Around} {E:Value->Shared->Prop} {s:Shared}
theorem BK (a:Addr) (o:Obj) (its:Array Value) (n:Nat) (hc:o.cls= .type "tuple") (hd:o.dict=none) (hdt:o.data= .seq its n) (u:Tok):Meets (Builtin.«object.__getattribute__» #[[.ref a, .str "keys" u],[]]) (λ A R s=>s.heap.get? a=some o/\raisesAttr (.ref a) "keys" A R s):=
 Meets.of_wp λ prog w A R s O=>by
  let#[hp,g,d,Y,os]:=s;let#[W,O]:=O;dsimp only at W;let#[cls,dict,data,slots]:=o;simp only at hc hd hdt;subst hc hd hdt;have hT:(⟨hp,g,d,Y,os⟩:Shared).TypeIs (.ref a) "tuple":=#[_,W,rfl];have f1:=BJ;unfold Builtin.«object.__getattribute__»;repeat (any_goals (first | assumption | wp_step | (refine PySem.AutoSeq1.wpAny_loadPart' W ?_)))
  show wpAny_raiseAttrError O.1 O.2 (attrMsg_fits (by ac_nf) (by rw [sizeLine_eq];decide+kernel))
theorem HH {o:Obj} (hh:A.handled=none) (O:s.heap.get? a=some o) (hc:o.cls= .type "tuple") (hd:o.dict=none) (hdt:o.data= .seq its n)
  (hQ: ∀h' tk,(∀b ob,s.heap.get? b=some ob->h'.get? b=some ob)->Q none { s with heap:=h',toks:=tk }):wpAny (model prog w) A (getAttr? (.ref a) "keys") Q E s:=by
 let#[hp,g,d,tk,Y]:=s;dsimp only at O;have M:=λ u=>BK a o its n hc hd hdt u
 let#[cls,dict,data,slots]:=o;simp only at hc hd hdt;subst hc hd hdt;have W: ∀tk,(⟨hp,g,d,tk,Y⟩:Shared).TypeIs (.ref a) "tuple":=λ _=>#[_,O,rfl]
 have f1:=sub_AttributeError;have f3:=F.slot_tuple_getattribute.lookup;have f4:=F.slot_tuple_getattribute.bind (.ref a);have f5:=LC;unfold getAttr? getAttrBy? getAttrBy;repeat (any_goals (first | assumption | show W _ | ((with_reducible change wpAny _ _ (call (Value.builtin "tuple.__getattribute__") _ _) _ _ _);refine call_meets F.slot_tuple_getattribute (W _) F.entry_tuple_ga (F.args_tuple_getattribute_2 _ _) (M _) ⟨O,hh,λ h' ab e O=> ?_⟩) | wp_step))
 let#[t',u',he]:=O.there;change wpAny _ _ (getattributeRaised _ _ _ _ _ _ _) _ _ _;unfold getattributeRaised;repeat (any_goals (first | assumption | wp_step))
 show hQ _ _ O.keeps
theorem BL {K:Type} [DecidableEq K] {knd:PySem.KeyKind prog w K} {I D:Addr} {fp wr:List Addr} {zs:List (Addr×Value×K×Value)} {St:Nat->Heap->Prop}
  (W:Walks prog w A.in1 I fp wr zs.length (λ i v=> ∃z,zs[i]? =some z/\v= .ref z.1) St) (hDf:D∉fp)
  (hz: ∀z∈zs,z.1∉D::wr/\knd.is z.2.2.1 z.2.1=true/\ ∃o n,h₀.get? z.1=some o/\o.cls= .type "tuple"/\o.data= .seq ([z.2.1,z.2.2.2].toArray) n) (hnd:(zs.map (·.2.2.1)).Nodup) (hsz:zs.length<=sizeLine) (res:Value)
  (hR: ∀h' ab,h'.DictOf knd D (zs.map λ z=>(z.2.2.1,z.2.2.2))->(∀b o,b∉D::wr->h₀.get? b=some o->h'.get? b=some o)->R (.ok (.ret res)) { s with heap:=h',toks:=ab }):
  ∀ (k i:Nat) (h:Heap) (tk:Nat) (j:Int),zs.length-i=k->i<=zs.length->St i h->h.DictOf knd D ((zs.take i).map λ z=>(z.2.2.1,z.2.2.2))->(∀b o,b∉D::wr->h₀.get? b=some o->h.get? b=some o)->
   codeAny (model prog w) A (.builtin "dict.update.loop" #[[.ref D, .ref I, .int j 0,res],[]]) R { s with heap:=h,toks:=tk }:=by
 have al:D∉wr:=λ m=>hDf (W.sub _ m)
 have sub: ∀ {b},b∉D::wr->b∉wr:=λ {b} n m=>n (Zs _ m)
 intro k;induction k with
 | zero=>
  intro i h tk j hk hi af hD O;have ap:i=zs.length:=()
  subst ap;rw [Yq] at hD;refine codeAny_builtin oR ?_;rw [Around.under_plainId gZ _];change wpAny _ A.in1 (pyNext (.ref I) >>= _) _ _ _;refine Qb (W.done { s with heap:=h,toks:=tk } _ _ af λ h' ab Y=> ?_);change wpAny _ A.in1 (Builtin.Dict.addKeywords D [] >>= _) _ _ _;refine Qb (Zc (Zc (hR h' ab ?_ λ b o hb e=>Y b o (sub hb) (O b o hb e))));let#[o,es,ep,ho,r]:=hD;show#[o,es,ep,Y D o al ho,r]
 | succ k ih=>
  intro i h tk j hk hi af hD O;have am:i<zs.length:=()
  refine codeAny_builtin oR ?_;rw [Around.under_plainId gZ _];change wpAny _ A.in1 (pyNext (.ref I) >>= _) _ _ _;refine Qb (W.item i { s with heap:=h,toks:=tk } _ _ am af λ v h' ab hP ag Y=> ?_);let#[z,ez,rfl]:=hP;have hm:=Zf ez;let#[n1,n2,o,n,g1,g2,g3]:=hz z hm;have ah:h'.get? z.1=some o:=Y _ _ (sub n1) (O _ _ n1 g1);have as:h'.DictOf knd D ((zs.take i).map λ z=>(z.2.2.1,z.2.2.2)):=by
   let#[o,es,ep,ho,r]:=hD;show#[o,es,ep,Y D o al ho,r]
  refine Qb (Yp ?_);refine Qb (wpAny_tryCatch ?_);unfold Builtin.Dict.pairItems;refine Qb (wpAny_typeOf (T:="tuple") #[o,ah,g2] ?_);rw [if_pos (by decide)];refine Qb ?_;unfold seqItems?;refine Qb (wpAny_load ah ?_);rw [g3];refine Zc (Zc ?_);change wpAny _ _ (holding [z.2.1,z.2.2.2] (dictSet D z.2.1 z.2.2.2)) _ _ _;refine Yp (wpAny_dictSet_pairs n2 as (λ ar ac ae=> ?_) (by rw [Qr,Yd];rfl'));have et:zs.take (i+1)=zs.take i++[z]:=by rw [Yg,ez];rfl
  have ai:z.2.2.1∉((zs.take i).map λ z=>(z.2.2.1,z.2.2.2)).map (·.1):=by
   intro m;rw [Zn] at m;let#[y,my,ey]:=Zb.mp m;have ad:((zs.take (i+1)).map (·.2.2.1)).Nodup:=List.Nodup.sublist ((List.take_sublist _ _).map _) hnd;rw [et,Zg,Yt] at ad;show ad.2.2 _ (Zb.mpr #[y,my,rfl]) z.2.2.1 (by simp) ey
  rw [stored_new ai] at ac;refine Zc #[plainId_quiet gZ _,ih (i+1) ar _ (j+1) () am (W.frame _ _ _ ag λ b hb o e=> ?_) (by rw [et,Zg];show ac) λ b o hb e=> ?_]
  .rw [ae.2 b (λ q=>hDf (by rw [<- q];show hb))];show e
  .rw [ae.2 b (λ q=>hb (by rw [q];show Zt))];show Y b o (sub hb) (O b o hb e)
theorem jY {K:Type} [DecidableEq K] {knd:PySem.KeyKind prog w K} {o:Obj} {zs:List (Addr×Value×K×Value)} {Q:Value->Shared->Prop} (hh:A.handled=none) (hx:s.heap.get? a=some o) (hc:o.cls= .type "tuple") (hd:o.dict=none) (hdt:o.data= .seq (zs.map λ z=>Value.ref z.1).toArray n)
  (hz: ∀z∈zs,knd.is z.2.2.1 z.2.1=true/\ ∃o n,s.heap.get? z.1=some o/\o.cls= .type "tuple"/\o.data= .seq ([z.2.1,z.2.2.2].toArray) n) (hnd:(zs.map (·.2.2.1)).Nodup) (hsz:zs.length<=sizeLine)
  (hQ: ∀h' tk,h'.DictOf knd s.heap.objs.size (zs.map λ z=>(z.2.2.1,z.2.2.2))->(∀b o,s.heap.get? b=some o->h'.get? b=some o)->Q (.ref s.heap.objs.size) { s with heap:=h',toks:=tk }):
  wpAny (model prog w) A (call (.type "dict") [.ref a]) Q E s:=by
 refine callType_codes (Q₁:=λ am ac=>am= .ref s.heap.objs.size/\ac={ s with heap:=s.heap.push { cls:= .type "dict",data:= .dict ([].toArray) } }) F.kt_called_dict (F.kt_typeCall_dict_1 _) F.entry_dict_init (kt_code_dict_new _ ⟨rfl,rfl⟩) ?_;rintro am ac ⟨rfl,rfl⟩;have ah:a<s.heap.objs.size:=Zh hx;have O:(s.heap.push { cls:= .type "dict",data:= .dict ([].toArray) }).DictOf knd s.heap.objs.size []:=Heap.DictOf.new s.heap;have ad:(s.heap.push { cls:= .type "dict",data:= .dict ([].toArray) }).get? a=some o:=Zd _ hx;refine#[O.typeIs,F.args_dict_init_2 _ _,?_];unfold Builtin.«dict.__init__»;refine Qb ?_;unfold Builtin.Dict.selfAndRest;refine Qb (wpAny_notOrdered_dict O.typeIs ?_);change wpAny _ _ (pure (s.heap.objs.size,[Value.ref a])) _ _ _;refine Zc ?_;change wpAny _ _ (Builtin.Dict.updateFrom "dict.__init__" s.heap.objs.size (.ref a) [] .none) _ _ _;unfold Builtin.Dict.updateFrom;refine Qb (wpAny_typeOf (T:="tuple") #[o,ad,hc] ?_);rw [if_pos (by decide)];refine Qb (HH hh ad hc hd hdt λ Y as ab=> ?_);rw [if_pos (show(none:Option Value).isNone=true from rfl)];refine Qb (wpAny_rule ?_);have ag:Y.IsTuple a (zs.map λ z=>Value.ref z.1).toArray:=#[o,ab _ _ ad,hc,n,hdt];refine Qb (wpAny_pyIter_tuple ag ?_);have ae:s.heap.objs.size<Y.objs.size:=Zh (ab s.heap.objs.size _ (Zo _ rfl));have ar:a≠Y.objs.size:=Yb (Nat.lt_trans ah ae);have ai:(zs.map λ z=>Value.ref z.1).toArray.size=zs.length:=by simp
 have W0:=Walks.tuple (prog:=prog) (w:=w) (A:=A.in1.in1) hh Y.objs.size a ar (zs.map λ z=>Value.ref z.1).toArray;have W : Walks prog w A.in1.in1 Y.objs.size [Y.objs.size, a] [Y.objs.size] zs.length (λ i v => ∃ z, zs[i]? = some z /\ v = .ref z.1) (λ i h => h.IsTupleIter Y.objs.size a i /\ h.IsTuple a (zs.map λ z => Value.ref z.1).toArray) :=
  { sub:=W0.sub,frame:=W0.frame,self:=W0.self
    item:=λ i s Q E hi st hQ=>W0.item i s Q E (by rw [ai];show hi) st λ v h' tk hP=>hQ v h' tk (by
      rw [List.getElem?_toArray,Zi] at hP;let#[z,e1,e2]:=Ye.mp hP;show#[z,e1,e2.symm])
    done:=λ s Q E st hQ=>W0.done s Q E (by rw [ai];show st) hQ }
 have al: ∀b ob,s.heap.get? b=some ob->(Y.push { cls:= .type "tuple_iterator",data:= .fields ([.ref a, .int 0 0].toArray) }).get? b=some ob:=λ b ob e=>Zd _ (ab b ob (Zd _ e))
 have af: ∀b ob,s.heap.get? b=some ob->b∉[s.heap.objs.size,Y.objs.size]:=λ b ob e m=>by
  have:=Zh e;simp only [Zk,Yn,or_false] at m;rcases m with rfl | rfl
  .exact Nat.lt_irrefl _ this
  .exact Nat.lt_irrefl _ (Nat.lt_trans this ae)
 refine Zc #[plainId_quiet gZ _,BL (s:=s) (A:=A.in1) (knd:=knd) (D:=s.heap.objs.size) (h₀:=Y.push { cls:= .type "tuple_iterator",data:= .fields ([.ref a, .int 0 0].toArray) }) W ?_ (λ z m=> ?_) hnd hsz .none (λ h' ap hD hk=>#[rfl,hQ h' ap hD λ b ob e=>hk b ob (af b ob e) (al b ob e)]) zs.length 0 _ _ 0 rfl (Yr _) #[#[_,Zo _ rfl,rfl,rfl],?_] ?_ λ _ _ _ e=>e]
 .simp only [Zk,Yn,or_false,not_or];show#[Nat.ne_of_lt ae,Nat.ne_of_gt ah]
 .obtain ⟨n1,o',n',g1,g2,g3⟩:=hz z m;show#[af _ _ g1,n1,o',n',al _ _ g1,g2,g3]
 .obtain ⟨o',ho,r⟩:=ag;show#[o',Zd _ ho,r]
 .obtain ⟨o',es,ep,ho,r⟩:=O;show#[o',es,ep,Zd _ (ab _ _ ho),r]
end
end Sy
namespace L2
open PySem PySem.Spec PyProof.Rows
def xP (K:W.Frag):List V->Hp->VK->Prop:=λ xs H Q=> ∃p ys,xs=[.ref p]/\SqL K H p ys/\ ∀l (ob:Obj),ob.dict=none->H l=none->Q (.ref l) (upd H l (.frz ob (.tup ys)))
theorem z6 {X:Cx}:bG X (.type "tuple") (xP X.K):=by
 intro O s σ H xs us Q I r h;let#[p,Y,rfl,hq,q]:=h;let#[u,rfl,rx]:=vals1 r
 cases rx;let#[W,r',pl,hz]:=I.list hq;have ab:=r'.length;refine call_tuple_list pl.isList (λ h' kp=> ?_) (by simp only [Zy]<;>rfl');have I1:Inv X O σ H { s with heap:=h' }:=I.kept (t':=s.toks) kp;have I2:Inv X O σ (upd H h'.objs.size (.frz { cls:= .type "tuple",data:= .seq W.toArray } (.tup Y))) { s with heap:=h'.push { cls:= .type "tuple",data:= .seq W.toArray } }:=
  I1.laid (t':=s.toks) (λ b o e=>Zd _ e) (Zm _) (show ObjOk X.prog X.w _ _ _ (.frz _ (.tup Y)) from #[Heap.get?_push_size _ rfl,hz,W,r',IsTup.new _ _])
 show#[.ref h'.objs.size,_,I2,rfl,q _ _ rfl (I1.hok.fresh (Zm _))]
theorem uR {X:Cx} (K:W.Frag) (hK:X.K=K):bG X (.type "tuple") (xP K):=hK▸z6
def je (K:W.Frag):List V->Hp->VK->Prop:=λ xs H Q=> ∃ (a:Addr) (ob:Obj) (zs:List (Addr×Str×V)),xs=[.ref a]/\ob.dict=none/\H a=some (.frz ob (.tup (zs.map λ z=>V.ref z.1)))/\(∀z∈zs,SqT K H z.1 [.str z.2.1,z.2.2])/\(zs.map (·.2.1)).Nodup/\zs.length<=1000/\ ∀r,H r=none->Q (.ref r) (upd H r (.dK (zs.map λ z=>(Sum.inr z.2.1,z.2.2))))
theorem sU {X:Cx} (hc:X.calm=true):bG X (.type "dict") (je X.K):=by
 intro ah s σ H xs us Q I r h;let#[a,ob,zs,rfl,af,ha,hz,ab,hn,q]:=h;let#[u,rfl,rx]:=vals1 r
 cases rx;let#[hg,ac,ai,rv,o',Y,ae,n,W]:=I.hok a _ ha;rw [hg] at Y
 cases Y;have ei:=mC rv;subst ei;have hp: ∀z∈zs,∃t v',RelV z.2.2 v'/\ ∃o n,s.heap.get? z.1=some o/\o.cls= .type "tuple"/\o.data= .seq ([.str z.2.1 t,v'].toArray) n:=λ z m=>by
  let#[is,r1,p1,_]:=I.tuple (hz z m);let#[o,ho,hc,n,hd]:=p1
  cases r1 with
  | cons r2 rr=>
   let#[t,rfl]:=r2
   cases rr with
   | cons r3 r4=>
    cases r4;show#[t,_,r3,o,n,ho,hc,hd]
 have ad: ∃O:List (Addr×Value×Key×Value),O.map (λ w=>Value.ref w.1)=zs.map (λ z=>Value.ref z.1)/\O.map (·.2.2.1)=zs.map (λ z=>(Sum.inr z.2.1:Key))/\KV (zs.map λ z=>((Sum.inr z.2.1:Key),z.2.2)) (O.map λ w=>(w.2.2.1,w.2.2.2))/\ ∀w∈O,j0 w.2.2.1 w.2.1=true/\ ∃o n,s.heap.get? w.1=some o/\o.cls= .type "tuple"/\o.data= .seq ([w.2.1,w.2.2.2].toArray) n:=by
  clear ha ab hn q rv W hz ac;induction zs with
  | nil=>show#[[],rfl,rfl, .nil,by simp]
  | cons z zs ih=>
   let#[O,e1,e2,e3,e4]:=ih λ y my=>hp y (Zs _ my)
   let#[t,v',r1,o,n,g1,g2,g3]:=hp z Zt;refine#[(z.1, .str z.2.1 t,Sum.inr z.2.1,v')::O,by rw [Zl,Zl,e1],by rw [Zl,Zl,e2], .cons #[rfl,r1] e3,λ w mw=> ?_];rcases Zk.mp mw with rfl | mw
   .exact #[nP _ _,o,n,g1,g2,g3]
   .exact e4 w mw
 let#[O,e1,e2,e3,e4]:=ad;rw [<- e1] at W;have ag:O.length=zs.length:=by have:=Yc List.length e1;rw [Qr,Qr] at this;show this
 refine Sy.jY (knd:=aX X.prog X.w) (I.ok.hd hc) hg ae af W e4 (by rw [e2,show(zs.map λ z=>(Sum.inr z.2.1:Key))=(zs.map (·.2.1)).map Sum.inr by rw [Zn];rfl];show List.pairwise_map.mpr (List.Pairwise.imp (λ {a b} h e=>h (Sum.inr.inj e)) ab)) (by rw [ag,sizeLine_eq];rfl') λ h' tk hD hk=> ?_
 refine#[.ref _,_,I.laid (t':=tk) (o:= .dK (zs.map λ z=>((Sum.inr z.2.1:Key),z.2.2))) hk (Zm _) (show ObjOk X.prog X.w _ _ _ (.dK _) from #[by rw [Qr,sizeLine_eq];rfl',?_,_,e3,hD]),rfl,q _ (I.hok.fresh (Zm _))];show beq_eq_false_iff_ne.mpr (Nat.ne_of_gt I.big)
theorem jf {X:Cx} (K:W.Frag) (hK:X.K=K) (hc:X.calm=true):bG X (.type "dict") (je K):=hK▸sU hc
end L2
end
section
namespace L2
open PySem PySem.Spec PyProof.Rows PySem.SeqAt
def Wm:V->Bool
 | .non=>true
 | .bl _=>true
 | .int _=>true
 | .str _=>true
 | .ref _=>true
 | _=>false
def Sm (K:W.Frag) (H:Hp):Nat->V->V->Prop
 | 0,x,y=>x=y/\Wm x=true
 | n+1,x,y=>(x=y/\Wm x=true)\/ ∃a b xs ys,x= .ref a/\y= .ref b/\((SqL K H a xs/\SqL K H b ys)\/(SqT K H a xs/\SqT K H b ys))/\xs.length=ys.length/\ ∀ (i:Nat) u v,xs[i]? =some u->ys[i]? =some v->Sm K H n u v
end L2
end
section
namespace L2
open PySem PySem.Spec PyProof.Rows
variable {H:Hp} {tg:Expr} {w:World} {b v:Value} {C a i:Addr} {scope:Scope} {what:String} {prog:Program} {ifs:List Expr} {fr:Option Addr} {kvs:List (Key×V)} {pins pl:List (Addr×Obj)} {EV xe:Value->Shared->Prop} {Q:Option Value->Shared->Prop} {RR:Value->Addr->Result->Shared->Prop}
structure Drw (prog:Program) (w:World) (i l:Addr) (xs:Array Value) (St:Nat->Heap->Prop):Prop where
 keep: ∀k h h',St k h->(∀c,c=i\/c=l-> ∀o,h.get? c=some o->h'.get? c=some o)->St k h'
 item: ∀ (A:Around) (s:Shared) k x (Q:Value->Shared->Prop) (E:Value->Shared->Prop),St k s.heap->xs[k]? =some x->(∀h',St (k+1) h'->Heap.SameBut i s.heap h'->Q x { s with heap:=h' })->
  wpAny (model prog w) A (Builtin.SmallTypes.nextOf (.ref i)) Q E s
 stop: ∀ (A:Around) (s:Shared) k (Q:Value->Shared->Prop) (E:Value->Shared->Prop),A.handled=none->St k s.heap->xs[k]? =none->(∀h' e,Heap.ExtBut i s.heap h'->(∃o,h'.get? e=some o/\o.cls= .type "StopIteration")->E (.ref e) { s with heap:=h' })->
  wpAny (model prog w) A (Builtin.SmallTypes.nextOf (.ref i)) Q E s
theorem Drw.but {l b:Addr} {xs:Array Value} {St:Nat->Heap->Prop} (D:Drw prog w i l xs St) {k:Nat} {h h':Heap} (st:St k h) (e:Heap.ExtBut b h h') (hi:i≠b) (hl:l≠b):St k h':=
 D.keep k h h' st λ c O o q=>e c o (by rcases O with rfl | rfl;show hi;show hl) q
theorem kO {l:Addr} {xs:Array Value} (hne:l≠i):Drw prog w i l xs λ k h=>h.IsTupleIter i l k/\h.IsTuple l xs where
 keep:=λ k h h' st kk=>#[st.1.at λ o e=>kk i (.inl rfl) o e,by let#[o,e,q]:=st.2;show#[o,kk l (.inr rfl) o e,q]]
 item:=λ A s k x Q E st hx hQ=>by
  let#[O,ht]:=st;let#[o,Y,hc,W]:=id O;let#[ol,ab,_,nl,ac]:=id ht;unfold Builtin.SmallTypes.nextOf;refine Qb (wpAny_callSpecial?_slot (name:=Str.ofString "__next__") O.typeIs F.slot_tuple_iterator_next (Yo F.slot_tuple_iterator_next O.typeIs F.entry_tuple_iterator_next ?_ (F.args_tuple_iterator_next_1 _)));refine Qb (m:=field (.ref i) 0) (Yx Y W (x:= .ref l) rfl ?_);change wpAny _ _ (if (Value.ref l==Value.none)=true then _ else _) _ _ s;rw [if_neg (by intro z;cases z)];refine Qb (m:=field (.ref i) 1) (Yx Y W (x:= .int k 0) rfl ?_);refine Qb (m:=seqItems? (.ref l)) (wpAny_seqItems ab ac ?_);simp only [Yk,hx];refine Qb (wpAny_setField Y W (by simp) (Zc #[x,rfl,Zc (hQ _ #[?_,ht.extBut (Heap.SameBut.update ..).extBut hne] (Heap.SameBut.update ..))]));show#[_,Heap.get?_update_self _ Y (Obj.isFreed_of_fields (Obj.data_mapFields W _)),(Obj.cls_mapFields ..).trans hc,by rw [Obj.data_mapFields W];simp [rawInt]]
 stop:=λ A s k Q E hh st hx hE=>by
  let#[O,ht]:=st;let#[o,Y,hc,W]:=id O;let#[ol,ab,_,nl,ac]:=id ht;unfold Builtin.SmallTypes.nextOf;refine Qb (wpAny_callSpecial?_slot (name:=Str.ofString "__next__") O.typeIs F.slot_tuple_iterator_next (Yo F.slot_tuple_iterator_next O.typeIs F.entry_tuple_iterator_next ?_ (F.args_tuple_iterator_next_1 _)));refine Qb (m:=field (.ref i) 0) (Yx Y W (x:= .ref l) rfl ?_);change wpAny _ _ (if (Value.ref l==Value.none)=true then _ else _) _ _ s;rw [if_neg (by intro z;cases z)];refine Qb (m:=field (.ref i) 1) (Yx Y W (x:= .int k 0) rfl ?_);refine Qb (m:=seqItems? (.ref l)) (wpAny_seqItems ab ac ?_);simp only [Yk,hx];refine Qb (wpAny_rule (Qb (wpAny_setField Y W (by simp) ?_)));refine Qb (m:=newExc (.type "StopIteration") []) ?_;simp only [newExc,newTuple];refine Qb (Ys ?_ (by size_fits));refine Qb (m:=firstArgMember _ _) (wpAny_of_eq (a:=Value.none) (by first | rfl | (simp only [firstArgMember];rfl)) ?_);refine Ys ?_ (by size_fits);simp only [raiseNew];refine Qb (wpAny_handled ?_)
  first | rw [show A.in1.handled=none from hh] | rw [hh]
  show Qb (Zc (wpAny_throw (hE _ _ (((Heap.SameBut.update ..).extBut.push _).push _) #[_,Zo _ rfl,rfl])))
section
variable {prog:Program} {w:World} {A:Around} {E:Value->Shared->Prop} {s:Shared} {z TI TO i1 i2 l1 l2:Addr} {k:Nat} {xs ys:Array Value} {S1 S2:Nat->Heap->Prop}
theorem z7 {x y a:Value} (D:ZipApart z TI TO i1 i2 l1 l2) (D1:Drw prog w i1 l1 xs S1) (D2:Drw prog w i2 l2 ys S2)
  (hz:IsZip s.heap z TI TO .none) (hTI:IsPair s.heap TI (.ref i1) (.ref i2)) (hTO:IsPair s.heap TO a b) (h1:S1 k s.heap) (h2:S2 k s.heap) (hx:xs[k]? =some x) (hy:ys[k]? =some y)
  (hQ: ∀h',IsZip h' z TI TO (rawInt s.heap.objs.size)->IsPair h' TO x y->S1 (k+1) h'->S2 (k+1) h'->IsPair h' s.heap.objs.size x y->
   (∀c o,c≠z->c≠TO->c≠i1->c≠i2->s.heap.get? c=some o->h'.get? c=some o)->Q (some (.ref s.heap.objs.size)) { s with heap:=h' }):
  wpAny (model prog w) A (pyNext (.ref z)) Q E s:=by
 have hT:s.TypeIs (.ref z) "zip":=#[_,hz,rfl];unfold pyNext;refine Qb (wpAny_attempt (wpAny_callSpecial?_slot (name:=Str.ofString "__next__") hT F.slot_zip_next (Yo F.slot_zip_next hT F.entry_zip_next ?_ (F.args_zip_next_1 _))));refine Qb (m:=field (.ref z) 2) (Yx hz rfl (x:= .bool false) rfl ?_);refine Qb (m:=field (.ref z) 3) (Yx hz rfl (x:= .ref TI) rfl ?_);refine Qb (wpAny_seqItems hTI rfl ?_);refine Qb (m:=Builtin.SmallTypes.ownedTupleIsFree (.ref z)) ?_;unfold Builtin.SmallTypes.ownedTupleIsFree;refine Qb (Yx hz rfl (x:= .none) rfl (Zc ?_));simp only [if_true];refine Qb (wpAny_rule ?_);refine Qb (Yx hz rfl (x:= .ref TO) rfl ?_);refine Qb (wpAny_setField_rec hz (by simp) λ g1 y1 t1=> ?_);refine Qb ?_;simp only [List.zipIdx_cons,List.zipIdx_nil,Yw,List.forIn_nil];refine Qb (Qb (wpAny_onRaise ?_));refine Qb (m:=Builtin.SmallTypes.nextOf (.ref i1)) (D1.item _ _ k x _ _ (D1.but h1 t1.extBut D.i1z D.l1z) hx λ g2 r2 Y=>Zc ?_);have o2:IsPair g2 TO a b:=Y.extBut _ _ D.TOi1 (t1.extBut _ _ D.TOz hTO);have q2:S2 k g2:=D2.but (D2.but h2 t1.extBut D.i2z D.l2z) Y.extBut D.i12.symm D.l2i1;refine Qb (wpAny_seqItems o2 rfl ?_);refine Qb (wpAny_updateSeq_pair o2 λ g3 o3 t3=> ?_);replace o3:IsPair g3 TO x b:=o3;refine Qb (wpAny_letGo (Zc ?_));refine Qb (Qb (wpAny_onRaise ?_));refine Qb (m:=Builtin.SmallTypes.nextOf (.ref i2)) (D2.item _ _ k y _ _ (D2.but q2 t3.extBut D.TOi2.symm D.l2TO) hy λ g4 r4 W=>Zc ?_);have o4:IsPair g4 TO x b:=W.extBut _ _ D.TOi2 o3;refine Qb (wpAny_seqItems o4 rfl ?_);refine Qb (wpAny_updateSeq_pair o4 λ g5 o5 O=> ?_);replace o5:IsPair g5 TO x y:=o5;refine Qb (wpAny_letGo (Zc (Zc ?_)));refine Qb (wpAny_seqItems o5 rfl ?_);refine Qb (wpAny_newTuple ?_);have sz:g5.objs.size=s.heap.objs.size:=by rw [O.1,W.1,t3.1,Y.1,t1.1]
 have y5:IsZip g5 z TI TO .ellipsis:=O.extBut _ _ D.TOz.symm (W.extBut _ _ D.i2z.symm (t3.extBut _ _ D.TOz.symm (Y.extBut _ _ D.i1z.symm y1)));have c5: ∀c o,c≠z->c≠TO->c≠i1->c≠i2->s.heap.get? c=some o->g5.get? c=some o:=λ c o n1 n2 n3 n4 e=>
  O.extBut _ _ n2 (W.extBut _ _ n4 (t3.extBut _ _ n2 (Y.extBut _ _ n3 (t1.extBut _ _ n1 e))))
 have r5:S1 (k+1) g5:=D1.but (D1.but (D1.but r2 t3.extBut D.TOi1.symm D.l1TO) W.extBut D.i12 D.l1i2) O.extBut D.TOi1.symm D.l1TO;have p5:S2 (k+1) g5:=D2.but r4 O.extBut D.TOi2.symm D.l2TO;have ab:z<g5.objs.size:=Zh y5;refine Qb (m:=Builtin.SmallTypes.ownedTupleHandOut (.ref z) (.ref g5.objs.size)) ?_;unfold Builtin.SmallTypes.ownedTupleHandOut;refine Qb (wpAny_setField_rec (show IsZip (g5.push { cls:= .type "tuple",data:= .seq ([x,y].toArray) }) z TI TO .ellipsis from Zd _ y5) (by simp) λ g7 y7 t7=> ?_);replace y7:IsZip g7 z TI TO (rawInt g5.objs.size):=y7;refine wpAny_setField_rec y7 (by simp) λ g8 y8 t8=> ?_
 replace y8:IsZip g8 z TI TO (rawInt g5.objs.size):=y8;have up: ∀c o,c≠z->g5.get? c=some o->g8.get? c=some o:=λ c o n e=>t8.extBut _ _ n (t7.extBut _ _ n (Zd _ e))
 have w8:IsPair g8 g5.objs.size x y:=t8.extBut _ _ (Nat.ne_of_gt ab) (t7.extBut _ _ (Nat.ne_of_gt ab) (Zo _ rfl));rw [sz] at y8 w8;refine Zc #[_,rfl,Zc ?_];change Q (some (.ref g5.objs.size)) _;rw [sz];show hQ g8 y8 (up _ _ D.TOz o5) (D1.keep _ _ _ r5 λ c hc o e=>up c o (by rcases hc with rfl | rfl;show D.i1z;show D.l1z) e) (D2.keep _ _ _ p5 λ c hc o e=>up c o (by rcases hc with rfl | rfl;show D.i2z;show D.l2z) e) w8 λ c o n1 n2 n3 n4 e=>up c o n1 (c5 c o n1 n2 n3 n4 e)
theorem BP {a:Value} (hh:A.handled=none) (D:ZipApart z TI TO i1 i2 l1 l2) (D1:Drw prog w i1 l1 xs S1) (D2:Drw prog w i2 l2 ys S2)
  (hz:IsZip s.heap z TI TO .none) (hTI:IsPair s.heap TI (.ref i1) (.ref i2)) (hTO:IsPair s.heap TO a b) (h1:S1 k s.heap) (h2:S2 k s.heap) (hend:xs[k]? =none\/ys[k]? =none)
  (hQ: ∀h',(∀c o,c≠z->c≠TO->c≠i1->c≠i2->s.heap.get? c=some o->h'.get? c=some o)->Q none { s with heap:=h' }):
  wpAny (model prog w) A (pyNext (.ref z)) Q E s:=by
 have hT:s.TypeIs (.ref z) "zip":=#[_,hz,rfl];have fin: ∀h' e,(∀c o,c≠z->c≠TO->c≠i1->c≠i2->s.heap.get? c=some o->h'.get? c=some o)->(∃o,h'.get? e=some o/\o.cls= .type "StopIteration")->
   wpAny (model prog w) A (do if <- isInstance (.ref e) (.type "StopIteration") then pure none else throw (.ref e):Sem (Option Value)) Q E { s with heap:=h' }:=λ h' e kk he=>by
  let#[o,ho,hc]:=he;show Qb (wpAny_isInstance (T:="StopIteration") (b:=true) #[o,ho,hc] isSubtype_stop (Zc (hQ _ kk)))
 unfold pyNext;refine Qb (wpAny_attempt (wpAny_callSpecial?_slot (name:=Str.ofString "__next__") hT F.slot_zip_next (Yo F.slot_zip_next hT F.entry_zip_next ?_ (F.args_zip_next_1 _))));refine Qb (m:=field (.ref z) 2) (Yx hz rfl (x:= .bool false) rfl ?_);refine Qb (m:=field (.ref z) 3) (Yx hz rfl (x:= .ref TI) rfl ?_);refine Qb (wpAny_seqItems hTI rfl ?_);refine Qb (m:=Builtin.SmallTypes.ownedTupleIsFree (.ref z)) ?_;unfold Builtin.SmallTypes.ownedTupleIsFree;refine Qb (Yx hz rfl (x:= .none) rfl (Zc ?_));simp only [if_true];refine Qb (wpAny_rule ?_);refine Qb (Yx hz rfl (x:= .ref TO) rfl ?_);refine Qb (wpAny_setField_rec hz (by simp) λ g1 y1 t1=> ?_);refine Qb ?_;simp only [List.zipIdx_cons,List.zipIdx_nil,Yw,List.forIn_nil];refine Qb (Qb (wpAny_onRaise ?_));replace y1:IsZip g1 z TI TO .ellipsis:=y1;have r1:S1 k g1:=D1.but h1 t1.extBut D.i1z D.l1z
 cases hx:xs[k]? with
 | none=>
  refine Qb (m:=Builtin.SmallTypes.nextOf (.ref i1)) (D1.stop _ _ k _ _ hh r1 hx λ g2 e t2 he=> ?_);let#[oe,O,W]:=he;have y2:IsZip g2 z TI TO .ellipsis:=t2 _ _ D.i1z.symm y1;have Y:e≠z:=λ q=>by subst q;rw [y2] at O;cases O;simp at W
  show wpAny_setField_rec y2 (by simp) λ g3 _ t3=>fin g3 e (λ c o n1 _ n3 _ q=>t3.extBut _ _ n1 (t2 _ _ n3 (t1.extBut _ _ n1 q))) #[oe,t3.extBut _ _ Y O,W]
 | some x=>
  have hy:ys[k]? =none:=by rcases hend with q | q;rw [hx] at q;cases q;show q
  refine Qb (m:=Builtin.SmallTypes.nextOf (.ref i1)) (D1.item _ _ k x _ _ r1 hx λ g2 r2 t2=>Zc ?_);have o2:IsPair g2 TO a b:=t2.extBut _ _ D.TOi1 (t1.extBut _ _ D.TOz hTO);have q2:S2 k g2:=D2.but (D2.but h2 t1.extBut D.i2z D.l2z) t2.extBut D.i12.symm D.l2i1;refine Qb (wpAny_seqItems o2 rfl ?_);refine Qb (wpAny_updateSeq_pair o2 λ g3 o3 t3=> ?_);refine Qb (wpAny_letGo (Zc ?_));refine Qb (Qb (wpAny_onRaise ?_));refine Qb (m:=Builtin.SmallTypes.nextOf (.ref i2)) (D2.stop _ _ k _ _ hh (D2.but q2 t3.extBut D.TOi2.symm D.l2TO) hy λ g4 e t4 he=> ?_);let#[oe,O,W]:=he;have y4:IsZip g4 z TI TO .ellipsis:=t4 _ _ D.i2z.symm (t3.extBut _ _ D.TOz.symm (t2.extBut _ _ D.i1z.symm y1));have Y:e≠z:=λ q=>by subst q;rw [y4] at O;cases O;simp at W
  show wpAny_setField_rec y4 (by simp) λ g5 _ t5=>fin g5 e (λ c o n1 n2 n3 n4 q=>t5.extBut _ _ n1 (t4 _ _ n4 (t3.extBut _ _ n2 (t2.extBut _ _ n3 (t1.extBut _ _ n1 q))))) #[oe,t5.extBut _ _ Y O,W]
end
abbrev UT (h:Heap) (j1:Obj):Heap:=h.push j1
abbrev UV (h:Heap) (j1 j2:Obj):Heap:=(UT h j1).push j2
abbrev UW (h:Heap) (j1 j2:Obj):Heap:=(UV h j1 j2).push { cls:= .type "tuple",data:= .seq ([.ref h.objs.size, .ref (UT h j1).objs.size].toArray) }
abbrev V0 (h:Heap) (j1 j2:Obj):Heap:=(UW h j1 j2).push { cls:= .type "tuple",data:= .seq ([.none, .none].toArray) }
abbrev Qx (h:Heap) (j1 j2:Obj):Heap:=(V0 h j1 j2).push { cls:= .type "zip",data:= .fields ([.none, .bool false, .bool false, .ref (UV h j1 j2).objs.size, .ref (UW h j1 j2).objs.size].toArray) }
abbrev mF (l:Addr):Obj:={ cls:= .type "tuple_iterator",data:= .fields ([.ref l, .int 0 0].toArray) }
def R1 (K:W.Frag) (a b:Addr):It:=
 ⟨λ i H=> ∃xs ys x y,SqT K H a xs/\SqL K H b ys/\xs[i]? =some x/\ys[i]? =some y,
  λ i H v H'=> ∃p x y,H p=none/\v= .ref p/\H'=upd H p (.tup [x,y])/\(∀xs,SqT K H a xs->xs[i]? =some x)/\ ∀ys,SqL K H b ys->ys[i]? =some y,
  λ i H=> ∃xs ys,SqT K H a xs/\SqL K H b ys/\(xs.length<=i\/ys.length<=i)⟩
structure ZipStT (z TI TO i1 i2 a b:Addr) (i:Nat) (h:Heap):Prop where
 hz:IsZip h z TI TO .none
 hTI:IsPair h TI (.ref i1) (.ref i2)
 hTO: ∃u v,IsPair h TO u v
 h1:h.IsTupleIter i1 a i
 h2:h.IsListIter i2 b i
 aTO:a≠TO
theorem jB {h:Heap} {c:Addr} {o o':Obj} (e:h.get? a=some o) (e':h.get? c=some o') (n:o.cls≠o'.cls):a≠c:=λ q=>by
 subst q;rw [e] at e';cases e';show n rfl
def Wn (K:W.Frag) (ta:TA):TI:=λ σ H R=>ta σ H λ vs H1=> ∃a b xs ys,vs=[.ref a, .ref b]/\SqT K H1 a xs/\SqL K H1 b ys/\R (R1 K a b) H1
def R3 (lo:Int) (n:Nat):It:=#[λ i _=>i<n,λ i H x H'=>H'=H/\x= .int (lo-i),λ i _=>n<=i]
def Wo (ta:TA):TI:=λ σ H R=>ta σ H λ vs H1=> ∃i j:Int,vs=[.int i, .int j, .int (-1)]/\(-(2^62)<=i/\i<2^62/\ -(2^62)<=j/\j<2^62)/\R (R3 i (i-j).toNat) H1
abbrev R4:R2:=λ x y H Q=> ∃i j,x= .str i/\y= .str j/\Q (.bl (decide (j.cps.toList<i.cps.toList))) H
abbrev R5:R2:=λ x y H Q=> ∃i j,x= .str i/\y= .str j/\Q (.bl (!(decide (i.cps.toList<j.cps.toList)))) H
def R6 (K:W.Frag) (a:Addr) (n:Nat):It where
 go:=λ i H=> ∃xs x,SqL K H a xs/\xs.length=n/\i<n/\xs[n-1-i]? =some x
 yld:=λ i H x H'=>H'=H/\ ∀ys,SqL K H a ys->ys[n-1-i]? =some x
 stop:=λ i _=>i=n
def Wq (K:W.Frag) (ta:TA):TI:=λ σ H R=>ta σ H λ vs H1=> ∃a xs,vs=[.ref a]/\SqL K H1 a xs/\R (R6 K a xs.length) H1
section
variable {P:Program} {w:World} {H:Hp} {h:Heap} {a:Addr} {kvs:List (Key×V)} {od:Obj}
theorem HOk.freezeK (x:HOk P w H h) (ea:H a=some (.dK kvs)) (eo:h.get? a=some od):HOk P w (upd H a (.frz od (.dK kvs))) h:=by
 have O: ∀c y,H c=some (.own y)->upd H a (.frz od (.dK kvs)) c=some (.own y):=λ c y q=>by
  rw [aq (bw q ea (by intro z;cases z))];show q
 have W: ∀c xs,H c=some (.tup xs)->upd H a (.frz od (.dK kvs)) c=some (.tup xs):=λ c xs q=>by
  rw [aq (bw q ea (by intro z;cases z))];show q
 intro b u e;by_cases Y:b=a
 .rw [Y] at e ⊢;rw [ao] at e
  cases e;show#[eo,(x a _ ea).stay (λ c v _ q=>q) (λ c q=>O c _ q) λ c xs q=>W c xs q]
 .rw [aq Y] at e;show(x b u e).stay (λ c v _ q=>q) (λ c q=>O c _ q) λ c xs q=>W c xs q
theorem pairs_at {knd:PySem.KeyKind P w Key}: ∀ {es:List DictEntry} {us:List (Key×Value)} (i:Nat) (e:DictEntry),Pairs knd es us->es[i]? =some e-> ∃u,us[i]? =some u/\knd.is u.1 e.key=true
 | _,_,0,e, .cons r _ _,h=>by
  simp only [List.getElem?_cons_zero,Option.some.injEq] at h;subst h;show#[_,rfl,r]
 | _,_,i+1,e, .cons _ _ t,h=>by
  simp only [List.getElem?_cons_succ] at h;let#[u,O,W]:=pairs_at i e t h;show#[u,by simpa using O,W]
theorem pairs_len {knd:PySem.KeyKind P w Key}: ∀ {es:List DictEntry} {us:List (Key×Value)},Pairs knd es us->es.length=us.length
 | _,_, .nil=>rfl
 | _,_, .cons _ _ t=>by simp only [Wp,pairs_len t]
end
theorem HJ {k:Key} (h:j0 k v=true):RelV (kV k) v:=by
 rcases b8 h with ⟨i,t,rfl,rfl⟩ | ⟨x,t,rfl,rfl⟩
 .exact #[t,rfl]
 .exact #[t,rfl]
theorem Inv.freezeK {X:Cx} {σ:St} {s:Shared} {od:Obj} (I:Inv X pins σ H s) (ea:H a=some (.dK kvs)) (eo:s.heap.get? a=some od):
  Inv X pins σ (upd H a (.frz od (.dK kvs))) s:=by
 refine I.call' (ch:=[]) rfl #[λ b o q _ _ _=>q,λ b o q _ _ _=>#[o.slots,q],λ b o q n _=> ?_,λ b o q _=>#[o,q],λ b xs q=> ?_,λ b o u q=> ?_,λ b ps q=>#[([].toArray),?_]] (I.hok.freezeK ea eo) I.bare λ b O=>nomatch O
 .rw [aq (λ z=>by rw [z,ea] at n;cases n)];show n
 .rw [aq (bw q ea (by intro z;cases z))];show q
 .rw [aq (bw q ea (by intro z;cases z))];show q
 .rw [aq (bw q ea (by intro z;cases z)),q];simp
def z8 (od:Obj) (a:Addr):It where
 go:=λ i H=> ∃kvs,H a=some (.frz od (.dK kvs))/\i<kvs.length
 yld:=λ i H v H'=>H'=H/\ ∀kvs,H a=some (.frz od (.dK kvs))-> ∃k x,kvs[i]? =some (k,x)/\v=kV k
 stop:=λ i H=> ∃kvs,H a=some (.frz od (.dK kvs))/\kvs.length<=i
theorem mG {P:Program} {K:W.Frag} (it a:Addr) {od:Obj} {es:Array DictEntry} {ep:Nat} (hdd:od.data= .dict es ep):Turn P w K tg (z8 od a) [it] it (λ i h=>h.IsKeyIter it a i es.size ep) where
 mem:=by simp
 obj:=λ i h st b hb=>by
  let#[o,e,c,d]:=st;have e':b=it:=by simpa using hb
  rw [e'];show#[o,e,λ v z=>by rw [d] at z;cases z]
 keep:=λ i h h' st k=>by
  let#[o,e,r]:=st;show#[o,k it (by simp) o e,r]
 item:=by
  intro X hP hw hK hc i Y s σ H E I hf st hg;subst hP hw hK;let#[kvs,ea,hi]:=hg;let#[eo,_,_,us,O,o,af,ac,e1,_,e3,_,e4,_]:=(show ObjOk X.prog X.w H s.heap a (.frz od (.dK kvs)) from I.hok a _ ea);rw [eo] at e1
  cases e1;rw [hdd] at e3
  cases e3;have hsz:es.size=us.length:=by rw [<- Array.length_toList];show pairs_len e4
  have hl:kvs.length=us.length:=Paired.length O;let#[f0,f1,f2,f3,f4,f5]:=hf it (by simp);refine m9 st eo hdd () λ h' ab hs=> ?_
  have I1:Inv X Y σ H { s with heap:=h',toks:=s.toks }:=I.turned (λ b o hb e=>hs.extBut b o hb e) f0 f1 f3 f4 f5;let#[o,e,ae,d]:=id ab;let#[#[k,x],#[k',y],hk,hx,r1,_]:=fu i O hi;have ad:RelV (kV k) (es[i]'(by rfl')).key:=by
   let#[u,h1,h2]:=pairs_at i (es[i]'(by rfl')) e4 (by rw [Array.getElem?_toList,Array.getElem?_eq_getElem]);rw [hx] at h1
   cases h1;rw [iM] at h2;rw [show k=k' from r1];show HJ h2
  refine⟨_,rfl,rC (s:={ s with heap:=h' }) e ae d (by decide) ⟨kV k,H,I1,ad,⟨rfl,λ ag q=> ?_⟩,ab,λ b hb=>(hf b hb).1⟩⟩;rw [ea] at q
  cases q;show#[k,x,hk,rfl]
 done:=by
  intro X hP hw hK hc i Y s σ H E I hf st hg;subst hP hw hK;let#[kvs,ea,hi]:=hg;let#[eo,_,_,us,O,o,af,ac,e1,_,e3,_,e4,_]:=(show ObjOk X.prog X.w H s.heap a (.frz od (.dK kvs)) from I.hok a _ ea);rw [eo] at e1
  cases e1;rw [hdd] at e3
  cases e3;have hsz:es.size=us.length:=by rw [<- Array.length_toList];show pairs_len e4
  have hl:kvs.length=us.length:=Paired.length O;let#[f0,f1,f2,f3,f4,f5]:=hf it (by simp);show q9 (I.ok.hd hc) st eo hdd () λ h' kk=>#[rfl,I.turned (t':=s.toks) (λ b o hb e=>kk b o hb e) f0 f1 f3 f4 f5]
 self:=λ _ _ _ _ _ st h=>wpAny_pyIter_keyiter st h
def uT (tl:TE):TI:=λ σ H R=>tl σ H λ x H1=> ∃a kvs,x= .ref a/\((H1 a=some (.dK kvs)/\ ∀od,R (z8 od a) (upd H1 a (.frz od (.dK kvs))))\/ ∃od,H1 a=some (.frz od (.dK kvs))/\R (z8 od a) H1)
theorem BR {X:Cx} {l:Expr} {tl:TE} (hl:PE X l tl):PI X tg l (uT tl):=by
 intro ab s σ H R I h;refine aW (hl ab s σ H _ I h) λ v O ⟨x,H1,I1,r1,q1⟩=> ?_
 let#[a,kvs,rfl,q]:=q1
 cases r1;rcases q with ⟨ea,q⟩ | ⟨od,ea,q⟩
 .obtain ⟨_,W,us,ac,o,es,ep,Y,ex,e3,_,e4,_⟩:=(show ObjOk X.prog X.w H1 O.heap a (.dK kvs) from I1.hok a _ ea);refine jd W #[o,Y,ex.1] Y e3 ?_;have IF:=I1.freezeK ea Y;refine#[O.heap.objs.size,[O.heap.objs.size],_,_,_,rfl,IF.kept (t':=O.toks) λ b o e=>Zd _ e,mG _ a e3,#[_,Zo _ rfl,rfl,rfl],λ b hb=> ?_,q o];rw [Za.mp hb];show IF.fpOk (Zm _) (IF.hok.fresh (Zm _))
 .obtain ⟨eo,_,W,us,ac,o,es,ep,Y,ex,e3,_,e4,_⟩:=(show ObjOk X.prog X.w H1 O.heap a (.frz od (.dK kvs)) from I1.hok a _ ea);rw [eo] at Y
  cases Y;refine jd W #[od,eo,ex.1] eo e3 ?_;refine#[O.heap.objs.size,[O.heap.objs.size],_,_,_,rfl,I1.kept (t':=O.toks) λ b o e=>Zd _ e,mG _ a e3,#[_,Zo _ rfl,rfl,rfl],λ b hb=> ?_,q];rw [Za.mp hb];show I1.fpOk (Zm _) (I1.hok.fresh (Zm _))
def LK (K:W.Frag):V->List V->Hp->VK->Prop:=λ x vs H Q=> ∃ (s:Str) (a:Addr) (ys:List Str),x= .str s/\vs=[.ref a]/\SqL K H a (ys.map V.str)/\(ys.map (·.length)).sum+ys.length*s.length<=16777216/\Q (.str (Txt.join s ys.reverse)) H
section
variable {X:Cx}
def Xg (K:W.Frag) (to:TE) (t:TA):TE:=λ σ H Q=>to σ H λ x H1=>Le K "str" x H1/\t σ H1 λ xs H2=>LK K x xs H2 Q
end
def jC (B:Heap) (l:List Env) (x:Addr) (C a0:Value) (h:Heap):Prop:=B.StaysIn h/\B.get? x=none/\h.FunFrames B l/\ ∃fl,h.TracedAtW B x C a0 fl
section
variable {M:Model} {A:Around} {E:Value->Shared->Prop} {s:Shared} {B:Heap} {env env':Env} {l outer:List Env} {L x:Addr} {C a0:Value} {Q:Unit->Shared->Prop}
theorem z9 (h:env'.frame=env.frame):noteFrame (.ref x) env'=noteFrame (.ref x) env:=by
 unfold noteFrame PySem.frameOf;rw [h]
theorem sV (hfr:A.frames=some (env::outer)) (hf:env.frame=some L) (a:jC B (env::outer) x C a0 s.heap)
  (hQ: ∀h',jC B (env::outer) x C a0 h'->s.heap.UpToSlots h'->Q Unit.unit { s with heap:=h' }):wpAny M A (noteFrame (.ref x) env) Q E s:=by
 let#[ag,af,hl,fl,oe,vs,T,oT,ts,he,#[ae,h0],hd,h1,ai,ah,hT,ab,h3]:=id a;subst ae;unfold noteFrame;simp only [hf];refine Qb (Yx he hd h1 ?_);rw [if_pos (show(Value.ref T !=Value.none)=true from by simp)];refine Qb (Yx hT ab h3 ?_);by_cases ad:(fl==rawInt L)=true
 .rw [if_pos ad];show Zc (hQ s.heap a (Heap.UpToSlots.refl _))
 .rw [if_neg ad];refine Qb (wpAny_setField hT ab (Array.getElem?_eq_some_iff.mp h3).1 ?_);have other: ∀b,b≠T->(s.heap.update T (Obj.mapFields (·.setIfInBounds 3 Value.none))).get? b=s.heap.get? b:=λ b Y=>Heap.get?_update_other _ _ (Ne.symm Y)
  have O: ∀b o,s.heap.get? b=some o->(∀vs,o.data≠ .fields vs)->b≠T:=λ b o Y W q=>by
   rw [q,hT] at Y;injection Y with Y;subst Y;show W ts ab
  refine wpAny_entryW hfr (hl.of_keeps λ b o Y W=>#[o,(other b (O b o Y W)).trans Y,rfl]) hf ((other x (Ne.symm ah)).trans he)
   (λ b o ac=>(other b λ q=>by rw [q,ai] at ac;cases ac).trans (ag b o ac)) af hd (Array.getElem?_eq_some_iff.mp h1).1 h0
   λ h' ⟨x1,x2,x3,x4⟩=>hQ h' #[x1,af,x2,_,x3] λ b o Y W=>x4 b o ((other b (O b o Y W)).trans Y) W
theorem mH (a:jC B l x C a0 s.heap) (hQ: ∀h',jC B l x C a0 h'->s.heap.UpToSlots h'->Q Unit.unit { s with heap:=h' }):wpAny M A (setFlight (.ref x) fr) Q E s:=by
 let#[ah,ai,hl,fl,oe,vs,T,oT,ts,he,af,hd,h1,ag,ae,hT,ab,h3]:=a;have ac:3<ts.size:=(Array.getElem?_eq_some_iff.mp h3).1;have other: ∀b,b≠T->(s.heap.update T (Obj.mapFields (·.setIfInBounds 3 (fr.elim Value.none λ f=>rawInt f)))).get? b=s.heap.get? b:=
  λ b W=>Heap.get?_update_other _ _ (Ne.symm W)
 have O: ∀b o,s.heap.get? b=some o->(∀vs,o.data≠ .fields vs)->b≠T:=λ b o W Y q=>by
  rw [q,hT] at W;injection W with W;subst W;show Y ts ab
 unfold setFlight;refine Qb (Yx he hd h1 ?_);rw [if_pos (show(Value.ref T !=Value.none)=true from by simp)];refine wpAny_setField hT ab ac (hQ _ ⟨λ b o ad=>(other b λ q=>by rw [q,ag] at ad;cases ad).trans (ah b o ad),ai,
  hl.of_keeps λ b o W Y=>⟨o,(other b (O b o W Y)).trans W,rfl⟩,(fr.elim Value.none λ f=>rawInt f),?_⟩ λ b o W Y=>⟨o.slots,(other b (O b o W Y)).trans W⟩)
 show#[oe,vs,T,_,_,(other x (Ne.symm ae)).trans he,af,hd,h1,ag,ae,Heap.get?_update_self _ hT (Obj.isFreed_of_fields (Obj.data_mapFields ab _)),Obj.data_mapFields ab _,by simp [ac]]
theorem uU {α:Type} {Q:α->Shared->Prop} (a:jC B l x C a0 s.heap) (hQ: ∀h',jC B l x C a0 h'->s.heap.UpToSlots h'->E (.ref x) { s with heap:=h' }):
  wpAny M A (PySem.passOn what (.ref x) env:Sem α) Q E s:=by
 let#[_,_,_,fl,oe,vs,T,oT,ts,he,Y,hd,h1,_]:=id a;unfold PySem.passOn;refine Qb (Yx he hd h1 ?_);rw [if_neg (show ¬ ((Value.ref T==Value.none)=true) from by simp)]
 first
  | show Qb (Zc (Qb (mH a λ h' O W=>wpAny_throw (hQ h' O W))))
  | show Qb (mH a λ h' O W=>wpAny_throw (hQ h' O W))
theorem zb (hfr:A.frames=some (env::outer)) (hf:env.frame=some L) (a:jC B (env::outer) x C a0 s.heap)
  (hQ: ∀h',Heap.FlyingW B outer x C a0 h'->s.heap.UpToSlots h'->Q Unit.unit { s with heap:=h' }):wpAny M A (leaving env (.ref x)) Q E s:=by
 unfold leaving;refine Qb (sV hfr hf a λ h1 a1 u1=> ?_);let#[W,O,hl,fl,t]:=a1;refine wpAny_setFlight_noneW W hl t λ h' k1 k2 k3 Y=> ?_
 let#[_,_,k2]:=k2;show hQ h' #[k1,O,k2,k3] (u1.trans λ b o hb hn=>#[o.slots,Y b o hb hn])
theorem BV {B':Heap} (k:B'.StaysIn B) {h:Heap} (a:jC B l x C a0 h):jC B' l x C a0 h:=by
 let#[f1,f2,f3,fl,oe,vs,T,oT,O,a1,Y,a3,a4,a5,a6]:=a;have fresh: ∀b,B.get? b=none->B'.get? b=none:=λ b hb=>by
  cases hq:B'.get? b with
  | none=>rfl
  | some o'=>have:=k b o' hq;rw [hb] at this;cases this
 show#[λ b o q=>f1 b o (k b o q),fresh _ f2,PySem.W.funFrames_base k f3,fl,oe,vs,T,oT,O,a1,Y,a3,a4,fresh _ a5,a6]
end
theorem mJ {B h h':Heap} {D:Addr} (k: ∀b o,b≠D->h.get? b=some o->h'.get? b=some o): ∀ {l:List Env},D∉frs l->h.FunFrames B l->h'.FunFrames B l
 | [],_,_=>trivial
 | env::r,hD,⟨hk,⟨L,o,hf,hn,ho,hd⟩,hr⟩=>by
  have e:frs (env::r)=L::frs r:=by change List.filterMap _ _=_;rw [List.filterMap_cons_some hf];rfl
  rw [e] at hD;show#[hk,#[L,o,hf,hn,k L o (λ z=>hD (by rw [z];show Zt)) ho,hd],mJ k (λ z=>hD (Zs _ z)) hr]
structure Air (P:Program) (w:World) (fp:List Addr) (outer:List Env) (H:Hp) (s:Shared) (E:XK) (x:Addr) (C a0:Value) (B:Heap) (H':Hp) (s':Shared):Prop where
 os:s'.os=s.os
 bare:AllBare s'.gens
 un:Un (frs outer) fp H H' s.heap s'.heap
 hok:HOk P w H' s'.heap
 nx:H' x=none
 air:jC B outer x C a0 s'.heap
 new:x∈fp\/s.heap.get? x=none
 d1: ∀b o,s.heap.get? b=some o->b∉frs outer->b∉fp-> ∃u,B.get? b=some u
 d2: ∀b o,H' b=some o-> ∃u,B.get? b=some u
 ex:E C none H'
section
variable {P:Program} {w:World} {fp:List Addr} {outer:List Env} {H H':Hp} {s s':Shared} {E:XK} {x:Addr} {C a0:Value} {B h':Heap}
theorem Air.step (a:Air P w fp outer H s E x C a0 B H' s') (n:jC B outer x C a0 h') (up:s'.heap.UpToSlots h'):Air P w fp outer H s E x C a0 B H' { s' with heap:=h' }:=by
 have W: ∀b o,s'.heap.get? b=some o->(∃v,B.get? b=some v)->h'.get? b=some o:=λ b o e ⟨v,hv⟩=>by
  have z:=a.air.1 b v hv;rw [e] at z
  cases z;show n.1 b o hv
 have slots: ∀b o,s'.heap.get? b=some o->b∈frs outer-> ∃sl,h'.get? b=some { o with slots:=sl }:=λ b o e Y=>by
  let#[_,o',e',hd]:=a.air.2.2.1.mem Y;rw [e] at e'
  cases e';show up b o e hd
 refine#[a.os,a.bare,#[λ b o q z Y O=> ?_,λ b o q z Y O=> ?_,a.un.free,λ b o q O=> ?_,a.un.tups,a.un.frzs,a.un.tbls],λ c o e=> ?_,a.nx,n,a.new,a.d1,a.d2,a.ex]
 .exact W b o (a.un.keep b o q z Y O) (a.d1 b o q Y O)
 .obtain ⟨sl,e1⟩:=a.un.slot b o q z Y O;let#[ab,e2]:=slots b _ e1 Y;show#[ab,e2]
 .obtain ⟨o2,e2⟩:=a.un.there b o q O;by_cases Y:b∈frs outer
  .obtain ⟨sl,e3⟩:=slots b o2 e2 Y;show#[_,e3]
  .exact #[_,W b o2 e2 (a.d1 b o q Y O)]
 .refine (a.hok c o e).stay (λ d v hc z=>W d v z ?_) (λ _ z=>z) λ _ _ z=>z
  rcases hc with rfl | hc
  .exact a.d2 _ _ e
  .exact a.d2 _ _ hc
theorem Air.other {D:Addr} (a:Air P w fp outer H s E x C a0 B H' s') (hD:s.heap.objs.size<=D) (hn:H' D=none) (hf:D∉frs outer) (Y: ∃u,B.get? D=some u) (k:Heap.SameBut D s'.heap h'):
  Air P w fp outer H s E x C a0 (PySem.W.hideAll B [D]) H' { s' with heap:=h' }:=by
 have hB:(PySem.W.hideAll B [D]).StaysIn B:=λ b o q=>PySem.W.of_hideAll _ q
 have lt: ∀b o,s.heap.get? b=some o->b≠D:=λ b o e z=>absurd (Zh e) (by rw [z];show Nat.not_lt.mpr hD)
 have keep: ∀b o,b≠D->s'.heap.get? b=some o->h'.get? b=some o:=λ b o hb e=>k.extBut b o hb e
 let#[f1,f2,f3,fl,oe,vs,T,oT,ts,a1,a2,a3,a4,a5,a6,a7,a8,a9]:=BV hB a.air;let#[_,g2,_,_,_,_,T',_,_,b1,_,b3,b4,b5,_]:=a.air;let#[uD,Y]:=Y;have hx:D≠x:=λ z=>by rw [z,g2] at Y;cases Y
 have ab:T≠D:=λ z=>by
  rw [a1] at b1;cases b1;rw [a3] at b3;cases b3;rw [a4] at b4;cases b4;rw [z,Y] at b5;cases b5
 refine#[a.os,a.bare,#[λ b o q z hb O=>keep b o (lt b o q) (a.un.keep b o q z hb O),λ b o q z hb O=> ?_,a.un.free,λ b o q O=> ?_,a.un.tups,a.un.frzs,a.un.tbls],λ c o e=> ?_,a.nx,#[λ b o q=> ?_,f2,mJ keep hf f3,fl,oe,vs,T,oT,ts,keep _ _ (Ne.symm hx) a1,a2,a3,a4,a5,a6,keep _ _ ab a7,a8,a9],a.new,λ b o q hb O=> ?_,λ b o q=> ?_,a.ex]
 .obtain ⟨sl,e1⟩:=a.un.slot b o q z hb O;show#[sl,keep _ _ (lt b o q) e1]
 .obtain ⟨o2,e2⟩:=a.un.there b o q O;show#[o2,keep _ _ (lt b o q) e2]
 .refine (a.hok c o e).stay (λ d v hc z=>keep d v (λ y=> ?_) z) (λ _ z=>z) λ _ _ z=>z
  subst y;rcases hc with rfl | hc
  .rw [hn] at e;cases e
  .rw [hn] at hc;cases hc
 .exact keep b o (λ z=>by rw [z,PySem.W.hideAll_none _ Zt] at q;cases q) (f1 b o q)
 .obtain ⟨u,e⟩:=a.d1 b o q hb O;show#[u,PySem.W.hideAll_get _ e (by intro z;show lt b o q (Za.mp z))]
 .obtain ⟨u,e⟩:=a.d2 b o q;show#[u,PySem.W.hideAll_get _ e (by intro z;rw [Za.mp z,hn] at q;cases q)]
end
section
variable {P:Program} {w:World} {K:W.Frag} {mg:Str->Option Value} {base:Heap} {N:List Str} {qual:Str} {sc:Scope} {f:Addr} {cd:Value} {A:Around} {outer:List Env} {s₀:Shared} {H₀:Hp} {E E':XK}
def R7 (X:Cx) (E:XK):Prop:= ∀ (pins:List (Addr×Obj)) (σ:St) (H:Hp) (s s':Shared) (fp:List Addr) (x:Addr) (C a0:Value) (B:Heap) (H':Hp),Inv X pins σ H s->(∀b∈fp,b∈X.ex\/X.s₀.heap.objs.size<=b)->Air X.prog X.w fp X.stack H s E x C a0 B H' s'->X.xe (.ref x) s'
theorem BW:R7 (iu (iY P w) P w K mg base N qual sc f cd A outer s₀ H₀ E) E:=by
 intro ai σ H s s' fp x C a0 B H' I ah a;have fr:(A.deeper (envOfC qual sc s₀.heap.objs.size f cd)).frames=some (envOfC qual sc s₀.heap.objs.size f cd::outer):=I.ok.frames;have u:Un (frs outer) [] H₀ H s₀.heap s.heap:=I.base;have un:Un (frs (envOfC qual sc s₀.heap.objs.size f cd::outer)) fp H H' s.heap s'.heap:=a.un;have fl:jC B (envOfC qual sc s₀.heap.objs.size f cd::outer) x C a0 s'.heap:=a.air;have d1: ∀b o,s.heap.get? b=some o->b∉frs (envOfC qual sc s₀.heap.objs.size f cd::outer)->b∉fp-> ∃u,B.get? b=some u:=a.d1;have W: ∀b o,s₀.heap.get? b=some o->b∉fp:=λ b o e Y=>by
  rcases ah b Y with z | z
  .cases z
  .exact absurd (Zh e) (Nat.not_lt.mpr z)
 change wpAny (model P w) (A.deeper (envOfC qual sc s₀.heap.objs.size f cd)) (leaving (envOfC qual sc s₀.heap.objs.size f cd) (.ref x)) (λ _ ac=>iY P w outer H₀ s₀ E (.ref x) ac) (λ e' ac=>iY P w outer H₀ s₀ E e' ac) s';refine zb fr rfl fl λ ag ad up=> ?_
 have nL: ∀b o,s₀.heap.get? b=some o->b∉frs outer->b∉frs (envOfC qual sc s₀.heap.objs.size f cd::outer):=λ b o e Y hm=>by
  rw [fj] at hm;rcases Zk.mp hm with z | z
  .exact absurd (Zh e) (by rw [z];show Nat.lt_irrefl _)
  .exact Y z
 have ab: ∀b o,s'.heap.get? b=some o->(∃v,B.get? b=some v)->ag.get? b=some o:=λ b o e ⟨v,hv⟩=>by
  have z:=fl.1 b v hv;rw [e] at z
  cases z;show ad.1 b o hv
 have slots: ∀b o,s'.heap.get? b=some o->b∈frs (envOfC qual sc s₀.heap.objs.size f cd::outer)-> ∃sl,ag.get? b=some { o with slots:=sl }:=λ b o e Y=>by
  let#[_,o',e',hd]:=fl.2.2.1.mem Y;rw [e] at e'
  cases e';show up b o e hd
 refine#[x,C,a0,B,H',rfl,a.os.trans I.os,a.bare,#[λ b o q n Y O=> ?_,λ b o q n Y O=> ?_,λ b o q n O=> ?_,λ b o q O=> ?_,λ b xs q=>un.tups b xs (u.tups b xs q),λ b o v q=>un.frzs b o v (u.frzs b o v q),λ b ps q=> ?_],λ c o e=> ?_,a.nx,ad,?_,λ b o q Y=> ?_,a.d2,a.ex]
 .have e1:=u.keep b o q n Y O;have n1:=u.free b o q n O;show ab b o (un.keep b o e1 n1 (nL b o q Y) (W b o q)) (d1 b o e1 (nL b o q Y) (W b o q))
 .obtain ⟨sl,e1⟩:=u.slot b o q n Y O;have n1:=u.free b o q n O;have af:b∈frs (envOfC qual sc s₀.heap.objs.size f cd::outer):=by rw [fj];show Zs _ Y
  let#[al,e2]:=un.slot b _ e1 n1 af (W b o q);let#[ae,e3]:=slots b _ e2 af;show#[ae,e3]
 .obtain ⟨o',e1⟩:=u.there b o q O;show un.free b o' e1 (u.free b o q n O) (W b o q)
 .obtain ⟨o',e1⟩:=u.there b o q O;let#[o2,e2]:=un.there b o' e1 (W b o q);by_cases Y:b∈frs (envOfC qual sc s₀.heap.objs.size f cd::outer)
  .obtain ⟨sl,e3⟩:=slots b o2 e2 Y;show#[_,e3]
  .exact #[_,ab b o2 e2 (d1 b o' e1 Y (W b o q))]
 .obtain ⟨m1,e1⟩:=u.tbls b ps q;let#[m2,e2]:=un.tbls b _ e1;show#[m1++m2,by rw [e2,Array.append_assoc]]
 .refine (a.hok c o e).stay (λ d v hc z=>ab d v z ?_) (λ _ z=>z) λ _ _ z=>z
  rcases hc with rfl | hc
  .exact a.d2 _ _ e
  .exact a.d2 _ _ hc
 .cases z:s₀.heap.get? x with
  | none=>rfl
  | some o=>
   let#[o',e1]:=u.there x o z (by simp);rcases a.new with y | y
   .exact absurd y (W x o z)
   .rw [y] at e1;cases e1
 .obtain ⟨o',e1⟩:=u.there b o q (by simp);show d1 b o' e1 (nL b o q Y) (W b o q)
end
abbrev gk (X:Cx) (sc:Scope) (N':List Str) (cl:List (Str×Addr)) (C:Addr) (s:Shared) (H:Hp) (fp:List Addr) (pins:List (Addr×Obj)) (xe:Value->Shared->Prop):Cx:={ blk X sc N' cl C s H fp pins with xe:=xe }
section
variable {prog:Program} {w:World} {A:Around} {R:Result->Shared->Prop} {s:Shared} {EE:Value->Shared->Prop}
theorem nJ {elt target iter:Expr} {pos:Pos} {it acc:Value} {env:Env} (I:Nat->Shared->Prop) (hE: ∀e s,EE e s->notedBy (model prog w) A env (λ e s'=>R (.error e) s') e s)
  (turn: ∀n s,I n s->wpAny (model prog w) A (pyNext it) (λ r s₁=>match r with
   | none=>R (.ok .next) s₁
   | some v=>wpAny (model prog w) A (letOwnedTupleGo target it v) (λ _ O=>wpAny (model prog w) A (assign target env v) (λ _ s₂=>
     wpAny (model prog w) A (forIn ifs true λ c r=>if r=true then do let ok <- isTrue c env (eval c env);pure (ForInStep.yield ok) else pure (ForInStep.yield r)) (λ ok W=>
      if ok=true then wpAny (model prog w) A (eval elt env) (λ x ac=>
       wpAny (model prog w) A (call (.builtin "list.append") [acc,x]) (λ _ Y=> ∃m,m<n/\I m Y) EE ac) EE W
      else ∃m,m<n/\I m W) EE s₂) EE O) EE s₁) EE s)
  (n:Nat) (h:I n s):
  codeAny (model prog w) A (.compLoop (.ListComp elt [#[target,iter,ifs,0]] scope pos) 0 it acc env) R s:=by
 refine codeAny_loop rfl I (λ n s hI=> ?_) n h;change wpAny _ A ((compTurn (.ListComp elt [#[target,iter,ifs,0]] scope pos) 0 it acc env).onRaise (λ x=>do noteFrame x env;theTreesLotGoes x)) _ _ s;refine wpAny_noted ?_;rw [compTurn_list];refine Yv (E:=EE) ?_ (λ _ _ q=>q) hE;refine Qb (wpAny_standAt (Qb (Yv (turn n s hI) (λ r s₁ h₁=> ?_) λ _ _ h'=>h')))
 cases r with
 | none=>show Zc h₁
 | some v=>
  refine Qb (Yv h₁ (λ _ O ad=> ?_) λ _ _ h'=>h');refine Qb (Yv ad (λ _ s₂ af=>Qb (Yv af (λ ok W ab=> ?_) λ _ _ h'=>h')) λ _ _ h'=>h')
  cases ok with
  | false=>show Zc #[rfl,ab]
  | true=>
   show Qb (Qb (Yv ab (λ x ac ag=>Qb (Yv ag (λ _ Y ae=>Zc (Zc #[rfl,ae])) λ _ _ h'=>h')) λ _ _ h'=>h'))
end
section
variable {X:Cx} {pins:List (Addr×Obj)} {σ:St} {H2:Hp} {s₂:Shared} {tg iter elt:Expr} {ifs:List Expr} {sc:Scope} {pos:Pos} {N':List Str} {κ:List (Option Nat)} {cl:List (Str×Addr)} {it:Addr} {fp:List Addr} {tn:Nat->Heap->Prop} {J:It} {g:TG} {tc:TT} {te:TE} {E:XK}
theorem Inv.blkIn {σ':St} {s:Shared} (I:Inv (blk X sc N' cl C s₂ H2 fp pins) pl σ' H s):Inv (gk X sc N' cl C s₂ H2 fp pins xe) pl σ' H s:=
 ⟨⟨I.ok.mod,I.ok.kind,I.ok.glob,I.ok.blt,I.ok.above,I.ok.inj,I.ok.has,I.ok.cab,I.ok.hd,I.ok.frames,I.ok.stk,I.ok.exf,I.ok.bs,I.ok.bsz,I.ok.noex,I.ok.exfs,I.ok.funs,I.ok.frf⟩,
  I.os,I.bare,I.base,I.loc,I.cell,I.free,I.freeC,I.pin,I.hok,I.len⟩
def iw (X:Cx) (fp:List Addr) (H2:Hp) (s₂:Shared) (E:XK) (C:Addr) (e:Value) (s':Shared):Prop:=
 ∃ (x:Addr) (cc a0:Value) (B:Heap) (H':Hp),e= .ref x/\Air X.prog X.w fp X.stack H2 s₂ E x cc a0 B H' s'/\H' C=none/\(∃u,B.get? C=some u)/\ ∃m,s'.heap.Ns C m
theorem uV (hC:C∉frs X.stack):eQ (iY X.prog X.w) (gk X sc N' cl C s₂ H2 fp pins (iw X fp H2 s₂ E C)) E:=by
 intro pl σ' H s e s' I h;let#[x,cc,a0,B,H',rfl,ho,hg,un,ab,hx,Y,sx,O,d2,q]:=h;have ub:Un (frs X.stack) fp H2 H s₂.heap s.heap:=I.base;have un:Un (frs X.stack) [] H H' s.heap s'.heap:=un;have O: ∀b o,s.heap.get? b=some o->b∉frs X.stack-> ∃u,B.get? b=some u:=O;have nC:H C=none:=I.free;let#[m,hn,_]:=I.loc;let#[oC,eC]: ∃o,s.heap.get? C=some o:=by
  have:=hn;let#[o,_,_,eo,_]:=this;show#[o,eo]
 refine#[x,cc,a0,B,H',rfl,#[ho.trans I.os,hg,ub.trans (un.mono (λ _ z=>z) (λ _ z=>nomatch z)),ab,hx,#[Y.1,Y.2.1,Y.2.2.1,_,Y.2.2.2],?_,λ b o e hb hf=> ?_,d2,q],un.free C oC eC nC (by simp),O C oC eC hC,m,hn.at' λ o e=> ?_]
 .by_cases hf:x∈fp
  .exact .inl hf
  .refine .inr ?_
   cases z:s₂.heap.get? x with
   | none=>rfl
   | some o=>
    let#[o',W]:=ub.there x o z hf;rw [sx] at W;cases W
 .obtain ⟨o',W⟩:=ub.there b o e hf;show O b o' W hb
 .exact un.keep C o e nC hC (by simp)
theorem BX (hc:X.calm=true) (I:Inv X pins σ H2 s₂) (T:Turn X.prog X.w X.K tg J fp it tn) (st:tn 0 s₂.heap) (f2: ∀b∈fp,jq X pins H2 b)
  (S:CScope X.env.scope sc) (hcap:capOk κ N' X.N sc=true) (hcl1: ∀x c,cl.lookup x=some c->X.env.cells.lookup x=some c) (hcl2: ∀x c,X.env.cells.lookup x=some c->(x,NameKind.free)∈sc.names->cl.lookup x=some c)
  (hg: ∀C,C∉frs X.stack->PG (gk X sc N' cl C s₂ H2 fp pins (iw X fp H2 s₂ E C)) tg g) (hi: ∀C,C∉frs X.stack->uI (gk X sc N' cl C s₂ H2 fp pins (iw X fp H2 s₂ E C)) ifs tc) (he: ∀C,C∉frs X.stack->PE (gk X sc N' cl C s₂ H2 fp pins (iw X fp H2 s₂ E C)) elt te)
  {W:Nat->Nat->List V->Hp->Prop} {Q:VK} {m0:Nat} (w0:W 0 m0 [] H2)
  (turn: ∀i m ys H,W i m ys H->(J.stop i H/\ ∀p,H p=none->Q (.ref p) (upd H p (.lst ys)))\/
   (J.go i H/\ys.length<sizeLine/\ ∃N:List V->Hp->Prop,(∀a6 H',N a6 H'-> ∃m',m'<m/\W (i+1) m' a6 H')/\ ∀x H',J.yld i H x H'->g x (cap κ σ) H' λ av H2=>oJ (cap κ σ) av/\tc av H2 λ b H3=>if b=true then te av H3 λ y H4=>N (ys++[y]) H4 else N ys H3))
  (hst:X.stack=X.env::X.outer) (hfr:X.env.frame=some X.env.locals)
  (hRE: ∀D C e s1,s₂.heap.objs.size<=C->C∉frs X.stack->iw X fp H2 s₂ E C e s1->RR (.ref D) C (.error e) s1)
  (hRR: ∀D C H' s1,Left X pins σ C H' s1->Q (.ref D) H'->RR (.ref D) C (.ok .next) s1):
  wpAny (model X.prog X.w) X.A (newList []) (λ a5 ad=>wpAny (model X.prog X.w) X.A (newFunctionEnv sc X.env.globals cl [] X.env.qual none .none (some X.env)) (λ ap a9=>
   codeAny (model X.prog X.w) X.A (.compStart (.ListComp elt [#[tg,iter,ifs,0]] sc pos) 0 (.ref it) a5 { ap with scope:=relabel sc X.env }) (RR a5 ap.locals) a9) EV ad) EV s₂:=by
 refine Ys (wpAny_newFunctionEnv S.nocell (by intro y hy;simp at hy) (λ h₁ ac ab=> ?_) S.kind);dsimp only at ac ab ⊢;generalize hH2:s₂.heap.push { cls:= .type "list",dict:=none,data:= .seq ([]:List Value).toArray }=P2 at ac ab ⊢;have ah:P2.objs.size=s₂.heap.objs.size+1:=by rw [<- hH2,Heap.size_push]
 generalize hCe:P2.objs.size=C at ac ab ah ⊢;generalize hDe:s₂.heap.objs.size=D at ah ⊢;have al:D≠C:=by rw [ah];show Yb (Nat.lt_succ_self _)
 have hC:s₂.heap.objs.size<=C:=by rw [hDe,ah];show Nat.le_succ _
 have hD:s₂.heap.objs.size<=D:=by rw [hDe];show Zm _
 have O: ∀b,b<s₂.heap.objs.size->b≠C/\b≠D:=λ b hb=>#[Nat.ne_of_lt (Zx hb hC),Yb (Zx hb hD)]
 have a8: ∀b o,s₂.heap.get? b=some o->h₁.get? b=some o:=λ b o e=>ab.extBut b o (O b (Zh e)).1 (Zd _ (hH2▸Zd _ e))
 have a3:h₁.get? D=some { cls:= .type "list",data:= .seq ([]:List Value).toArray ([]:List Value).length }:=by
  have q:P2.get? s₂.heap.objs.size=some { cls:= .type "list",data:= .seq ([]:List Value).toArray 0 }:=hH2▸Zo _ rfl;rw [hDe] at q;show ab.extBut _ _ al (Zd _ q)
 have fl: ∀b∈fp,b<s₂.heap.objs.size:=λ b hb=>by
  let#[o,e,_]:=T.obj 0 _ st b hb;show Zh e
 have ae:tn 0 h₁:=T.keep 0 _ _ st λ b _ o e=>a8 b o e
 have ai:C∉frs X.stack:=λ z=>by
  rcases Zk.mp (I.stkSub C z) with y | y
  .exact absurd I.lt (by rw [show X.env.locals=C from y.symm];show Nat.not_lt.mpr hC)
  .exact absurd y (I.nofs hC)
 have IB: ∀tk,Inv (gk X sc N' cl C s₂ H2 fp pins (iw X fp H2 s₂ E C)) [] (cap κ σ) H2 { s₂ with heap:=h₁,toks:=tk }:=λ tk=>(xG I f2 fl S hcap hcl1 hcl2 hC ac a8).blkIn
 have ax: ∀x c,cl.lookup x=some c->c<s₂.heap.objs.size:=λ x c hx=>by
  let#[v,o,e,_]:=I.cell x c (hcl1 x c hx);show Zh e
 have am: ∀p∈X.pn++pins,p.1<s₂.heap.objs.size:=λ p hp=>Zh (I.pin p hp).1
 have as: ∀ {H':Hp} {pl:List (Addr×Obj)},(∀b∈fp,H' b=none)->(∀p∈pl,p.1=D)-> ∀b∈fp,jq (gk X sc N' cl C s₂ H2 fp pins (iw X fp H2 s₂ E C)) pl H' b:=λ {H' pl} hn bl b hb=>by
  refine#[hn b hb,(O b (fl b hb)).1,λ z=> ?_, .inl hb,λ x c hx=>(f2 b hb).2.2.2.2.1 x c (hcl1 x c hx),λ p hp=> ?_]
  .rcases Zk.mp (I.stkSub b z) with z | z
   .exact (f2 b hb).2.1 z
   .exact (f2 b hb).2.2.1 z
  .rcases Zp.mp hp with z | z
   .exact (f2 b hb).2.2.2.2.2 p z
   .rw [bl p z];show Ne.symm (O b (fl b hb)).2
 have bb: ∀ {s':Shared} {σ':St} {H':Hp} {o:Obj},Inv (gk X sc N' cl C s₂ H2 fp pins (iw X fp H2 s₂ E C)) [] σ' H' s'->s'.heap.get? D=some o->H' D=none->(∀v,o.data≠ .cell v)->Inv (gk X sc N' cl C s₂ H2 fp pins (iw X fp H2 s₂ E C)) [(D,o)] σ' H' s':=λ {s' σ' H' o} I' e n d=>
  I'.pins_of λ p hp=>by
   rw [Za.mp hp];refine#[e,n,al,λ z=> ?_,d];have z':D<s₂.heap.objs.size:=by
    rcases Zk.mp (I.stkSub D z) with y | y
    .have y':D=X.env.locals:=y;rw [y'];show I.lt
    .exact absurd y (I.nofs hD)
   show absurd z' (Nat.not_lt.mpr hD)
 have ar : ∀ ad : Shared, ad = { s₂ with heap := h₁, toks := s₂.toks + ([] : List (Str × Value)).length } ->
   codeAny (model X.prog X.w) X.A (.compLoop (.ListComp elt [#[tg,iter,ifs,0]] sc pos) 0 (.ref it) (.ref D) (compEnvC sc cl C X.env)) (RR (.ref D) C) ad:=by
  rintro ad rfl;have a1: ∀e s,iw X fp H2 s₂ E C e s->notedBy (model X.prog X.w) X.A (compEnvC sc cl C X.env) (λ e s'=>RR (.ref D) C (.error e) s') e s:=by
   rintro e s ⟨x,cc,a0,B,H',rfl,a,nC,bC,m,hn⟩;change wpAny (model X.prog X.w) X.A (noteFrame (.ref x) (compEnvC sc cl C X.env)) _ _ s;rw [z9 (env:=X.env) (env':=compEnvC sc cl C X.env) rfl];have fr:X.A.frames=some (X.env::X.outer):=by rw [<- hst];show I.ok.frames
   have ha:jC B (X.env::X.outer) x cc a0 s.heap:=by rw [<- hst];show a.air
   refine sV fr hfr ha λ h' n up=>hRE D C _ _ hC ai #[x,cc,a0,B,H',rfl,a.step (by rw [hst];show n) up,nC,bC,m,up.ns hn]
  refine nJ (EE:=iw X fp H2 s₂ E C) (λ n s'=> ∃ (i:Nat) (ys:List V) (Y:List Value) (H':Hp),Inv (gk X sc N' cl C s₂ H2 fp pins (iw X fp H2 s₂ E C)) [] (cap κ σ) H' s'/\tn i s'.heap/\(∀b∈fp,H' b=none)/\
   s'.heap.get? D=some { cls:= .type "list",data:= .seq Y.toArray Y.length }/\Vals ys Y/\H' D=none/\ys.length<=sizeLine/\W i n ys H') a1 ?_ m0
   #[0,[],[],H2,IB _,ae,λ b hb=>(f2 b hb).1,a3, .nil,I.hok.fresh hD,Yr _,w0]
  rintro n s3 ⟨i,ys,Y,H3,I3,a2,be,d3,v3,n3,z3,w3⟩;have bc:=bb I3 d3 n3 (by intro v z;cases z);have ff:=as (pl:=[(D,({ cls:= .type "list",data:= .seq Y.toArray Y.length }:Obj))]) be (λ p hp=>by rw [Za.mp hp]);rcases turn i n ys H3 w3 with ⟨stop,qn⟩ | ⟨go,hlt,N,hN,step⟩
  .refine aW (T.done (gk X sc N' cl C s₂ H2 fp pins (iw X fp H2 s₂ E C)) rfl rfl rfl hc i _ s3 (cap κ σ) H3 _ bc ff a2 stop) λ r s4 ⟨hr,I4⟩=> ?_
   subst hr;change RR (.ref D) C (.ok .next) s4;let#[dD,nD,_]:=I4.pin (D,_) (Zw _ Zt);have nC:H3 C=none:=I4.free;have u4:=I4.base;have bq:HOk X.prog X.w (upd H3 D (.lst ys)) s4.heap:=HOk.track I4.hok nD #[z3,Y,Y.length,v3,dD];have un:Un (frs X.stack) fp H2 (upd H3 D (.lst ys)) s₂.heap s4.heap:=
    ⟨u4.keep,u4.slot,λ b o q n hx=>by rw [aq (O b (Zh q)).2];show u4.free b o q n hx,u4.there,
     λ b xs q=>by rw [aq (aF (u4.tups b xs q) nD)];show u4.tups b xs q,
     λ b o x q=>by rw [aq (aF (u4.frzs b o x q) nD)];show u4.frzs b o x q,
     λ b ps q=>by
      let#[m1,e1]:=u4.tbls b ps q;show⟨m1,by rw [aq (aF e1 nD)];show e1⟩⟩
   have IX:Inv X pins σ (upd H3 D (.lst ys)) s4:=I.call' (by show I4.os) un bq I4.bare λ b hb=>#[(f2 b hb).2.2.2.1,(f2 b hb).2.1,(f2 b hb).2.2.2.2]
   let#[m4,bo,_]:=I4.loc;refine hRR D C _ s4 #[IX,#[m4,bo],by rw [aq (Ne.symm al)];show nC,Ne.symm (O _ I.lt).1,I.nofs hC,Yl I.sz hC,λ x c hx=> ?_,λ p hp=>(O _ (am p hp)).1] (qn D nD);let#[v,o,e,_]:=I.cell x c hx;show(O c (Zh e)).1
  .refine aW (T.item (gk X sc N' cl C s₂ H2 fp pins (iw X fp H2 s₂ E C)) rfl rfl rfl hc i _ s3 (cap κ σ) H3 _ bc ff a2 go) λ r s4 ⟨u,hr,h4⟩=> ?_
   subst hr;refine aW h4 λ _ s5 ⟨x,H5,I5,r5,y5,ay,bp⟩=> ?_
   have bd:=as (pl:=[(D,({ cls:= .type "list",data:= .seq Y.toArray Y.length }:Obj))]) bp (λ p hp=>by rw [Za.mp hp]);have bi:=I5.pinned bd (T.obj _ _ ay);refine aW (hg C ai _ s5 (cap κ σ) H5 x u _ bi r5 (step x H5 y5)) λ _ s6 ⟨af,H6,I6,ag,q6⟩=> ?_
   refine aW (hi C ai _ s6 af H6 _ I6 q6) λ ok s7 ⟨H7,I7,q7⟩=> ?_
   have keep: ∀ {a7:St} {H8:Hp} {s8:Shared},Inv (gk X sc N' cl C s₂ H2 fp pins (iw X fp H2 s₂ E C)) ([(D,({ cls:= .type "list",data:= .seq Y.toArray Y.length }:Obj))]++jr fp s5.heap) a7 H8 s8->
     tn (i+1) s8.heap/\(∀b∈fp,H8 b=none)/\s8.heap.get? D=some { cls:= .type "list",data:= .seq Y.toArray Y.length }/\H8 D=none:=λ {a7 H8 s8} I8=>by
    refine#[T.keep _ _ _ ay λ b hb o e=>(I8.pin (b,o) (Zw _ (Zw _ (cZ hb e)))).1,λ b hb=> ?_,?_]
    .obtain ⟨o,e,d⟩:=T.obj _ _ ay b hb;show(I8.pin (b,o) (Zw _ (Zw _ (cZ hb e)))).2.1
    .obtain ⟨e,n,_⟩:=I8.pin (D,_) (Zw _ (Ym _ Zt));show#[e,n]
   cases ok with
   | false=>
    have aw:N ys H7:=by simpa using q7
    let#[m',hm,w7]:=hN _ _ aw;let#[t8,f8,d8,n8]:=keep I7;change ∃m,m<n/\_;show#[m',hm,i+1,ys,Y,H7,(I7.pins_of (pins':=[]) (λ p hp=>nomatch hp)).weak ag.1.symm ag.2,t8,f8,d8,v3,n8,z3,w7]
   | true=>
    have aw:te af H7 λ y H4=>N (ys++[y]) H4:=by simpa using q7
    change wpAny _ _ (eval elt (compEnvC sc cl C X.env)) _ _ s7;refine aW (he C ai _ s7 af H7 _ I7 aw) λ v s8 ⟨y,H8,I8,r8,q8⟩=> ?_
    let#[m',hm,w8]:=hN _ _ q8;let#[t8,f8,d8,n8]:=keep I8;refine append_at (hsz:=by rw [Zy,<- v3.length];show z3) d8 λ h9 a4 bn=> ?_
    have I9:Inv (gk X sc N' cl C s₂ H2 fp pins (iw X fp H2 s₂ E C)) [] af H8 { s8 with heap:=h9,toks:=s8.toks }:=by
     refine(I8.pins_of (pins':=[]) (λ p hp=>nomatch hp)).turned (λ b o hb e=>a4.extBut b o hb e) n8 al (.inr hD) (λ x c hx=>(O c (ax x c hx)).2) λ p hp=> ?_
     have bg:p∈X.pn++pins:=by simpa using hp
     show(O _ (am p bg)).2
    refine#[m',hm,i+1,ys++[y],Y++[v],H8,I9.weak ag.1.symm ag.2,T.keep _ _ _ t8 λ b hb o e=>a4.extBut b o (O b (fl b hb)).2 e,f8,?_,Vals.append v3 (.cons r8 .nil),n8,?_,w8]
    .show h9.get? D=_;rw [bn];simp
    .rw [Zq,Yf];show hlt
 show codeAny_compStart_list (ar _ rfl) (T.self X.A 0 _ _ _ ae (ar _ rfl))
theorem LQ {wi:TI} (κ:List (Option Nat)) (N':List Str) (hl:R7 X E) (hst:X.stack=X.env::X.outer) (hfr:X.env.frame=some X.env.locals) (hc:X.calm=true) (hit:PI X tg iter wi) (S:CScope X.env.scope sc) (hcap:capOk κ N' X.N sc=true)
  (hg: ∀cl C s H fp pins xe,PG (gk X sc N' cl C s H fp pins xe) tg g) (hi: ∀cl C s H fp pins xe,uI (gk X sc N' cl C s H fp pins xe) ifs tc)
  (he: ∀cl C s H fp pins xe,eQ (iY X.prog X.w) (gk X sc N' cl C s H fp pins xe) E->PE (gk X sc N' cl C s H fp pins xe) elt te)
  (hs: ∀x,foldedSetIterable iter X.env x=pure x:=by intro _;rfl):PE X (.ListComp elt [#[tg,iter,ifs,0]] sc pos) (uf κ wi g tc te):=by
 intro pins s σ H Q I h;let#[cl,ab,ac,ad]:=pP (sc:=sc) (env:=X.env) λ y hy hf=>I.ok.has y.1 (S.frees y hy hf)
 rw [eval_ListComp];refine wpAny_comprehension_free (use:=none) rfl hs ab S.kind S.locs (aW (hit pins s σ H _ I h) λ v s1 h1=>aW h1 λ ah s2 h2=> ?_);let#[it,fp,tn,J,H2,e,I2,T,af,f2,W,#[m0,w0],ae]:=h2;subst e;refine BX (E:=E) hc I2 T af f2 S hcap ac ad (λ C _=>hg cl C s2 H2 fp pins _) (λ C _=>hi cl C s2 H2 fp pins _) (λ C Y=>he cl C s2 H2 fp pins _ (uV Y)) w0 ae hst hfr ?_ λ D C H' s1 l q=> ?_
 .rintro D C e s3 hC Y ⟨x,cc,a0,B,H',rfl,a,nC,bC,m,hn⟩;refine#[m,hn,λ h' O ag _=>uU (a.other hC nC Y bC O).air λ ai n up=> ?_];show hl pins σ H2 s2 _ fp x cc a0 _ H' I2 (λ b hb=>(f2 b hb).2.2.2.1) ((a.other hC nC Y bC O).step n up)
 .obtain ⟨m,hn⟩:=l.ns;show#[m,hn,λ h' O=>#[V.ref D,H',l.go O,rfl,q]]
end
end L2
end
section
namespace PySem
open PyProof.Rows
section
variable {prog:Program} {w:World} {A:Around} {E:Value->Shared->Prop} {s:Shared}
def Heap.IsRevT (h:Heap) (a t:Addr) (i:Int):Prop:= ∃o,h.get? a=some o/\o.cls= .type "reversed"/\o.data= .fields ([.ref t,rawInt i].toArray)
end
end PySem
namespace L2
open PySem PySem.Spec PyProof.Rows
def R8 (K:W.Frag) (a:Addr) (n:Nat):It where
 go:=λ i H=> ∃xs x,SqT K H a xs/\xs.length=n/\i<n/\xs[n-1-i]? =some x
 yld:=λ i H x H'=>H'=H/\ ∀ys,SqT K H a ys->ys[n-1-i]? =some x
 stop:=λ i _=>i=n
def Wr (K:W.Frag) (ta:TA):TI:=λ σ H R=>ta σ H λ vs H1=> ∃a xs,vs=[.ref a]/\SqT K H1 a xs/\R (R8 K a xs.length) H1
end L2
end
section
namespace PySem
open Sem (wp)
open AutoSeq1 (wpAny_loadPart')
abbrev sW (i:Int) (t:Tok):List (Str×Value):=[(Str.ofString "start", .int i t)]
end PySem
namespace L2
open PySem PySem.Spec PyProof.Rows
variable {k:Nat} {ta:TA} {M:Model} {w:World} {A:Around} {T:String} {a b:Expr} {fp:List Addr} {i1 i2 z:Addr} {prog:Program} {elts:List Expr} {p pos tpos:Pos} {ys:Array Value} {kws:List Keyword} {Pv:Nat->Value->Prop} {pins:List (Addr×Obj)} {E Q:Value->Shared->Prop}
theorem uW {P:Program} {it:Addr} {n:Nat} {St:Nat->Heap->Prop} (D:Draws P w A it fp n Pv St) (o:Nat):
  Draws P w A it fp (n+o) (λ i=>Pv (i-o)) (λ i h=>o<=i/\St (i-o) h) where
 live:=λ i h st=>D.live _ h st.2
 frame:=λ i h h' st W=>#[st.1,D.frame _ h h' st.2 W]
 item:=λ i s Q E hi st hQ=>D.item (i-o) s Q E () st.2 λ x h' Y p O sb=>hQ x h' Y p #[(),by rw [show i+1-o=i-o+1 by rfl'];show O] sb
 done:=λ s Q E st hE=>D.done s Q E (by have:=st.2;rwa [Nat.add_sub_cancel] at this) hE
def Ws (K:W.Frag) (a:Addr) (o:Nat):It:=
 ⟨λ i H=> ∃xs x,SqL K H a xs/\xs[i]? =some x,
  λ i H v H'=> ∃p x,H p=none/\v= .ref p/\H'=upd H p (.tup [.int ((i+o:Nat):Int),x])/\ ∀xs,SqL K H a xs->xs[i]? =some x,
  λ i H=> ∃xs,SqL K H a xs/\xs.length=i⟩
structure EnSf (e it a:Addr) (o i:Nat) (h:Heap):Prop where
 he: ∃old,IsEnum h e it ((i+o:Nat):Int) old
 h1:h.IsListIter it a i
theorem HN {env:Env} {s:Shared} {e:Expr}
  (h:wpAny M A (spliced (backTo pos (starEach [e] env))) (λ vs s1=>wpAny M A (evalAll ((backToKw pos (keywordEach kws env)).map (·.2))) (λ ks O=>wpAny M A (call (.type T) vs (((backToKw pos (keywordEach kws env)).filterMap (·.1)).zip ks)) Q E O) E s1) E s)
  (he:backTo pos (starEach [e] env)=(false,eval e env)::backTo pos (starEach [] env)) (hp:(backTo pos (starEach [e] env)).any (·.1)=false)
  (hall:(backToKw pos (keywordEach kws env)).all (·.1.isSome)=true) (hkw:(backToKw pos (keywordEach kws env)).any (·.1.isNone)=false):
  wpAny M A (callWith pos (.type T) [] (backTo pos (starEach [e] env)) (backToKw pos (keywordEach kws env))) Q E s:=by
 have h2:wpAny M A (evalArgs (.type T) true (backTo pos (starEach [e] env)) (backToKw pos (keywordEach kws env))) (λ a s1=>wpAny M A (call (.type T) ([]++a.pos) a.kw) Q E s1) E s:=by
  rw [he] at h ⊢;show evalArgs_kwB hall h
 unfold callWith;refine Qb (Yp (aW h2 λ a s1 Y=>Qb (wpAny_standAt ?_)));simp only [hp,hkw,Bool.or_false];show Qb (Zc (Qb (aW Y λ r O W=>Qb (Yp (wpAny_point (Zc W))))))
def Vj (K:W.Frag) (ta tk:TA):TI:=λ σ H R=>ta σ H λ vs H1=>tk σ H1 λ ks H2=> ∃a xs o,vs=[.ref a]/\ks=[.int ((o:Nat):Int)]/\o<=1000000000/\SqL K H2 a xs/\R (Ws K a o) H2
def Xh (r:V->V->Hp->VK->Prop) (ta tk:TA):TE:=λ σ H Q=>ta σ H λ vs H1=>tk σ H1 λ ks H2=> ∃x y,vs=[x]/\ks=[y]/\r x y H2 Q
theorem qp (l1 l2:Addr) (xs ys:Array Value):
  Meets (Builtin.«zip.__new__» #[[.type "zip", .ref l1, .ref l2],[]]) (λ _ R s=>s.heap.IsTuple l1 xs/\s.heap.IsTuple l2 ys/\
   R (.ok (.ret (.ref (V0 s.heap (mF l1) (mF l2)).objs.size))) { s with heap:=Qx s.heap (mF l1) (mF l2) }):=
 .of_wp λ prog w A R s h=>by
  let#[Y,g,d,O,W]:=s;let#[k1,k2,h]:=h;have ab:=sub_zip;have e1:Heap.IsTuple (Shared.heap ⟨Y,g,d,O,W⟩) l1 xs:=k1;have e2:Heap.IsTuple (Shared.heap ⟨Y.push (mF l1),g,d,O,W⟩) l2 ys:=Heap.IsTuple.push k2 _
  wp_walk using wpAny_pyIter_tuple e1,wpAny_pyIter_tuple e2
  show#[_,rfl,h]
theorem sX {s:Shared} {l1 l2:Addr} {xs:Array Value} (k1:s.heap.IsTuple l1 xs) (k2:s.heap.IsTuple l2 ys)
  (h: ∀h',IsZip h' (s.heap.objs.size+4) (s.heap.objs.size+2) (s.heap.objs.size+3) .none->IsPair h' (s.heap.objs.size+2) (.ref s.heap.objs.size) (.ref (s.heap.objs.size+1))->
   IsPair h' (s.heap.objs.size+3) .none .none->h'.IsTupleIter s.heap.objs.size l1 0->h'.IsTupleIter (s.heap.objs.size+1) l2 0->
   (∀c o,s.heap.get? c=some o->h'.get? c=some o)->Q (.ref (s.heap.objs.size+4)) { s with heap:=h' }):
  wpAny (model prog w) A (call (.type "zip") [.ref l1, .ref l2]) Q E s:=by
 refine callType_new F.called_zip (by decide) (F.typeCall_zip_2 _ _) (F.newCall_zip_2 _ _) (λ Y=>F.args_object_init_3 Y _ _) F.entry_zip_new (qp l1 l2 xs ys) #[k1,k2,?_];generalize hj1:mF l1=j1;generalize hj2:mF l2=j2;have f1:Obj.isFreed j1=false:=by rw [<- hj1];rfl
 have f2:Obj.isFreed j2=false:=by rw [<- hj2];rfl
 have z1:(UT s.heap j1).objs.size=s.heap.objs.size+1:=Heap.size_push ..;have O:(UV s.heap j1 j2).objs.size=s.heap.objs.size+2:=by rw [Heap.size_push,z1]
 have W:(UW s.heap j1 j2).objs.size=s.heap.objs.size+3:=by rw [Heap.size_push,O]
 have z4:(V0 s.heap j1 j2).objs.size=s.heap.objs.size+4:=by rw [Heap.size_push,W]
 have up: ∀ {c o} {h:Heap} {u:Obj},h.get? c=some o->(h.push u).get? c=some o:=λ e=>Zd _ e
 have g5:(Qx s.heap j1 j2).get? (V0 s.heap j1 j2).objs.size=some _:=Zo _ rfl;have g4:(Qx s.heap j1 j2).get? (UW s.heap j1 j2).objs.size=some _:=up (Zo _ rfl);have g3:(Qx s.heap j1 j2).get? (UV s.heap j1 j2).objs.size=some _:=up (up (Zo _ rfl));have g2:(Qx s.heap j1 j2).get? (UT s.heap j1).objs.size=some j2:=up (up (up (Zo _ f2)));have g1:(Qx s.heap j1 j2).get? s.heap.objs.size=some j1:=up (up (up (up (Zo _ f1))));change _/\_;rw [O,W,z4] at g5;rw [z1,O] at g3;rw [W] at g4;rw [z1] at g2;rw [z4];show#[#[_,g5,rfl],h _ g5 g3 g4 #[_,g1,by subst hj1;rfl,by subst hj1;rfl] #[_,g2,by subst hj2;rfl,by subst hj2;rfl] λ c o x=>up (up (up (up (up x))))]
def LR (K:W.Frag) (a b:Addr):It:=
 ⟨λ i H=> ∃xs ys x y,SqT K H a xs/\SqT K H b ys/\xs[i]? =some x/\ys[i]? =some y,
  λ i H v H'=> ∃p x y,H p=none/\v= .ref p/\H'=upd H p (.tup [x,y])/\(∀xs,SqT K H a xs->xs[i]? =some x)/\ ∀ys,SqT K H b ys->ys[i]? =some y,
  λ i H=> ∃xs ys,SqT K H a xs/\SqT K H b ys/\(xs.length<=i\/ys.length<=i)⟩
structure ZipStU (z TI TO i1 i2 a b:Addr) (i:Nat) (h:Heap):Prop where
 hz:IsZip h z TI TO .none
 hTI:IsPair h TI (.ref i1) (.ref i2)
 hTO: ∃u v,IsPair h TO u v
 h1:h.IsTupleIter i1 a i
 h2:h.IsTupleIter i2 b i
 aTO:a≠TO
 bTO:b≠TO
theorem mK {X:Cx} {σ:St} {H:Hp} {s:Shared} {a b TI TO:Addr} {i:Nat} {xs ys:List V} (D:ZipNe z TI TO i1 i2) (I:Inv X pins σ H s) (hxs:SqT X.K H a xs) (hys:SqT X.K H b ys) (st:ZipStU z TI TO i1 i2 a b i s.heap):ZipApart z TI TO i1 i2 a b:=by
 let#[hz,ac,#[u0,v0,ad],#[o1,e1,c1,_],#[o2,e2,c2,_],W,Y]:=st;let#[ae,rv,#[oa,ea,ca,_],_]:=I.tuple hxs;let#[ab,af,#[ob,eb,O,_],_]:=I.tuple hys;show⟨D.TIz,D.TOz,D.i1z,D.i2z,D.TITO,D.TIi1,D.TIi2,D.TOi1,D.TOi2,D.i12,
  jB ea hz (by rw [ca];change Value.type "tuple"≠Value.type "zip";decide),W,jB ea e1 (by rw [ca,c1];decide),jB ea e2 (by rw [ca,c2];decide),
  jB eb hz (by rw [O];change Value.type "tuple"≠Value.type "zip";decide),Y,jB eb e1 (by rw [O,c1];decide),jB eb e2 (by rw [O,c2];decide)⟩
theorem zc {P:Program} {K:W.Frag} {TI TO:Addr} (a b:Addr) (D:ZipNe z TI TO i1 i2):
  Turn P w K (.Tuple elts k tpos) (LR K a b) [z,TI,TO,i1,i2] z (ZipStU z TI TO i1 i2 a b) where
 mem:=by simp
 obj:=λ i h st c hc=>by
  let#[hz,Y,#[u,v,ac],#[o1,e1,c1,d1],#[o2,e2,c2,d2],_,_]:=st;simp only [Zk,Yn,or_false] at hc;rcases hc with rfl | rfl | rfl | rfl | rfl
  .exact #[_,hz,λ v z=>by cases z]
  .exact #[_,Y,λ v z=>by cases z]
  .exact #[_,ac,λ v z=>by cases z]
  .exact #[o1,e1,λ v z=>by rw [d1] at z;cases z]
  .exact #[o2,e2,λ v z=>by rw [d2] at z;cases z]
 keep:=λ i h h' st kk=>by
  let#[hz,Y,#[u,v,ac],h1,h2,al,ai]:=st;show#[kk z (by simp) _ hz,kk TI (by simp) _ Y,#[u,v,kk TO (by simp) _ ac],h1.at λ o e=>kk i1 (by simp) o e,h2.at λ o e=>kk i2 (by simp) o e,al,ai]
 item:=by
  intro X hP hw hK hc i ah s σ H E I hf st hg;subst hP hw hK;let#[xs,ys,x,y,af,ae,hx,hy]:=hg;have DA:=mK D I af ae st;let#[ap,rv,p,_]:=I.tuple af;let#[ag,am,p2,_]:=I.tuple ae;let#[u,hu,ru]:=rv.get hx;let#[v,hv,aw]:=am.get hy;let#[hz,Y,#[u0,v0,ac],h1,h2,al,ai]:=id st;refine z7 DA (kO DA.l1i1) (kO DA.l2i2) hz Y ac #[h1,(show s.heap.IsTuple a ap.toArray from p)] #[h2,(show s.heap.IsTuple b ag.toArray from p2)] (x:=u) (y:=v) (by simpa using hu) (by simpa using hv) λ h' a1 a2 a3 a4 a5 a7=> ?_
  refine#[_,rfl,wpAny_letOwnedTupleGo_zip a1 λ ad b1 hs=> ?_];have hT:s.heap.objs.size≠z:=Nat.ne_of_gt (Zh hz);have kk: ∀c o,c∉[z,TI,TO,i1,i2]->s.heap.get? c=some o->ad.get? c=some o:=λ c o O e=>by
   simp only [Zk,Yn,or_false,not_or] at O;show hs.extBut _ _ O.1 (a7 c o O.1 O.2.2.1 O.2.2.2.1 O.2.2.2.2 e)
  have I1:Inv X ah σ H { s with heap:=ad,toks:=s.toks }:=I.turnedAll kk hf;have ab:H s.heap.objs.size=none:=I.hok.fresh (Zm _);have e5:ad.get? s.heap.objs.size=some { cls:= .type "tuple",data:= .seq ([u,v].toArray) }:=hs.extBut _ _ hT a5;have as:IsPair ad TI (.ref i1) (.ref i2):=hs.extBut _ _ D.TIz (a7 _ _ D.TIz D.TITO D.TIi1 D.TIi2 Y);have un:Un (frs X.stack) [z,TI,TO,i1,i2] H (upd H s.heap.objs.size (.tup [x,y])) s.heap ad:=
   ⟨λ b o q _ _ hx=>kk b o hx q,λ b o q _ _ hx=>⟨o.slots,kk b o hx q⟩,λ b o q n _=>by rw [aq (Yb (Zh q))];show n,λ b o q hx=>⟨o,kk b o hx q⟩,
    λ b xs q=>by rw [aq (aF q ab)];show q,λ b o x q=>by rw [aq (aF q ab)];show q,λ b ps q=>⟨([].toArray),by rw [aq (aF q ab),q];simp⟩⟩
  have ax:HOk X.prog X.w (upd H s.heap.objs.size (.tup [x,y])) ad:=HOk.track I1.hok ab #[by change 2<=sizeLine;decide,[u,v], .cons ru (.cons aw .nil),_,e5,rfl,_,rfl];have I2:Inv X ah σ (upd H s.heap.objs.size (.tup [x,y])) { s with heap:=ad }:=I.call' (s':={ s with heap:=ad }) rfl un ax I.bare λ c O=>⟨(hf c O).2.2.2.1,(hf c O).2.1,(hf c O).2.2.2.2⟩
  refine#[.ref s.heap.objs.size,_,I2,rfl,#[_,x,y,ab,rfl,rfl,λ ay h=>by rw [I.tuple_inj h af];show hx,λ a8 h=>by rw [I.tuple_inj h ae];show hy],#[b1,as,#[u,v,hs.extBut _ _ D.TOz a2],a3.1.extBut hs.extBut D.i1z,a4.1.extBut hs.extBut D.i2z,al,ai],λ c O=> ?_];have av:c<s.heap.objs.size:=by
   let#[#[o1,e1,_],#[o2,e2,_]]:=(#[h1,h2]:_/\_);simp only [Zk,Yn,or_false] at O;rcases O with rfl | rfl | rfl | rfl | rfl
   .exact Zh hz
   .exact Zh Y
   .exact Zh ac
   .exact Zh e1
   .exact Zh e2
  rw [aq (Yb av)];show(hf c O).1
 done:=by
  intro X hP hw hK hc i ah s σ H E I hf st hg;subst hP hw hK;let#[xs,ys,af,ae,ar]:=hg;have DA:=mK D I af ae st;let#[ap,rv,p,_]:=I.tuple af;let#[ag,am,p2,_]:=I.tuple ae;let#[hz,Y,#[u0,v0,ac],h1,h2,al,ai]:=id st;have a9:=rv.length;have a6:=am.length;refine BP (I.ok.hd hc) DA (kO DA.l1i1) (kO DA.l2i2) hz Y ac #[h1,(show s.heap.IsTuple a ap.toArray from p)] #[h2,(show s.heap.IsTuple b ag.toArray from p2)] ?_ λ h' kk=> ?_
  .rcases ar with q | q
   .left;simp;rfl'
   .right;simp;rfl'
  .refine #[rfl,I.turnedAll (t':=s.toks) (λ c o O e=> ?_) hf];simp only [Zk,Yn,or_false,not_or] at O;show kk c o O.1 O.2.2.1 O.2.2.2.1 O.2.2.2.2 e
 self:=λ _ _ _ _ _ st h=>wpAny_pyIter_zip st.hz h
def xQ (K:W.Frag) (ta:TA):TI:=λ σ H R=>ta σ H λ vs H1=> ∃a b xs ys,vs=[.ref a, .ref b]/\SqT K H1 a xs/\SqT K H1 b ys/\R (LR K a b) H1
theorem HQ {X:Cx} (hg:Gl X "zip") (hc:X.calm=true) (hm:X.mg "zip"=none) (ha:PA X [a,b] ta) (hs:starEach [a,b] X.env=[(false,eval a X.env),(false,eval b X.env)]:=by rfl) (hs2:starEach [b] X.env=[(false,eval b X.env)]:=by rfl):
  PI X (.Tuple elts k tpos) (.Call (.Name "zip" p) [a,b] [] pos) (xQ X.K ta):=by
 intro W s σ H R I h;refine Call_ (fG I hg hm (show bootBuiltins "zip"=some (.type "zip") by ac_nf) (PyProof.Rows.callWith_type1 (aW (ha pos W s σ H _ I h) λ us O ⟨vs,H1,I1,r1,q1⟩=> ?_) (by rw [hs,hs2]) (by rw [hs2];rfl)));let#[la,lb,xs,ys,e,ag,af,q]:=q1;subst e
 cases r1 with
 | cons r rr=>
  cases rr with
  | cons r' rr=>
   cases rr
   cases r
   cases r';let#[ah,rv,p1,_]:=I1.tuple ag;let#[Y,ai,p2,_]:=I1.tuple af;have ae:la<O.heap.objs.size:=by let#[o,e,_]:=p1;show Zh e
   have ad:lb<O.heap.objs.size:=by let#[o,e,_]:=p2;show Zh e
   refine sX (show O.heap.IsTuple la ah.toArray from p1) (show O.heap.IsTuple lb Y.toArray from p2) λ h' z1 z2 z3 z4 z5 kk=> ?_
   refine wpAny_pyIter_zip z1 ?_;refine#[O.heap.objs.size+4,[O.heap.objs.size+4,O.heap.objs.size+2,O.heap.objs.size+3,O.heap.objs.size,O.heap.objs.size+1],_,_,H1,rfl,I1.kept (t':=O.toks) kk,zc la lb #[?_,?_,?_,?_,?_,?_,?_,?_,?_,?_],#[z1,z2,#[_,_,z3],z4,z5,Yb (Zx ae (Nat.le_add_right _ _)),Yb (Zx ad (Nat.le_add_right _ _))],λ c ac=> ?_,q];all_goals first
    | (change(_:Nat)≠_;rfl')
    | skip
   have ab:O.heap.objs.size<=c:=by
    simp only [Zk,Yn,or_false] at ac;rcases ac with rfl | rfl | rfl | rfl | rfl<;>(change(_:Nat)<=_;rfl')
   show I1.fpOk ab (I1.hok.fresh ab)
theorem BZ {X:Cx} (K:W.Frag) (hK:X.K=K) (hg:Gl X "zip") (hc:X.calm=true) (hm:X.mg "zip"=none) (ha:PA X [a,b] ta) (hs:starEach [a,b] X.env=[(false,eval a X.env),(false,eval b X.env)]:=by rfl) (hs2:starEach [b] X.env=[(false,eval b X.env)]:=by rfl):
  PI X (.Tuple elts k tpos) (.Call (.Name "zip" p) [a,b] [] pos) (xQ K ta):=by subst hK;show HQ hg hc hm ha hs hs2
def Wt (te:TE):TE:=λ σ H Q=>te σ H λ x H1=> ∃n:Nat,x= .int (n:Int)/\n<=1000000/\ ∀p,H1 p=none->Q (.ref p) (upd H1 p (.tup ((List.range n).map λ i:Nat=>V.int (i:Int))))
end L2
end
section
namespace HT
open PySem PySem.Spec PyProof.Rows
variable {w:World} {A:Around} {prog:Program} {items:Array Value} {E Q:Value->Shared->Prop}
theorem iy {s:Shared} {t sl:Addr} {vl vu:Value} {lo hi:Option Int} (ht:IsTup s.heap t items) (hs:s.heap.IsSliceOf sl vl vu .none) (pl:IsPart vl lo) (pu:IsPart vu hi)
  (h0:cX items.size 0 lo=0) (h1:cX items.size items.size hi=items.size) (h:Q (.ref t) s):wpAny (model prog w) A (getItem (.ref t) (.ref sl)) Q E s:=by
 let#[os,W,O,ab]:=id hs;have Y:s.TypeIs (.ref sl) "slice":=#[os,W,O];unfold getItem;try with_reducible refine Yp ?_
 first | refine Qb (Zc ?_) | skip
 refine Qb (wpAny_sequenceKey ht.typeIs (by decide) ?_);refine Qb (wpAny_callSpecial?_slot (name:=Str.ofString "__getitem__") ht.typeIs PyProof.Rows.slot_tuple_getitem (Yo PyProof.Rows.slot_tuple_getitem ht.typeIs entry_tuple_getitem ?_ (args_tuple_getitem _ _)));change wpAny _ _ (Builtin.Tuple.tupleItemsOf (.ref t) >>= _) _ _ s;refine Qb (tupleItemsOf_ ht (Qb (wpAny_typeOf Y ?_)));rw [if_pos (by decide)];refine Qb (eZ hs pl pu ?_);change wpAny _ _ (if (((cX items.size 0 lo:Nat):Int)==0&&(1:Int)==1&&(cX items.size items.size hi-cX items.size 0 lo)==items.size)=true then _ else _) _ _ s;rw [if_pos (by rw [h0,h1];simp)];have hT:s.TypeIs (.ref t) "tuple":=ht.typeIs;refine Qb ?_;unfold Builtin.Tuple.tupleIsExact;refine Qb (wpAny_typeOf hT (Zc ?_));rw [if_pos (by decide)];show Qb (wpAny_rule (Zc #[_,rfl,Zc h]))
end HT
namespace L2
open PySem PySem.Spec PyProof.Rows
def sY (K:W.Frag):V->Option Int->Option Int->Hp->VK->Prop:=λ x lo hi H Q=> ∃a xs,x= .ref a/\SqT K H a xs/\ ∀p H',(p=a/\H'=H/\gh xs lo hi=xs\/H p=none/\H'=upd H p (.tup (gh xs lo hi)))->SqT K H' p (gh xs lo hi)->Q (.ref p) H'
theorem HR {X:Cx}:KZ X (sY X.K):=by
 intro W s σ H x v vl vu lo hi sl Q I rx hs pl pu h;let#[a,xs,rfl,hx,q]:=h;by_cases c:HT.cX xs.length 0 lo=0/\HT.cX xs.length xs.length hi=xs.length
 .cases rx;let#[Y,r,ht,hz]:=I.tuple hx;have O:Y.toArray.size=xs.length:=by rw [Zy];show r.length.symm
  refine#["tuple",_,PyProof.Rows.slot_tuple_getitem.lookup,ht.typeIs,?_];have e:gh xs lo hi=xs:=by
   unfold gh;rw [c.1,c.2,List.drop_zero,Nat.sub_zero,Yq]
  refine HT.iy ht hs pl pu (by rw [O];show c.1) (by rw [O];show c.2) #[.ref a,H,I,rfl,q a H (.inl #[rfl,rfl,e]) ?_];rw [e];show hx
 .exact La W s σ H (.ref a) v vl vu lo hi sl Q I rx hs pl pu #[a,xs,rfl,hx,c,λ p hp=>q p _ (.inr #[hp,rfl]) (SqT.of ao)]
theorem jg {X:Cx} (K:W.Frag) (hK:X.K=K):KZ X (sY K):=hK▸HR
end L2
end
section
namespace Sm
open PySem PyProof.Rows Sx
def R9:Bool->Keyed->Array Keyed->Nat->Nat->Nat->StateT SortSt Sem (Option Nat):=sortPriv%PySem.Builtin.gallop
def Vk:Nat->StateT SortSt Sem Unit:=sortPriv%PySem.Builtin.setMinGallop
def Sd (B:Keyed->Keyed->Bool) (l:List Keyed):Prop:=l.Pairwise λ x y=>B y x=false
def Sg (z st:SortSt):Prop:= ∃g,z=SortSt.mk' (kindOf st) (arrOf st) (pendingOf st) g (failedOf st)
structure Mg (B:Keyed->Keyed->Bool) (A1 A2 B1 B2 o:List Keyed):Prop where
 pm:o.Perm (A1++B1)
 sd:Sd B o
 le: ∀x∈o,∀y,y∈A2\/y∈B2->B y x=false
section
variable {α β γ τ:Type}
inductive Se (D:Array Keyed->Prop) (P:Nat->α->β->γ->Prop) (n:Nat):Option (Array Keyed)×α×β×γ×τ->Prop
 | dn {x:Array Keyed} {t:α×β×γ×τ} (h:D x):Se D P n (some x,t)
 | go {a:α} {b:β} {c:γ} {t:τ} (h:P n a b c):Se D P n (none,a,b,c,t)
inductive Sy (P:Nat->α->β->γ->Prop) (n:Nat):Option (Array Keyed)×α×β×γ×τ->Prop
 | go {a:α} {b:β} {c:γ} {t:τ} (h:P n a b c):Sy P n (none,a,b,c,t)
def Sr (D:Array Keyed->Prop) (P:Nat->α->β->γ->Prop) (n:Nat):ForInStep (Option (Array Keyed)×α×β×γ×τ)->Prop
 | .done c=>Se D P n c
 | .yield c=>Sy P n c
abbrev TF (α β γ:Type):=Nat->α->β->γ->Nat->Nat->StateT SortSt Sem (ForInStep (Option (Array Keyed)×α×β×γ×Nat×Nat))
abbrev TG (α β γ:Type):=α->β->γ->Nat->Nat->Nat->StateT SortSt Sem (ForInStep (Option (Array Keyed)×α×β×γ×Nat×Nat×Nat))
structure Gn (prog:Program) (w:World) (A:Around) (E:Value->Shared->Prop) (s:Shared) (st:SortSt) (D:Array Keyed->Prop) (P:Nat->α->β->γ->Prop) (tot:Nat) (F:TF α β γ) (G:TG α β γ):Prop where
 mo: ∀ {n m a b c},m<=n->P n a b c->P m a b c
 lt: ∀ {n a b c},P n a b c->n<tot
 f: ∀ {n a b c mg ac bc z},Sg z st->P n a b c->wpS (model prog w) A E s (F mg a b c ac bc) (λ r z'=>z'=z/\Sr D P (n+1) r) z
 g: ∀ {n a b c mg ac bc z},Sg z st->P n a b c->wpS (model prog w) A E s (G a b c mg ac bc) (λ r z'=>Sg z' st/\Sr D P (n+1) r) z
variable {prog:Program} {w:World} {A:Around} {E:Value->Shared->Prop} {s:Shared} {st:SortSt} {D:Array Keyed->Prop} {P:Nat->α->β->γ->Prop} {tot:Nat} {F:TF α β γ} {G:TG α β γ}
end
structure Ml (B:Keyed->Keyed->Bool) (L1 L2 A1 A2 B1 B2 o:List Keyed):Prop where
 e1:L1=A1++A2
 e2:L2=B1++B2
 mg:Mg B A1 A2 B1 B2 o
section
variable {prog:Program} {w:World} {A:Around} {E:Value->Shared->Prop} {s:Shared} {kd:SortKind} {a0:Array Keyed} {B:Keyed->Keyed->Bool} {st:SortSt} {L1 L2:List Keyed}
def Gd (B:Keyed->Keyed->Bool) (L1 L2:List Keyed) (r:Array Keyed):Prop:= ∃l:List Keyed,r=l.toArray/\l.Perm (L1++L2)/\Sd B l
inductive PL (B:Keyed->Keyed->Bool) (L1 L2:List Keyed) (n:Nat):Array Keyed->Nat->Nat->Prop
 | mk {A1 A2 B1 B2 o:List Keyed} (m:Ml B L1 L2 A1 A2 B1 B2 o) (h1:2<=A2.length) (h2:1<=B2.length) (h3:n+1<=A1.length+B1.length):PL B L1 L2 n o.toArray A1.length B1.length
end
abbrev HS:=ForInStep (Option (Array Keyed)×Nat×Nat×Array Keyed×Nat×Nat×Nat)
def H3 (a b o:Array Keyed) (p q mg ac k:Nat):StateT SortSt Sem HS:=do
 let u <- elem' a (p-1)
 if (p-1==0)=true then
  pure (.done (some (a.extract 0 (p-1)++b.extract 0 q++(o.push u).reverse),p-1,q,o.push u,mg,ac,k))
 else if (decide (ac<7)&&decide (k<7))=true then pure (.done (none,p-1,q,o.push u,mg,ac,k))
 else pure (.yield (none,p-1,q,o.push u,mg,ac,k))
def H2 (a b o:Array Keyed) (p q mg ac bc:Nat):StateT SortSt Sem HS:=do
 let u <- elem' b (q-1)
 if (q-1==1)=true then
  pure (.done (some (b.extract 0 (q-1)++a.extract 0 p++(o.push u).reverse),p,q-1,o.push u,mg,ac,bc))
 else do
  let v <- elem' a (p-1)
  let x <- R9 true v b 0 (q-1) (q-1-1)
  match x with
  | some f=>
   if q-1-f>0 then
    if (f==1)=true then
     pure (.done (some (b.extract 0 f++a.extract 0 p++(o.push u++(b.extract f (q-1)).reverse).reverse),p,f,o.push u++(b.extract f (q-1)).reverse,mg,ac,q-1-f))
    else if (f==0)=true then
     pure (.done (some (a.extract 0 p++b.extract 0 f++(o.push u++(b.extract f (q-1)).reverse).reverse),p,f,o.push u++(b.extract f (q-1)).reverse,mg,ac,q-1-f))
    else H3 a b (o.push u++(b.extract f (q-1)).reverse) p f mg ac (q-1-f)
   else H3 a b (o.push u) p (q-1) mg ac (q-1-f)
  | _=>pure (.done (some (a.extract 0 p++b.extract 0 (q-1)++(o.push u).reverse),p,q-1,o.push u,mg,ac,bc))
def H1 (a b o:Array Keyed) (p q mg ac bc:Nat):StateT SortSt Sem HS:=do
 Vk mg
 let u <- elem' b (q-1)
 let x <- R9 false u a 0 p (p-1)
 match x with
 | some f=>
  if p-f>0 then
   if (f==0)=true then
    pure (.done (some (a.extract 0 f++b.extract 0 q++(o++(a.extract f p).reverse).reverse),f,q,o++(a.extract f p).reverse,mg,p-f,bc))
   else H2 a b (o++(a.extract f p).reverse) f q mg (p-f) bc
  else H2 a b o p q mg (p-f) bc
 | _=>pure (.done (some (a.extract 0 p++b.extract 0 q++o.reverse),p,q,o,mg,ac,bc))
structure Mh (B:Keyed->Keyed->Bool) (L1 L2 A1 A2 B1 B2 o:List Keyed):Prop where
 e1:L1=A1++A2
 e2:L2=B1++B2
 pm:o.Perm (A2++B2)
 sd:Sd B o
 le: ∀x∈o,∀y,y∈A1\/y∈B1->B x y=false
section
variable {prog:Program} {w:World} {A:Around} {E:Value->Shared->Prop} {s:Shared} {kd:SortKind} {a0:Array Keyed} {B:Keyed->Keyed->Bool} {st:SortSt} {L1 L2:List Keyed}
inductive PH (B:Keyed->Keyed->Bool) (L1 L2:List Keyed) (n:Nat):Nat->Nat->Array Keyed->Prop
 | mk {A1 A2 B1 B2 o:List Keyed} (m:Mh B L1 L2 A1 A2 B1 B2 o) (h1:1<=A1.length) (h2:2<=B1.length) (h3:n+1<=A2.length+B2.length):PH B L1 L2 n A1.length B1.length o.reverse.toArray
end
end Sm
namespace Sm
open PySem PyProof.Rows
open Sx (Wk gt)
def gl (xs:Array Keyed) (lo i:Nat):Keyed:=gt xs (lo+i)
def Up (B:Keyed->Keyed->Bool) (xs:Array Keyed) (lo k:Nat):Prop:= ∀i j,i<=j->j<k->B (gl xs lo j) (gl xs lo i)=false
def Dn (B:Keyed->Keyed->Bool) (xs:Array Keyed) (lo k:Nat):Prop:= ∀i j,i<=j->j<k->B (gl xs lo i) (gl xs lo j)=false
def Eb (B:Keyed->Keyed->Bool) (xs:Array Keyed) (lo l k:Nat):Prop:= ∀i j,l<=i->i<k->l<=j->j<k->B (gl xs lo i) (gl xs lo j)=false
structure Bl (kd:SortKind) (a0 x0:Array Keyed) (lo:Nat) (pe:Array (Nat×Nat×Nat)) (st:SortSt):Prop where
 pm:(arrOf st).Perm a0
 kn:kindOf st=kd
 fl:failedOf st=none
 pe:pendingOf st=pe
 pf: ∀i,i<lo->(arrOf st)[i]? =x0[i]?
def Rn (B:Keyed->Keyed->Bool):Nat->List (Nat×Nat×Nat)->List Keyed->Prop
 | _,[],T=>T=[]
 | a,r::t,T=>r.1=a/\1<=r.2.1/\ ∃L T',T=L++T'/\L.length=r.2.1/\Sd B L/\Rn B (a+r.2.1) t T'
structure Jn (kd:SortKind) (a0:Array Keyed) (B:Keyed->Keyed->Bool) (st:SortSt) (T S:List Keyed):Prop where
 kn:kindOf st=kd
 fl:failedOf st=none
 pm:(arrOf st).Perm a0
 ar:arrOf st=(T++S).toArray
 rn:Rn B 0 (pendingOf st).toList T
end Sm
end
section
namespace L2
open PySem PySem.Spec PyProof.Rows
variable {n:Nat} {st:Stmt} {T f:Addr} {qual x:Str} {fd:FuncData} {ds:List Value} {sl:Array (Option Value)}
def Ra (td:TE):TE:=λ σ H Q=>td σ H λ x H1=> ∃ (a:Addr) (kvs:List (Str×V)),x= .ref a/\H1 a=some (.dK (kvs.map λ p=>(Sum.inr p.1,p.2)))/\kvs.length<100000/\ ∀r (zs:List (Addr×Str×V)) (H2:Hp),(zs.map (·.2)).Perm kvs->(zs.map (·.2.1)).Pairwise qg->H1 r=none->Same H1 H2->H2 r=some (.lst (zs.map λ z=>V.ref z.1))->(∀z∈zs,H2 z.1=some (.tup [.str z.2.1,z.2.2]))->Q (.ref r) H2
structure FunD (K:W.Frag) (x qual:Str) (st:Stmt) (f:Addr) (fd:FuncData) (T:Addr) (ds:List Value):Prop where
 ex: ∃ (oc:Value) (od:Option Addr) (kV doc pm:Value) (an:Option Addr) (cdv ct:Value) (osl:Array (Option Value)),
  fd=W.fnOf x qual (cg st) (bL st) (au st) (.ref T) kV doc pm an cdv ct/\K.lookup f=some #[oc,od, .func fd,osl]/\W.codeIn K cdv qual=true
 kp:W.keepIn K (.ref f)=true
 tp: ∃ (o:Obj) (n:Nat),K.lookup T=some o/\o.data= .seq ds.toArray n
section
variable {P:Program} {w:World} {K:W.Frag} {mg:Str->Option Value} {base:Heap}
theorem FunD.okX {N ps:List Str} {k:Nat} {sp:Sp} (F:FunD K x qual st f fd T ds) (S:FnScope N ps (au st)) (len: ∀vs H Q E,sp vs H Q E->vs.length=ps.length)
  (hb: ∀ (O:Value) (A:Around) (outer:List Env) (s:Shared) (H:Hp) (vs:List V) (Q:VK) (E:XK),Room k (A.deeper (envOfC qual (au st) s.heap.objs.size f O))->sp vs H Q E->
   ∃t,PSs (iu (iY P w) P w K mg base N qual (au st) f O A outer s H E) (bL st) t/\t { nx:=λ _ H'=>Q .non H',rt:=Q } (start N vs) H):FnOk P w K mg base (iY P w) (k+1) f fd ps sp:=by
 let#[oc,od,kV,ac,pm,an,O,ct,ab,rfl,lk,Y]:=F.ex;show Ab lk Y S len λ A outer s H vs Q E hr W=>hb O A outer s H vs Q E hr W
theorem FunD.binds {es:List Value} {ps:List Str} (F:FunD K x qual st f fd T ds)
  (h: ∀ (kV Y pm:Value) (an:Option Addr) (O ct:Value) (us:List Value),(us++es).length=ps.length-> ∃k:Option (Array Value)->Sem (List (Str×Value)),bindArgs (W.fnOf x qual (cg st) (bL st) (au st) (.ref T) kV Y pm an O ct) #[us,[]]=seqItems? (.ref T) >>= k/\k (some ds.toArray)=pure (ps.zip (us++es))):Binds K fd ps es:=by
 let#[oc,od,kV,Y,pm,an,O,ct,ab,rfl,lk,ac]:=F.ex;let#[o,n,lt,hd]:=F.tp;intro s us hK hl;let#[k,e1,e2]:=h kV Y pm an O ct us hl;show .of_defaults (T:=T) (o:=o) rfl (hK _ _ lt) hd e1 e2
theorem HW {oc tc:Value} {od an tdd:Option Addr} {osl tsl:Array (Option Value)} {kV doc pm cdv ct:Value} (l:K.lookup f=some #[oc,od, .func (W.fnOf x qual (cg st) (bL st) (au st) (.ref T) kV doc pm an cdv ct),osl])
  (c:W.codeIn K cdv qual=true) (k:W.keepIn K (.ref f)=true) (t:K.lookup T=some #[tc,tdd, .seq ds.toArray n,tsl]):FunD K x qual st f (W.fnOf x qual (cg st) (bL st) (au st) (.ref T) kV doc pm an cdv ct) T ds:=#[#[oc,od,kV,doc,pm,an,cdv,ct,osl,rfl,l,c],k,_,n,t,rfl]
end
structure CalD (P:Program) (w:World) (K:W.Frag) (mg:Str->Option Value) (base:Heap) (n:Nat) (x:Str) (ps:List Str) (dvs:List V) (sp:Sp):Prop where
 ex: ∃ (f:Addr) (fd:FuncData) (ds:List Value),FnOk P w K mg base Hm n f fd ps sp/\Binds K fd ps ds/\Vals dvs ds/\W.keepIn K (.ref f)=true/\mg x=some (.ref f)
structure CalXD (P:Program) (w:World) (K:W.Frag) (mg:Str->Option Value) (base:Heap) (n:Nat) (x:Str) (ps:List Str) (dvs:List V) (sp:Sp):Prop where
 ex: ∃ (f:Addr) (fd:FuncData) (ds:List Value),FnOk P w K mg base (iY P w) n f fd ps sp/\Binds K fd ps ds/\Vals dvs ds/\W.keepIn K (.ref f)=true/\mg x=some (.ref f)
section
variable {X:Cx} {n k:Nat} {x:Str} {ps:List Str} {dvs:List V} {sp:Sp} {p pos:Pos} {e:Expr} {es:List Expr} {t:TA} {E:XK}
theorem HX (c:CalD X.prog X.w X.K X.mg X.base n x ps dvs sp) (hr:Room k X.A) (hk:n<=k) (hg:Gl X x) (ha:PA X (e::es) t) (hdb:(x==("__debug__":Str))=false:=by decide)
  (he:starEach (e::es) X.env=(false,eval e X.env)::starEach es X.env:=by rfl) (hpl:(backTo pos (starEach es X.env)).any (·.1)=false:=by rfl):
  PE X (.Call (.Name x p) (e::es) [] pos) (aH sp dvs E0 t):=by
 let#[f,fd,ds,F,hb,O,W,Y]:=c.ex;show kE F (hr.mono hk) hg Y W hb O Jw ha hdb he hpl
theorem Ca (c:CalXD X.prog X.w X.K X.mg X.base n x ps dvs sp) (hr:Room k X.A) (hk:n<=k) (hg:Gl X x) (hx:eQ (iY X.prog X.w) X E) (ha:PA X (e::es) t) (hdb:(x==("__debug__":Str))=false:=by decide)
  (he:starEach (e::es) X.env=(false,eval e X.env)::starEach es X.env:=by rfl) (hpl:(backTo pos (starEach es X.env)).any (·.1)=false:=by rfl):
  PE X (.Call (.Name x p) (e::es) [] pos) (aH sp dvs E t):=by
 let#[f,fd,ds,F,hb,O,W,Y]:=c.ex;show kE F (hr.mono hk) hg Y W hb O hx ha hdb he hpl
end
def TupK (K:W.Frag) (a:Addr) (xs:List V):Prop:= ∃ (o:Obj) (its:Array Value) (n:Nat),K.lookup a=some o/\o.cls= .type "tuple"/\o.data= .seq its n/\its.size<=sizeLine/\Vals xs its.toList
theorem JG {K:W.Frag} {a:Addr} {od:Option Addr} {i:Int} {t:Tok} (l:K.lookup a=some #[.type "tuple",od, .seq ([.int i t].toArray) n,sl]):TupK K a [.int i]:=#[_,_,_,l,rfl,rfl,(by decide:1<=sizeLine), .cons #[t,rfl] .nil]
end L2
end
section
namespace PySem
open Sem (wp)
open AutoSeq1 (wpAny_loadPart')
variable {self:Value} {Q:Value->Shared->Prop}
abbrev HY (h:Heap) (x:Str) (u:Tok):Heap:=h.push { cls:= .type (strIterType x),data:= .fields ([.str x u, .int 0 0].toArray) }
abbrev Ia (h:Heap) (x:Str) (u:Tok) (i:Int):Heap:=(HY h x u).push { cls:= .type "enumerate",data:= .fields ([.none, .bool false, .ref h.objs.size,rawInt i, .none, .none].toArray) }
set_option maxHeartbeats 2000000 in
theorem mL (x:Str) (u:Tok) (i:Int) (t:Tok) (hf:Builtin.SmallTypes.fitsIndex i=true):
  Meets (Builtin.«enumerate.__new__» #[[.type "enumerate", .str x u],sW i t]) (λ _ R s=>R (.ok (.ret (.ref (HY s.heap x u).objs.size))) { s with heap:=Ia s.heap x u i }):=
 .of_wp λ prog w A R ⟨hp,g,d,W,Y⟩ h=>by
  have O:=sub_enumerate
  wp_walk
  refine wpAny_stack_any λ st=>Zc ?_
  split
  .rename_i c _ _ _ _ _
   cases (c==Value.type "enumerate")<;>(wp_walk using wpAny_pyIter_strU;show#[_,rfl,h])
  .wp_walk using wpAny_pyIter_strU;show#[_,rfl,h]
theorem Cd (x:Str) (u:Tok) (i:Int) (t:Tok):checkTypeCall "enumerate" #[[.str x u],sW i t]=pure Unit.unit:=by kernel_rfl
theorem Ce (x:Str) (u:Tok) (i:Int) (t:Tok):checkBuiltinCall "enumerate.__new__" #[[.type "enumerate", .str x u],sW i t]=pure Unit.unit:=by kernel_rfl
theorem Cg (o:Value) (x:Str) (u:Tok) (i:Int) (t:Tok):argsOk "object.__init__" #[[o, .str x u],sW i t]:=by unfold argsOk;kernel_rfl
theorem jZ (x:Str) (u:Tok) (i:Int) (t:Tok):Meets (Builtin.«object.__init__» #[[self, .str x u],sW i t]) (λ _ R s=>s.TypeIs self "enumerate"/\R (.ok (.ret .none)) s):=by
 have Y:=F.called_enumerate.init.lookup;have hm:=F.called_enumerate.made;have W:(some "enumerate.__new__" !=some "object.__new__")=true:=by decide
 refine Meets.of_wp λ prog w A R s ⟨hT,O⟩=> ?_
 repeat (any_goals (first | assumption | wp_step))
 show#[_,rfl,O]
section
variable {prog:Program} {w:World} {A:Around} {E:Value->Shared->Prop} {s:Shared}
theorem kh {x:Str} {u:Tok} {i:Int} {t:Tok} (hf:Builtin.SmallTypes.fitsIndex i=true)
  (h: ∀h',IsEnum h' (s.heap.objs.size+1) s.heap.objs.size i .none->h'.IsStrIter s.heap.objs.size (strIterType x) x u 0->(∀b o,s.heap.get? b=some o->h'.get? b=some o)->Q (.ref (s.heap.objs.size+1)) { s with heap:=h' }):
  wpAny (model prog w) A (call (.type "enumerate") [.str x u] (sW i t)) Q E s:=by
 have O:=F.called_enumerate;let#[c,tl,ac]:=O.mro;have ab:=O.made;have ad:=O.sub;refine wpAny_call (codeAny_of_tree ?_);change wpAny _ _ (callAny (.type "enumerate") _) _ _ _;refine Zc #[Code.quiet_builtin _ (by ac_nf),codeAny_builtin F.entry_type_call ?_];rw [Around.under_plain (weight_type_call_type "enumerate" [.str x u] (sW i t)) (units_type_call_type "enumerate" [.str x u] (sW i t))];have h1:=O.notType;have h2:=O.canCreate;have ag:=Cd x u i t;repeat (any_goals (first | assumption | wp_step))
 have hz:(HY s.heap x u).objs.size=s.heap.objs.size+1:=Heap.size_push ..;have Y:=Zo (HY s.heap x u) (o:={ cls:= .type "enumerate",data:= .fields ([.none, .bool false, .ref s.heap.objs.size,rawInt i, .none, .none].toArray) }) rfl;rw [hz] at Y;refine codeAny_mono (codeAny_call_builtin O.plain F.entry_enumerate_new (wpAny_of_eq (Ce x u i t) (mL x u i t hf prog w A.in1 (wants (λ o s1=>o= .ref (s.heap.objs.size+1)/\s1={ s with heap:=Ia s.heap x u i }) E) s (by change _/\_;rw [hz];show#[rfl,rfl])))) λ r s1 hr=> ?_
 cases r with
 | error e=>show hr
 | ok fl=>
  cases fl with
  | ret obj=>
   let#[rfl,rfl]:=hr;have hT:Shared.TypeIs { s with heap:=Ia s.heap x u i } (.ref (s.heap.objs.size+1)) "enumerate":=⟨_,Y,rfl⟩;have ae:=O.init.lookup;have af:=O.init.bind (.ref (s.heap.objs.size+1));repeat (any_goals (first | assumption | wp_step))
   refine codeAny_mono (codeAny_call_builtin O.init.plain F.entry_object_init (O.init.check _ _ _ _ _ _ _ _ hT (Cg _ x u i t) (jZ x u i t prog w A.in1 (wants (λ r s2=>r= .none/\s2={ s with heap:=Ia s.heap x u i }) E) _ ⟨hT,rfl,rfl⟩))) λ r2 s2 W=> ?_
   cases r2 with
   | error e=>show W
   | ok fl2=>
    cases fl2 with
    | ret r=>
     let#[rfl,rfl]:=W;have hq:=h _ Y #[_,Zd _ (Zo _ rfl),rfl,rfl] λ b o y=>Zd _ (Zd _ y)
     repeat (any_goals (first | assumption | wp_step))
    | _=>show W.elim
  | _=>show hr.elim
end
end PySem
namespace L2
open PySem PySem.Spec PyProof.Rows
variable {k:Nat} {w:World} {A:Around} {pos tpos:Pos} {prog:Program} {elts:List Expr} {kws:List Keyword}
def M3 (x:Str) (o:Nat):It:=
 ⟨λ i _=>i<x.cps.size,
  λ i H v H'=> ∃p c,H p=none/\v= .ref p/\H'=upd H p (.tup [.int ((i+o:Nat):Int), .str #[([c].toArray)]])/\x.cps[i]? =some c,
  λ i _=>i=x.cps.size⟩
structure EnSs (e it:Addr) (x:Str) (u:Tok) (o i:Nat) (h:Heap):Prop where
 he: ∃old,IsEnum h e it ((i+o:Nat):Int) old
 h1:h.IsStrIter it (strIterType x) x u i
theorem oU (hh:A.handled=none) (it:Addr) (x:Str) (t:Tok):Draws prog w A it [it] x.cps.size (λ i v=> ∃c u,x.cps[i]? =some c/\v= .str #[([c].toArray)] u) (λ i h=>h.IsStrIter it (strIterType x) x t i):=by
 unfold strIterType;split
 .exact Draws.strAscii hh it x t
 .exact Draws.strWide hh it x t
theorem sZ {P:Program} {K:W.Frag} {e it:Addr} (x:Str) (u:Tok) (o:Nat) (D:e≠it):
  Turn P w K (.Tuple elts k tpos) (M3 x o) [e,it] e (EnSs e it x u o) where
 mem:=by simp
 obj:=λ i h st c hc=>by
  let#[#[ad,he],#[o1,e1,c1,d1]]:=st;simp only [Zk,Yn,or_false] at hc;rcases hc with rfl | rfl
  .exact #[_,he,λ v z=>by cases z]
  .exact #[o1,e1,λ v z=>by rw [d1] at z;cases z]
 keep:=λ i h h' st kk=>by
  let#[#[ad,he],h1]:=st;let#[o1,e1,r1]:=h1;show#[#[ad,kk e (by simp) _ he],o1,kk it (by simp) _ e1,r1]
 item:=by
  intro X hP hw hK hc i ac s σ H E I hf st hg;subst hP hw hK;let#[#[ad,he],h1]:=id st;have ag:i<x.cps.size:=hg;refine wpAny_pyNext_enum_itemD (uW (oU (A:=X.A.in1) (I.ok.hd hc) it x u) o) he #[Nat.le_add_left _ _,by rw [Nat.add_sub_cancel];show h1] () D (by simp [D]) λ x1 h' ae af a1 ⟨_,a2⟩ a3 a4 a5=> ?_
  rw [Nat.add_sub_cancel] at af;rw [show i+o+1-o=i+1 by rfl'] at a2;let#[cc,uu,ah,rfl]:=af;refine#[_,rfl,wpAny_letOwnedTupleGo_enum a1 λ ab b1 hs=> ?_];have hT:s.heap.objs.size≠e:=Nat.ne_of_gt (Zh he);have kk: ∀c o,c∉[e,it]->s.heap.get? c=some o->ab.get? c=some o:=λ c o O q=>by
   simp only [Zk,Yn,or_false,not_or] at O;show hs.extBut _ _ O.1 (a5 c o O.1 O.2 q)
  have I1:Inv X ac σ H { s with heap:=ab,toks:=ae+1 }:=I.turnedAll kk hf;have Y:H s.heap.objs.size=none:=I.hok.fresh (Zm _);have e5:ab.get? s.heap.objs.size=some { cls:= .type "tuple",data:= .seq ([.int ((i+o:Nat):Int) ae, .str #[([cc].toArray)] uu].toArray) }:=hs.extBut _ _ hT a3;have un:Un (frs X.stack) [e,it] H (upd H s.heap.objs.size (.tup [.int ((i+o:Nat):Int), .str ⟨([cc].toArray)⟩])) s.heap ab:=
   ⟨λ b o q _ _ hx=>kk b o hx q,λ b o q _ _ hx=>⟨o.slots,kk b o hx q⟩,λ b o q n _=>by rw [aq (Yb (Zh q))];show n,λ b o q hx=>⟨o,kk b o hx q⟩,
    λ b xs q=>by rw [aq (aF q Y)];show q,λ b o y q=>by rw [aq (aF q Y)];show q,λ b ps q=>⟨([].toArray),by rw [aq (aF q Y),q];simp⟩⟩
  have ai:HOk X.prog X.w (upd H s.heap.objs.size (.tup [.int ((i+o:Nat):Int), .str ⟨([cc].toArray)⟩])) ab:=HOk.track I1.hok Y #[by change 2<=sizeLine;decide,[.int ((i+o:Nat):Int) ae, .str #[([cc].toArray)] uu], .cons #[_,rfl] (.cons #[_,rfl] .nil),_,e5,rfl,_,rfl];have I2:Inv X ac σ (upd H s.heap.objs.size (.tup [.int ((i+o:Nat):Int), .str ⟨([cc].toArray)⟩])) { s with heap:=ab,toks:=ae+1 }:=I.call' (s':={ s with heap:=ab,toks:=ae+1 }) rfl un ai I.bare λ c O=>⟨(hf c O).2.2.2.1,(hf c O).2.1,(hf c O).2.2.2.2⟩
  refine#[.ref s.heap.objs.size,_,I2,rfl,#[_,cc,Y,rfl,rfl,ah],#[#[_,by have:=b1;rwa [show(((i+o:Nat):Int)+1)=((i+1+o:Nat):Int) by rfl'] at this],a2.extBut hs.extBut (Ne.symm D)],λ c O=> ?_];have al:c<s.heap.objs.size:=by
   let#[o1,e1,_]:=h1;simp only [Zk,Yn,or_false] at O;rcases O with rfl | rfl
   .exact Zh he
   .exact Zh e1
  rw [aq (Yb al)];show(hf c O).1
 done:=by
  intro X hP hw hK hc i ac s σ H E I hf st hg;subst hP hw hK;let#[#[ad,he],h1]:=id st;have ag:i=x.cps.size:=hg;refine wpAny_pyNext_enum_endD (oU (A:=X.A.in1) (I.ok.hd hc) it x u) he (by rw [<- ag];show h1) λ h' kk=> ?_
  refine#[rfl,I.turnedAll (t':=s.toks) (λ c o O q=> ?_) hf];simp only [Zk,Yn,or_false,not_or] at O;show kk c o O.2 q
 self:=λ _ _ _ _ _ st h=>by
  let#[ad,he]:=st.he;show wpAny_pyIter_enum he h
def uX (ta tk:TA):TI:=λ σ H R=>ta σ H λ vs H1=>tk σ H1 λ ks H2=> ∃x o,vs=[.str x]/\ks=[.int ((o:Nat):Int)]/\o<=1000000000/\R (M3 x o) H2
theorem Ci {X:Cx} {a:Expr} {ta tk:TA} {p:Pos} (hg:Gl X "enumerate") (hc:X.calm=true) (hm:X.mg "enumerate"=none) (ha:PA X [a] ta) (hkw:PK X kws tk)
  (he:backTo pos (starEach [a] X.env)=(false,eval a X.env)::backTo pos (starEach [] X.env):=by rfl) (hp:(backTo pos (starEach [a] X.env)).any (·.1)=false:=by rfl)
  (hks:(backToKw pos (keywordEach kws X.env)).filterMap (·.1)=[Str.ofString "start"]:=by rfl)
  (hall:(backToKw pos (keywordEach kws X.env)).all (·.1.isSome)=true:=by rfl) (hkn:(backToKw pos (keywordEach kws X.env)).any (·.1.isNone)=false:=by rfl):
  PI X (.Tuple elts k tpos) (.Call (.Name "enumerate" p) [a] kws pos) (uX ta tk):=by
 intro O s σ H R I h;refine wpAny_Call_Name_kw (fG I hg hm (show bootBuiltins "enumerate"=some (.type "enumerate") by ac_nf) (HN (aW (ha pos O s σ H _ I h) λ us s1 ⟨vs,H1,I1,r1,q1⟩=>aW (hkw pos O s1 σ H1 _ I1 q1) λ ws s2 ⟨zs,H2,I2,rz,q2⟩=> ?_) he hp hall hkn));rw [hks];let#[x,o,rfl,rfl,ho,q]:=q2;let#[u,rfl,ru]:=r1.one;let#[v,rfl,#[t,rfl]]:=rz.one;let#[tu,rfl]:=ru;refine kh (by unfold Builtin.SmallTypes.fitsIndex;rw [Bool.and_eq_true];show#[decide_eq_true (),Zz ()]) λ h' z1 z2 kk=> ?_
 refine wpAny_pyIter_enum z1 ?_;refine#[s2.heap.objs.size+1,[s2.heap.objs.size+1,s2.heap.objs.size],_,_,H2,rfl,I2.kept (t':=s2.toks) kk,sZ x tu o (by change(_:Nat)≠_;rfl'),#[#[_,by rw [Nat.zero_add];show z1],z2],λ c Y=> ?_,q];have W:s2.heap.objs.size<=c:=by
  simp only [Zk,Yn,or_false] at Y;rcases Y with rfl | rfl<;>(change(_:Nat)<=_;rfl')
 show I2.fpOk W (I2.hok.fresh W)
def Rb (K:W.Frag) (a:Addr):It:=
 ⟨λ i H=> ∃xs x,SqT K H a xs/\xs[i]? =some x,
  λ i H v H'=> ∃p x,H p=none/\v= .ref p/\H'=upd H p (.tup [.int (i:Int),x])/\ ∀xs,SqT K H a xs->xs[i]? =some x,
  λ i H=> ∃xs,SqT K H a xs/\i=xs.length⟩
structure EnSt3 (e it a:Addr) (i:Nat) (h:Heap):Prop where
 he: ∃old,IsEnum h e it (i:Int) old
 h1:h.IsTupleIter it a i
def Vl (K:W.Frag) (ta:TA):TI:=λ σ H R=>ta σ H λ vs H1=> ∃a xs,vs=[.ref a]/\SqT K H1 a xs/\R (Rb K a) H1
def uY (tk tv:TE):TE:=λ σ H Q=> ∀p,H p=none->tk σ (upd H p (.dT [])) λ x H1=>tv σ H1 λ v H2=>H2 p=some (.dT [])/\ ∃k b,x= .ref b/\H2 b=some (.tup (k.map kV))/\Q (.ref p) (upd H2 p (.dT [(k,v)]))
theorem Cj {X:Cx} {ke ve:Expr} {tk tv:TE} (hu:X.A.units+1<cLine) (hk:PE X ke tk) (hv:PE X ve tv):PE X (.Dict [some ke] [ve] pos) (uY tk tv):=by
 intro W s σ H Q I q;have hn:=I.hok.fresh (Zm s.heap.objs.size);have I1:=I.laid (a:=s.heap.objs.size) (o:= .dT []) (h':=s.heap.push { cls:= .type "dict",data:= .dict ([].toArray) }) (t':=s.toks) (λ _ _ q=>Zd _ q) (Zm _) (rP s.heap I.big);refine wpAny_Dict_any rfl rfl (by simp) (by simp) (aW (rQ (pos:=pos) hk hv xF W _ σ _ (λ ps H2=>match ps with | [(x,v)]=>H2 s.heap.objs.size=some (.dT [])/\ ∃k b,x= .ref b/\H2 b=some (.tup (k.map kV))/\Q (.ref s.heap.objs.size) (upd H2 s.heap.objs.size (.dT [(k,v)])) | _=>False) I1 (q _ hn)) λ ws s2 ⟨ps,H2,I2,O,hm⟩=> ?_)
 cases O with
 | nil=>show hm.elim
 | @cons a c as cs h t=>
  cases t with
  | cons=>show hm.elim
  | nil=>
  let#[x,v]:=a;let#[c1,c2]:=c;let#[e,k,b,ex,eb,q2]:=hm;dsimp only at h ex;subst ex
  cases (show c1=Value.ref b from h.1);let#[z,hd,xs,O,dd]:=oG I2.hok e;unfold storeAll;rw [Yw];refine Qb (Qb (wpAny_dictSet_heap (hsz:=by rw [<- Paired.length O];show z) (by change X.A.units<cLine;rfl') (gC I2.hok eb) dd λ h' Y hs=>Zc ?_));change wpAny _ _ (forIn [] PUnit.unit _) _ _ _;rw [List.forIn_nil];let#[q,es,ep,hq,h2,h3,h4,_,h5]:=Y;refine Zc #[.ref s.heap.objs.size,upd H2 s.heap.objs.size (.dT [(k,v)]),fP I2 (by rw [e];show True.intro) hs ⟨q,hq⟩ ⟨(by change(1:Nat)<=sizeLine;rw [sizeLine_eq];rfl'),hd,_,(O.put k eb h.2).keeps λ c ys ec=> ?_,q,es,ep,hq,h2,h3,h4,h5⟩,rfl,q2];rw [aq (bw ec e (λ z=>nomatch z))];show ec
def Rc (K:W.Frag) (a b:Addr):It:=
 ⟨λ i H=> ∃xs ys x y,SqL K H a xs/\SqT K H b ys/\xs[i]? =some x/\ys[i]? =some y,
  λ i H v H'=> ∃p x y,H p=none/\v= .ref p/\H'=upd H p (.tup [x,y])/\(∀xs,SqL K H a xs->xs[i]? =some x)/\ ∀ys,SqT K H b ys->ys[i]? =some y,
  λ i H=> ∃xs ys,SqL K H a xs/\SqT K H b ys/\(xs.length<=i\/ys.length<=i)⟩
structure ZipStL (z TI TO i1 i2 a b:Addr) (i:Nat) (h:Heap):Prop where
 hz:IsZip h z TI TO .none
 hTI:IsPair h TI (.ref i1) (.ref i2)
 hTO: ∃u v,IsPair h TO u v
 h1:h.IsListIter i1 a i
 h2:h.IsTupleIter i2 b i
 aTO:a≠TO
 bTO:b≠TO
def Wu (K:W.Frag) (ta:TA):TI:=λ σ H R=>ta σ H λ vs H1=> ∃a b xs ys,vs=[.ref a, .ref b]/\SqL K H1 a xs/\SqT K H1 b ys/\R (Rc K a b) H1
end L2
end
section
namespace Nk
open PySem PySem.Spec PyProof.Rows
variable {a b:Addr} {ks:List Int} {Q:Bool->Shared->Prop}
abbrev jh:=Int×Int×List Int
variable {k x y:jh}
section
variable {prog:Program} {w:World} {A:Around} {E:Value->Shared->Prop} {s:Shared}
def IsSt (prog:Program) (w:World) (h:Heap) (k:jh) (a:Addr):Prop:= ∃o n v1 v2 b,h.get? a=some o/\o.cls= .type "tuple"/\o.data= .seq ([v1,v2, .ref b].toArray) n/\(intKind prog w).is k.1 v1=true/\(intKind prog w).is k.2.1 v2=true/\IsTupleKey (intKind prog w) h k.2.2 b
theorem IsSt.typeIs (x:IsSt prog w s.heap k a):s.TypeIs (.ref a) "tuple":=let ⟨o,_,_,_,_,ho,hc,_⟩:=x;#[o,ho,hc]
theorem IsSt.inj {h:Heap} (hx:IsSt prog w h x a) (hy:IsSt prog w h y a):x=y:=by
 let#[o,n,v1,v2,b,ho,_,hd,a1,a2,a3]:=hx;let#[o',n',u1,u2,b',W,_,O,c1,c2,c3]:=hy;obtain rfl:o=o':=Yi (ho.symm.trans W);rw [hd] at O;injection O with e1 _
 have Y:=Yc Array.toList e1;simp only [List.cons.injEq,and_true] at Y;let#[rfl,rfl,e3]:=Y
 cases e3;have z3:=a3.inj c3;have z1:=(intKind prog w).inj _ _ _ a1 c1;have z2:=(intKind prog w).inj _ _ _ a2 c2;show Prod.ext z1 (Prod.ext z2 z3)
theorem IsSt.keeps {h h':Heap} {d:Addr} {o:Obj} {es ep} (x:IsSt prog w h k a) (ho:h.get? d=some o) (hd:o.data= .dict es ep) (hs:Heap.SameBut d h h'):IsSt prog w h' k a:=by
 let#[o',n,v1,v2,b,W,hc,O,a1,a2,a3]:=x;have Y:a≠d:=by
  rintro rfl;obtain rfl:o'=o:=Yi (W.symm.trans ho);rw [hd] at O;show nomatch O
 show#[o',n,v1,v2,b,(hs.2 a Y).trans W,hc,O,a1,a2,a3.keeps ho hd hs]
def oV (cs:List Int):Int:=reduceHash (Builtin.Tuple.tupleHashOf (cs.map hashInt))
def oW (k:jh):Int:=reduceHash (Builtin.Tuple.tupleHashOf [hashInt k.1,hashInt k.2.1,oV k.2.2])
theorem Ib {Q:Int->Shared->Prop} (hu:A.units+1<cLine) (hk:IsSt prog w s.heap k a) (h:Q (oW k) { s with toks:=s.toks+(k.2.2.length+4) }):wpAny (model prog w) A (pyHash (.ref a)) Q E s:=by
 have Y:=hk.typeIs;let#[o,n,v1,v2,b,ho,_,hd,a1,a2,a3]:=hk;unfold pyHash
 first | unfold pyHashByItsType | skip
 first | refine Qb (wpAny_cRoomFor_or (.inr ()) ?_) | skip
 refine Qb (wpAny_specialOf Y F.slot_tuple_hash.lookup ?_);change wpAny _ _ (if (some (Value.builtin "tuple.__hash__")==some Value.none)=true then _ else _) Q E s;rw [if_neg (by rw [beq_builtin_none];show Zu)];refine Qb (wpAny_specialOf Y F.slot_tuple_hash.lookup ?_);change wpAny _ _ (callSpecialIfBoundUnlessNone? (.ref a) "__hash__" _ >>= _) Q E s;refine Qb (wpAny_callSpecialIfBoundUnlessNone?_slot Y F.slot_tuple_hash (Yo F.slot_tuple_hash Y F.entry_tuple_hash ?_ (F.args_tuple_hash_1 _)));change wpAny _ _ (Builtin.Tuple.tupleItemsOf (.ref a) >>= _) _ _ s;refine Qb (wpAny_tupleItemsOf ho hd ?_);refine Qb ?_;rw [<- Array.forIn_toList];change wpAny _ _ (forIn [v1,v2,Value.ref b] _ _) _ _ s;have ab:A.in1.units<cLine:=by change A.units+1<cLine;show hu
 rw [Yw];refine Qb (Qb ((intKind prog w).pyHash a1 (Zc ?_)));change wpAny _ _ (forIn [v2,Value.ref b] _ _) _ _ _;rw [Yw];refine Qb (Qb ((intKind prog w).pyHash a2 (Zc ?_)));change wpAny _ _ (forIn [Value.ref b] _ _) _ _ _;rw [Yw];refine Qb (Qb (wpAny_pyHash_tuple (knd:=intKind prog w) ab a3 (Zc ?_)));change wpAny _ _ (forIn [] _ _) _ _ _;rw [List.forIn_nil];refine Zc ?_;change wpAny _ _ (retInt (Builtin.Tuple.tupleHashOf [hashInt k.1,hashInt k.2.1,oV k.2.2])) _ _ _;refine wpAny_ret_mkInt ?_;change wpAny _ _ (if (decide (-(2:Int)^63<=Builtin.Tuple.tupleHashOf [hashInt k.1,hashInt k.2.1,oV k.2.2])&&decide (Builtin.Tuple.tupleHashOf [hashInt k.1,hashInt k.2.1,oV k.2.2]<2^63))=true then _ else _) Q E _;have O: ∀x:Nat,x=s.toks+(k.2.2.length+4)->Q (oW k) { s with toks:=x }:=λ x e=>by rw [e];show h
 unfold oW at O;unfold reduceHash at O;by_cases W:(decide (-(2:Int)^63<=Builtin.Tuple.tupleHashOf [hashInt k.1,hashInt k.2.1,oV k.2.2])&&decide (Builtin.Tuple.tupleHashOf [hashInt k.1,hashInt k.2.1,oV k.2.2]<2^63))=true
 .rw [if_pos W];rw [if_pos W] at O;show Zc (O _ (by dsimp only;rfl'))
 .rw [if_neg W];rw [if_neg W] at O;show Qb (wpAny_rule (Zc (O _ (by dsimp only;rfl'))))
theorem uZ {P:PySem.Fin->Shared->Prop} (hu:A.units<cLine) (hx:IsSt prog w s.heap x a) (hy:IsSt prog w s.heap y b) (h:P (.done (.ret (.bool (decide (x=y))))) s):
  wpAny (model prog w) A (Builtin.«tuple.__eq__» #[[.ref a, .ref b],[]]) P E s:=by
 have ac:=hy.typeIs;let#[oa,na,v1,v2,c,W,_,ab,a1,a2,a3]:=hx;let#[ob,nb,u1,u2,d,ad,_,Y,b1,b2,b3]:=hy;change wpAny _ _ (isInstance (.ref b) (.type "tuple") >>= _) _ _ s;refine Qb (wpAny_isInstance ac isSubtype_tuple_tuple ?_);simp only [Bool.not_true,Yh,if_false];refine Qb (wpAny_tupleItemsOf W ab ?_);refine Qb (wpAny_tupleItemsOf ad Y ?_);refine Qb ?_;change wpAny _ _ (forIn [(v1,u1),(v2,u2),(Value.ref c,Value.ref d)] _ _) _ _ s;let#[x1,x2,x3]:=x;let#[y1,y2,y3]:=y;dsimp only at a1 a2 a3 b1 b2 b3;have no: ∀ {q:Bool},q=false->P (.done (.ret (.bool q))) s->P (.done (.ret (.bool false))) s:=λ e h=>e▸h
 rw [Yw];refine Qb (Qb ((intKind prog w).eqBool (a:=x1) (b:=y1) a1 b1 ?_));by_cases O:x1=y1
 .subst O;rw [Zz rfl];simp only [Bool.not_true,Yh,if_false];refine Zc ?_;change wpAny _ _ (forIn [(v2,u2),(Value.ref c,Value.ref d)] _ _) _ _ s;rw [Yw];refine Qb (Qb ((intKind prog w).eqBool (a:=x2) (b:=y2) a2 b2 ?_));by_cases e2:x2=y2
  .subst e2;rw [Zz rfl];simp only [Bool.not_true,Yh,if_false];refine Zc ?_;change wpAny _ _ (forIn [(Value.ref c,Value.ref d)] _ _) _ _ s;rw [Yw];refine Qb (Qb (wpAny_eqBool_tuple (knd:=intKind prog w) hu a3 b3 ?_));by_cases e3:x3=y3
   .subst e3;rw [Zz rfl];simp only [Bool.not_true,Yh,if_false];refine Zc ?_;change wpAny _ _ (forIn [] _ _) _ _ s;rw [List.forIn_nil];refine Zc ?_;rw [Zz rfl] at h;show Zc h
   .rw [Zv e3];simp only [Bool.not_false,if_true];show Qb (Zc (Zc (Zc (Zc (no (Zv λ z=>e3 (by cases z;rfl)) h)))))
  .rw [Zv e2];simp only [Bool.not_false,if_true];show Qb (Zc (Zc (Zc (Zc (no (Zv λ z=>e2 (by cases z;rfl)) h)))))
 .rw [Zv O];simp only [Bool.not_false,if_true];show Qb (Zc (Zc (Zc (Zc (no (Zv λ z=>O (by cases z;rfl)) h)))))
theorem Rf (hu:A.units+1<cLine) (hx:IsSt prog w s.heap x a) (hy:IsSt prog w s.heap y b) (h:Q (decide (x=y)) s):wpAny (model prog w) A (eqBool (.ref a) (.ref b)) Q E s:=by
 unfold eqBool;try with_reducible refine Yp ?_
 change wpAny _ _ (if (Value.ref a==Value.ref b)=true then _ else _) Q E s;by_cases O:(Value.ref a==Value.ref b)=true
 .rw [if_pos O];have e:a=b:=by have:=eq_of_beq O;injection this
  subst e;obtain rfl:=hx.inj hy;show Qb (wpAny_rule (Zc (by simpa using h)))
 .rw [if_neg O];show Qb (wpAny_richCompare_same_room (op:= .Eq) hx.typeIs hy.typeIs F.slot_tuple_eq
   (Yo F.slot_tuple_eq hx.typeIs F.entry_tuple_eq (uZ (by change A.units+1<cLine;show hu) hx hy #[_,rfl,(λ e=>nomatch e),wpAny_truthy_bool h]) (F.args_tuple_eq_2 _ _)) ())
theorem vd (hk:IsTupleKey (intKind prog w) s.heap ks a) (h:Q true s):wpAny (model prog w) A (eqIsQuiet 7 (.ref a)) Q E s:=by
 have hT:=hk.typeIs;let#[o,W,n,ho,_,hd,hi]:=hk;unfold eqIsQuiet;refine Qb (wpAny_specialOf hT F.slot_tuple_eq.lookup ?_);change wpAny _ _ (isInstance (.ref a) (.type "tuple") >>= _) _ _ s;refine Qb (wpAny_isInstance hT isSubtype_tuple_tuple ?_);simp only [Bool.not_true,Yh,if_false];refine Qb (wpAny_seqItems ho hd ?_);refine Qb ?_;change wpAny _ _ (forIn W _ _) _ _ s;rw [<- Array.forIn_toList];refine wpAny_forIn_list _ (λ rest r s1=>r.1=none/\s1=s/\ ∀v∈rest,carriedByValue v=true) _ ?_ ?_ _ _ #[rfl,rfl,hi.byValue]
 .rintro v rest r s1 ⟨Y,rfl,O⟩;rw [eqIsQuiet_byValue _ (O v Zt)];refine Qb (Zc ?_);simp only [Bool.not_true,Yh,if_false];show Zc #[rfl,rfl,λ u m=>O u (Zs _ m)]
 .rintro ⟨r1,r2⟩ s1 ⟨Y,rfl,_⟩;simp only at Y;subst Y;show Zc h
theorem Cm (hk:IsSt prog w s.heap k a) (h:Q true s):wpAny (model prog w) A (eqIsQuiet 8 (.ref a)) Q E s:=by
 have O:=hk.typeIs;let#[o,n,v1,v2,b,W,_,Y,a1,a2,a3]:=hk;unfold eqIsQuiet;refine Qb (wpAny_specialOf O F.slot_tuple_eq.lookup ?_);change wpAny _ _ (isInstance (.ref a) (.type "tuple") >>= _) _ _ s;refine Qb (wpAny_isInstance O isSubtype_tuple_tuple ?_);simp only [Bool.not_true,Yh,if_false];refine Qb (wpAny_seqItems W Y ?_);refine Qb ?_;change wpAny _ _ (forIn ([v1,v2,Value.ref b].toArray) _ _) _ _ s;rw [<- Array.forIn_toList];change wpAny _ _ (forIn [v1,v2,Value.ref b] _ _) _ _ s;rw [Yw,eqIsQuiet_byValue _ ((intKind prog w).byValue _ _ a1)];refine Qb (Qb (Zc ?_));simp only [Bool.not_true,Yh,if_false];refine Zc ?_;change wpAny _ _ (forIn [v2,Value.ref b] _ _) _ _ s;rw [Yw,eqIsQuiet_byValue _ ((intKind prog w).byValue _ _ a2)];refine Qb (Qb (Zc ?_));simp only [Bool.not_true,Yh,if_false];refine Zc ?_;change wpAny _ _ (forIn [Value.ref b] _ _) _ _ s;rw [Yw];refine Qb (Qb (vd a3 ?_));simp only [Bool.not_true,Yh,if_false];refine Zc ?_;change wpAny _ _ (forIn [] _ _) _ _ s;rw [List.forIn_nil];show Zc (Zc h)
end
def gH (prog:Program) (w:World):HeapKind prog w jh where
 is:=IsSt prog w
 hash:=oW
 draws:=λ k=>k.2.2.length+4
 room:=λ A=>A.units+1<cLine
 inj:=λ hx hy=>hx.inj hy
 keeps:=λ x ho hd hs=>x.keeps ho hd hs
 pyHash:=λ hu hk h=>Ib hu hk h
 eqBool:=λ hu hx hy h=>Rf hu hx hy h
 quiet:=λ hk h=>Cm hk h
end Nk
namespace L2
open PySem PySem.Spec PyProof.Rows Nk
variable {y:V} {H':Hp} {u:Value} {w:World} {Q:Value->Shared->Prop}
abbrev Sk:=Int×Int×List Int
variable {kvs:List (Addr×Sk×V)}
def zg (x:Sk×Addr×Value):DictEntry:=#[oW x.1, .ref x.2.1,x.2.2]
def WY (a:Addr) (kvs:List (Addr×Sk×V)) (h:Heap):Prop:=kvs.length<=sizeLine/\(a==sysModules)=false/\ ∃xs:List (Sk×Addr×Value),Paired (λ (p:Addr×Sk×V) (q:Sk×Addr×Value)=>p.2.1=q.1/\p.1=q.2.1/\RelV p.2.2 q.2.2) kvs xs/\
 ∃o es ep,h.get? a=some o/\o.ExactDict/\o.data= .dict es ep/\es.toList=xs.map zg/\(xs.map (·.1)).Nodup
abbrev bx (a:Addr) (kvs:List (Addr×Sk×V)):HO:= .ext (WY a kvs)
def qt (H:Hp) (b:Addr) (k:Sk):Prop:= ∃c,H b=some (.tup [.int k.1, .int k.2.1, .ref c])/\H c=some (.tup (k.2.2.map V.int))
def cH (kvs:List (Addr×Sk×V)) (k:Sk):Option V:=(kvs.find? λ p=>decide (p.2.1=k)).map (·.2.2)
def qu (kvs:List (Addr×Sk×V)) (b:Addr) (k:Sk) (v:V):List (Addr×Sk×V):=if (cH kvs k).isSome then kvs.map λ p=>if p.2.1=k then (p.1,p.2.1,v) else p else kvs++[(b,k,v)]
def SGet (H:Hp) (a:Addr) (y:V) (r:Option V):Prop:= ∃kvs k b,Rd H a (bx a kvs)/\(∀p∈kvs,qt H p.1 p.2.1)/\y= .ref b/\qt H b k/\r=cH kvs k
def SPut (H:Hp) (a:Addr) (y v:V) (H':Hp):Prop:= ∃kvs k b,H a=some (bx a kvs)/\(∀p∈kvs,qt H p.1 p.2.1)/\y= .ref b/\qt H b k/\kvs.length<sizeLine/\H'=upd H a (bx a (qu kvs b k v))
section
variable {P:Program} {w:World} {H:Hp} {h:Heap} {a b:Addr}
theorem t6 {P:Program} {w:World}: ∀ {ks:List Int} {us:List Value},Vals (ks.map V.int) us->ItemsAre (intKind P w) ks us
 | [],_,r=>by rw [List.map_nil] at r;cases r;show .nil
 | k::ks,_,r=>by
  rw [Zl] at r
  cases r with
  | cons h t=>
   let#[t',rfl]:=(show ∃t,_=Value.int k t from h);show .cons (intKind_is _ _ _ _) (t6 t)
theorem oX {k:Sk} (ok:HOk P w H h) (e:qt H a k):(gH P w).is h k a:=by
 let#[c,e1,e2]:=e;let#[_,ab,r,o,g1,g2,n,W]:=(show ObjOk P w H h a (.tup [.int k.1, .int k.2.1, .ref c]) from ok a _ e1);let#[_,O,r2,o2,f1,f2,Y,f3]:=(show ObjOk P w H h c (.tup (k.2.2.map V.int)) from ok c _ e2)
 cases r with
 | cons h1 t1=>
  cases t1 with
  | cons h2 t2=>
   cases t2 with
   | cons h3 t3=>
    cases t3;let#[u1,rfl]:=(show ∃t,_=Value.int k.1 t from h1);let#[u2,rfl]:=(show ∃t,_=Value.int k.2.1 t from h2)
    cases (show _=Value.ref c from h3);show#[o,n,_,_,c,g1,g2,W,intKind_is _ _ _ _,intKind_is _ _ _ _,#[o2,O.toArray,Y,f1,f2,f3,by simpa using t6 r2]]
abbrev KS:List (Addr×Sk×V)->List (Sk×Addr×Value)->Prop:=Paired λ p q=>p.2.1=q.1/\p.1=q.2.1/\RelV p.2.2 q.2.2
theorem KS.val {xs:List (Sk×Addr×Value)} (r:KS kvs xs) (k:Sk):RelO (cH kvs k) ((atKey xs k).map (·.2)):=by
 induction r with
 | nil=>show True.intro
 | @cons p q ps qs h t ih=>
  let#[W,_,Y]:=h;by_cases e:p.2.1=k
  .have O:q.1=k:=W.symm.trans e;have z:atKey (q::qs) k=some q.2:=by simp [atKey,List.find?_cons,O]
   have y:cH (p::ps) k=some p.2.2:=by simp [cH,List.find?_cons,e]
   rw [y,z];show Y
  .have O: ¬q.1=k:=λ z=>e (W.trans z)
   have z:atKey (q::qs) k=atKey qs k:=by simp [atKey,List.find?_cons,O]
   have y:cH (p::ps) k=cH ps k:=by simp [cH,List.find?_cons,e]
   rw [y,z];show ih
theorem KS.repl {xs:List (Sk×Addr×Value)} (r:KS kvs xs) (k:Sk) (ry:RelV y u):KS (kvs.map λ p=>if p.2.1=k then (p.1,p.2.1,y) else p) (xs.map (putAt k u)):=by
 induction r with
 | nil=>show .nil
 | @cons p q ps qs h t ih=>
  rw [Zl,Zl];refine .cons ?_ ih;let#[O,W,Y]:=h;unfold putAt;by_cases e:p.2.1=k
  .rw [if_pos e,if_pos (O.symm.trans e)];show#[O,W,ry]
  .rw [if_neg e,if_neg (λ z=>e (O.trans z))];show#[O,W,Y]
theorem KS.put {xs:List (Sk×Addr×Value)} (r:KS kvs xs) (k:Sk) {b:Addr} (ry:RelV y u):KS (qu kvs b k y) (storedH xs k b u):=by
 have e:(cH kvs k).isSome=(atKey xs k).isSome:=by rw [(r.val k).isSome_eq,Option.isSome_map]
 unfold qu storedH;rw [e];by_cases q:(atKey xs k).isSome=true
 .rw [if_pos q,if_pos q];show r.repl k ry
 .rw [if_neg q,if_neg q];show Paired.snoc r #[rfl,rfl,ry]
theorem Cp (kvs:List (Addr×Sk×V)) (b:Addr) (k:Sk) (v:V):(qu kvs b k v).length<=kvs.length+1:=by
 unfold qu;split
 .rw [Qr];rfl'
 .rw [Zq,Yf];rfl'
theorem JH (ok:HOk P w H h) (e:Rd H a (bx a kvs)):ObjOk P w H h a (bx a kvs):=by
 rcases e with e | ⟨o,e⟩
 .exact ok a _ e
 .exact (show ObjOk P w H h a (.frz o (bx a kvs)) from ok a _ e).2
theorem oY (ok:HOk P w H h) (e:Rd H a (bx a kvs)) (hk: ∀p∈kvs,qt H p.1 p.2.1):kvs.length<=sizeLine/\(a==sysModules)=false/\ ∃xs,KS kvs xs/\h.DictOfH (gH P w) a xs:=by
 let#[#[z,y,xs,r,o,es,ep,h1,h2,h3,Y,h5],_]:=JH ok e;refine#[z,y,xs,r,o,es,ep,h1,h2,h3,Y,λ x O=> ?_,h5];have all: ∀ {l:List (Addr×Sk×V)} {m:List (Sk×Addr×Value)},KS l m->(∀p∈l,qt H p.1 p.2.1)-> ∀x∈m,(gH P w).is h x.1 x.2.1:=by
  intro l m q;induction q with
  | nil=>intro _ x O;show nomatch O
  | @cons p q ps qs hq t ih=>
   intro W x O;rcases Zk.mp O with e | O
   .subst e;have:=oX ok (W p Zt);rw [<- hq.1,<- hq.2.1];show this
   .exact ih (λ p m=>W p (Zs _ m)) x O
 show all r hk x O
theorem Cq {P:Program} {h':Heap} {xs:List (Sk×Addr×Value)} (z:kvs.length<=sizeLine) (hd:(a==sysModules)=false) (rel:KS kvs xs) (dd: ∃o es ep,h'.get? a=some o/\o.ExactDict/\o.data= .dict es ep/\es.toList=xs.map zg/\(xs.map (·.1)).Nodup):ObjOk P w H' h' a (bx a kvs):=by
 let#[o,es,ep,d1,d2,d3,d4,d5]:=dd;show#[#[z,hd,xs,rel,o,es,ep,d1,d2,d3,d4,d5],#[o,d1],λ h1 h2 ⟨z1,y1,O,r1,o1,W,Y,q1,q2⟩ k=>#[z1,y1,O,r1,o1,W,Y,k o1 q1,q2]]
end
section
variable {X:Cx} {pins:List (Addr×Obj)} {σ:St} {H:Hp} {s:Shared} {a:Addr} {y v:V} {u r:Value} {o:Option V} {A:Around} {E:Value->Shared->Prop}
theorem vf (hu:A.units+2<cLine) (I:Inv X pins σ H s) (g:SGet H a y (some v)) (ry:RelV y u) (h: ∀O s',Inv X pins σ H s'->RelV v O->Q O s'):wpAny (model X.prog X.w) A (getItem (.ref a) u) Q E s:=by
 let#[kvs,k,b,e,hk,ey,eb,l]:=g;subst ey
 cases (show u=Value.ref b from ry);let#[z,hd,xs,W,dd]:=oY I.hok e hk;let#[O,hw,ab]:=RelO.some_of (v:=v) (o:=(atKey xs k).map (·.2)) (by rw [l];show W.val k);let#[p,hp,Y]:=Ye.mp hw;refine wpAny_getItem_heap (knd:=gH X.prog X.w) (show A.units+1+1<cLine by rfl') (oX I.hok eb) dd hp ?_;rw [Y];show h O _ (I.tok _) ab
theorem Rg (hu:A.units+2<cLine) (I:Inv X pins σ H s) (g:SGet H a y o) (ry:RelV y u) (h: ∀s',Inv X pins σ H s'->Q (.bool o.isSome) s'):wpAny (model X.prog X.w) A (compareOp .In u (.ref a)) Q E s:=by
 let#[kvs,k,b,e,W,ey,eb,l]:=g;subst ey
 cases (show u=Value.ref b from ry);let#[z,Y,xs,O,dd]:=oY I.hok e W;refine wpAny_in_heap (knd:=gH X.prog X.w) (show A.units+1+1<cLine by rfl') (oX I.hok eb) Y dd ?_;have q:=(O.val k).isSome_eq;rw [Option.isSome_map] at q;rw [<- q,<- l];show h _ (I.tok _)
theorem Cr (hu:A.units+2<cLine) (I:Inv X pins σ H s) (g:SGet H a y o) (ry:RelV y u) (h: ∀s',Inv X pins σ H s'->Q (.bool (!o.isSome)) s'):wpAny (model X.prog X.w) A (compareOp .NotIn u (.ref a)) Q E s:=by
 let#[kvs,k,b,e,W,ey,eb,l]:=g;subst ey
 cases (show u=Value.ref b from ry);let#[z,Y,xs,O,dd]:=oY I.hok e W;refine wpAny_notIn_heap (knd:=gH X.prog X.w) (show A.units+1+1<cLine by rfl') (oX I.hok eb) Y dd ?_;have q:=(O.val k).isSome_eq;rw [Option.isSome_map] at q;rw [<- q,<- l];show h _ (I.tok _)
theorem vg {Q:Unit->Shared->Prop} (hu:A.units+2<cLine) (I:Inv X pins σ H s) (g:SPut H a y v H') (ry:RelV y u) (rv:RelV v r) (h: ∀s',Inv X pins σ H' s'->Q Unit.unit s'):wpAny (model X.prog X.w) A (setItem (.ref a) u r) Q E s:=by
 let#[kvs,k,b,e,hk,ey,eb,l,eH]:=g;subst ey eH
 cases (show u=Value.ref b from ry);let#[z,hd,xs,O,dd]:=oY I.hok (.inl e) hk;have hz:xs.length<=sizeLine:=by rw [<- Paired.length O];show z
 have hl:(qu kvs b k v).length<=sizeLine:=by have:=Cp kvs b k v;rfl'
 refine wpAny_setItem_heap (hsz:=hz) (knd:=gH X.prog X.w) (show A.units+1+1<cLine by rfl') (oX I.hok eb) dd λ h' W hs=>h _ ?_
 let#[q,es,ep,Y,h2,h3,h4,_,h5]:=W;show fP I (by rw [e];show True.intro) hs ⟨q,Y⟩ (Cq hl hd (O.put k rv) ⟨q,es,ep,Y,h2,h3,h4,h5⟩)
end
end L2
end
section
namespace Nk
open PySem PySem.Spec PyProof.Rows Sx
def Fn (h:Heap) (f:Value->jh) (v:Value):Prop:= ∃b ob its n t1 t2 c oc ics nc,v= .ref b/\h.get? b=some ob/\ob.cls= .type "tuple"/\ob.data= .seq its n/\its.toList=[.int (f v).1 t1, .int (f v).2.1 t2, .ref c]/\h.get? c=some oc/\oc.cls= .type "tuple"/\oc.data= .seq ics nc/\IntsAre ics.toList (f v).2.2
section
variable {prog:Program} {w:World} {A:Around} {E:Value->Shared->Prop} {s:Shared} {f:Value->jh}
theorem qw: ∀a:List Int,HT.lexLt a a=false
 | []=>rfl
 | x::a=>by rw [HT.fO,if_pos rfl];show qw a
theorem tD: ∀ {a b:List Int},HT.lexLt a b=true->HT.lexLt b a=false
 | [],[],h=>by cases h
 | [],_::_,_=>rfl
 | _::_,[],h=>by cases h
 | x::a,y::b,h=>by
  rw [HT.fO] at h ⊢;by_cases e:x=y
  .rw [if_pos e] at h;rw [if_pos e.symm];show tD h
  .rw [if_neg e] at h;rw [if_neg (Ne.symm e)];have:=of_decide_eq_true h;show Zv ()
theorem Cu: ∀ {a b c:List Int},HT.lexLt b a=false->HT.lexLt c b=false->HT.lexLt c a=false
 | [],[],c,_,h=>h
 | [],_::_,[],_,_=>rfl
 | [],_::_,_::_,_,_=>rfl
 | _::_,[],c,h,_=>by cases h
 | _::_,_::_,[],_,h=>by cases h
 | x::a,y::b,z::c,h1,h2=>by
  rw [HT.fO] at h1 h2 ⊢;by_cases W:y=x
  .rw [if_pos W] at h1;by_cases O:z=y
   .rw [if_pos O] at h2;rw [if_pos (O.trans W)];show Cu h1 h2
   .rw [if_neg O] at h2;have:=of_decide_eq_false h2;rw [if_neg ()];show Zv ()
  .rw [if_neg W] at h1;have:=of_decide_eq_false h1;by_cases O:z=y
   .rw [if_neg ()];show Zv ()
   .rw [if_neg O] at h2;have:=of_decide_eq_false h2;rw [if_neg ()];show Zv ()
end
end Nk
namespace L2
open PySem PySem.Spec PyProof.Rows Sx Nk
section
variable {prog:Program} {w:World} {A:Around} {E:Value->Shared->Prop} {s:Shared} {d:Addr} {od:Obj} {es:Array DictEntry} {ep:Nat}
theorem ji: ∀ {ns:List Int} {us:List Value},Vals (ns.map V.int) us->IntsAre us ns
 | [],_,r=>by rw [List.map_nil] at r;cases r;show .nil
 | k::ks,_,r=>by
  rw [Zl] at r
  cases r with
  | cons h t=>
   let#[t',rfl]:=(show ∃t,_=Value.int k t from h);show .cons _ _ (ji t)
def stOf (h:Heap) (v:Value):jh:=open Classical in if e: ∃k,Fn h (λ _=>k) v then e.choose else (0,0,[])
end
end L2
namespace L2
open PySem PySem.Spec PyProof.Rows Nk
variable {A:Around} {r:Option V} {pins:List (Addr×Obj)}
def tE:TE:=λ _ H Q=> ∀p,H p=none->Q (.ref p) (upd H p (bx p []))
def jj (td ty:TE):TE:=λ σ H Q=>td σ H λ x H1=>ty σ H1 λ y H2=> ∃a v,x= .ref a/\SGet H2 a y (some v)/\Q v H2
def M4 (ty td:TE):TE:=λ σ H Q=>ty σ H λ y H1=>td σ H1 λ x H2=> ∃a o,x= .ref a/\SGet H2 a y o/\Q (.bl o.isSome) H2
def kW (ty td:TE):TE:=λ σ H Q=>ty σ H λ y H1=>td σ H1 λ x H2=> ∃a o,x= .ref a/\SGet H2 a y o/\Q (.bl (!o.isSome)) H2
def tG (td ty tv:TE):TS:=λ D σ H=>tv σ H λ v H1=>td σ H1 λ x H2=>ty σ H2 λ y H3=> ∃a H4,x= .ref a/\SPut H3 a y v H4/\D.nx σ H4
section
variable {X:Cx} {o i e value:Expr} {pos pos' tpos:Pos} {td ty tv:TE}
theorem qx:PE X (.Dict [] [] pos) tE:=λ O s W H Q I h=>
 wpAny_Dict_empty ⟨.ref s.heap.objs.size,_,I.laid (a:=s.heap.objs.size) (o:=bx s.heap.objs.size []) (t':=s.toks) (λ _ _ q=>Zd _ q) (Zm _)
  (Cq (Yr _) (beq_eq_false_iff_ne.mpr (Ne.symm (Yb I.big))) .nil ⟨_,([].toArray),0,Zo _ rfl,⟨rfl,rfl,rfl⟩,rfl,rfl,List.nodup_nil⟩),rfl,h _ (I.hok.fresh (Zm _))⟩
theorem Ie {σ:St} {H:Hp} {s:Shared} {a:Addr} {y:V} (I:Inv X pins σ H s) (g:SGet H a y r):s.TypeIs (.ref a) "dict":=by
 let#[kvs,k,b,e,O,_]:=g;let#[_,_,xs,_,dd]:=oY I.hok e O;show dd.typeIs
theorem fV (hu:X.A.units+2<cLine) (ho:PE X o td) (hi:PE X i ty) (hs:Li i):PE X (.Subscript o i pos) (jj td ty):=by
 intro O s Y H Q I h;refine xx PySem.F.slot_dict_getitem.lookup hs (aW (ho O s Y H _ I h) λ u s1 ⟨x,H1,I1,rx,q1⟩=>aW (hi O s1 Y H1 _ I1 q1) λ iv s2 ⟨y,H2,I2,ry,a,v,ex,g,q2⟩=> ?_);subst ex;obtain rfl:u=Value.ref a:=rx;show#[Ie I2 g,vf hu I2 g ry λ w' s3 I3 W=>#[v,H2,I3,W,q2]]
theorem M5 (hu:X.A.units+2<cLine) (hi:PE X i ty) (ho:PE X o td):PC X .In i o (M4 ty td):=by
 intro O s W H Q I h;refine aW (hi O s W H _ I h) λ iv s1 ⟨y,H1,I1,ry,q1⟩=>aW (ho O s1 W H1 _ I1 q1) λ u s2 ⟨x,H2,I2,rx,a,ov,ex,g,q2⟩=> ?_
 subst ex;obtain rfl:u=Value.ref a:=rx;show Rg hu I2 g ry λ s3 Y=>#[.bl ov.isSome,H2,Y,rfl,q2]
theorem oZ (hu:X.A.units+2<cLine) (hi:PE X i ty) (ho:PE X o td):PC X .NotIn i o (kW ty td):=by
 intro O s W H Q I h;refine aW (hi O s W H _ I h) λ iv s1 ⟨y,H1,I1,ry,q1⟩=>aW (ho O s1 W H1 _ I1 q1) λ u s2 ⟨x,H2,I2,rx,a,ov,ex,g,q2⟩=> ?_
 subst ex;obtain rfl:u=Value.ref a:=rx;show Cr hu I2 g ry λ s3 Y=>#[.bl (!ov.isSome),H2,Y,rfl,q2]
theorem qy (hu:X.A.units+2<cLine) (ho:PE X o td) (hi:PE X i ty) (hv:PE X value tv) (hs:swapsWith value (some (.Subscript o i pos')) pos.line X.env=pure false):
  PS X (.Assign [.Subscript o i pos'] value pos) (tG td ty tv):=by
 intro O s W H D I h;refine wpAny_Assign_Subscript (aW (hv O s W H _ I h) λ r s1 ⟨v,H1,I1,rv,q1⟩=>aW (ho O s1 W H1 _ I1 q1) λ u s2 ⟨x,H2,I2,rx,q2⟩=>aW (hi O s2 W H2 _ I2 q2) λ iv s3 ⟨y,H3,Y,ry,a,H4,ex,g,q3⟩=> ?_) hs;subst ex;obtain rfl:u=Value.ref a:=rx;show vg hu Y g ry rv λ s4 I4=>#[W,H4,I4,q3]
def Vm (td ty tx:TE):TE:=λ σ H Q=>td σ H λ x H1=> ∃a kvs,x= .ref a/\Rd H1 a (bx a kvs)/\ty σ H1 λ y H2=>tx σ H2 λ z H3=> ∃o,SGet H3 a y o/\Q (o.getD z) H3
theorem cW {k:Nat} (hr:Room k A):A.units+2<cLine:=Yj (Nat.add_le_add_left (by decide:2<=64) _) hr.units
end
end L2
end
section
namespace Nk
open PySem PySem.Spec PyProof.Rows
variable {Q:Value->Shared->Prop}
section
variable {prog:Program} {w:World} {A:Around} {E:Value->Shared->Prop} {s:Shared}
theorem Ig {d:Addr} {od:Obj} {es:Array DictEntry} {ep:Nat} (lo:(d==sysModules)=false) (hex:od.ExactDict) (ho:s.heap.get? d=some od) (hdd:od.data= .dict es ep) (hfit:(es.size:Int)<2^63)
  (h: ∀t tk,Q (.int es.size t) { s with toks:=tk }):wpAny (model prog w) A (call (.builtin "len") [.ref d]) Q E s:=by
 have T:s.TypeIs (.ref d) "dict":=#[od,ho,hex.1];refine Calls.call_function_entry kind_len plain_len entry_len (args_len1 _) ?_;unfold Builtin.«len»;refine Qb (m:=oneArg "len" _) (Zc ?_);refine Qb (m:=callSpecial? (.ref d) (Str.ofString "__len__")) (wpAny_callSpecial?_slot (name:=Str.ofString "__len__") T PySem.F.slot_dict_len (Yo PySem.F.slot_dict_len T PySem.F.entry_dict_len ?_ (PySem.F.args_dict_len_1 _)));unfold Builtin.«dict.__len__» Builtin.Dict.dictSlotNone;refine Qb (Qb (wpAny_notOrdered_dict T ?_));change wpAny _ _ (pure (Value.ref d)) _ _ _;refine Zc ?_;change wpAny _ _ (dictSize d >>= _) _ _ _;have O: ¬ ((d==sysModules)=true):=by rw [lo];show Zu
 unfold dictSize;refine Qb (Qb (wpAny_dictEntries ho hdd (Zc ?_)));change wpAny _ _ (Builtin.Dict.pendingCount d >>= _) _ _ _;unfold Builtin.Dict.pendingCount;refine Qb ?_;rw [if_neg O];refine Zc ?_;change wpAny _ _ (retInt (((es.size:Nat):Int)+((0:Nat):Int))) _ _ _;rw [show((es.size:Nat):Int)+((0:Nat):Int)=(es.size:Int) by rfl'];refine wpAny_ret_mkInt ?_;refine Qb (Yp (Zc ?_));refine Qb (wpAny_letGo ?_);change wpAny _ _ (if ((es.size:Nat):Int)<0 then _ else _) _ _ _;rw [if_neg ()];change wpAny _ _ (if ((es.size:Nat):Int)>=2^63 then _ else _) _ _ _;rw [if_neg ()];show Qb (wpAny_mkInt (Zc #[_,rfl,h _ _]))
end
end Nk
end
section
namespace Sy
open PySem PyProof.Rows
theorem p6 {K:Type} [DecidableEq K] {xs:List (K×Addr×Value)} {k:K} (h:k∉xs.map (·.1)):atKey xs k=none:=by
 unfold atKey;rw [Option.map_eq_none_iff,List.find?_eq_none];intro x O e;show h (Zb.mpr #[x,O,of_decide_eq_true e])
end Sy
end
section
namespace St
open PySem PySem.Spec PyProof.Rows
def Cv (h:Heap) (a:Addr) (es:Array (Int×Value)) (ep:Nat) (t:SetTable):Prop:= ∃o,h.get? a=some o/\o.ExactSet/\o.data= .set es ep t/\t.fits es.size=true
def X3 (h:Heap) (I:Addr) (f0:Value) (i:Nat) (a:Addr) (n ep:Nat):Prop:= ∃o,h.get? I=some o/\o.cls= .type "set_iterator"/\o.data= .fields ([f0, .int i 0, .ref a, .int n 0, .int ep 0].toArray)
section
variable {prog:Program} {w:World} {A:Around} {E:Value->Shared->Prop} {s:Shared}
structure Go (prog:Program) (w:World) (A:Around) (s:Shared) (a:Addr) (vs:List Value) (n:Nat) (I:Addr) (s1:Shared):Prop where
 ex: ∃ (fp:List Addr) (P:Nat->Value->Prop) (St:Nat->Heap->Prop),Walks prog w A I fp [I] n P St/\St 0 s1.heap/\(∀b∈fp,b=a\/s.heap.objs.size<=b)/\ ∀acc:Array Value,ItemsOf P acc n->acc.toList.Perm vs
 keep: ∀b o,s.heap.get? b=some o->s1.heap.get? b=some o
 fresh:s.heap.objs.size<=I
 rest: ∃d,s1={ s with heap:=s1.heap,drawn:=d }
def yw (prog:Program) (w:World) (a:Addr) (es:Array (Int×Value)) (ep:Nat) (t:SetTable):Prop:= ∀ {A:Around} {E:Value->Shared->Prop} {s:Shared} {Q:Value->Shared->Prop},A.handled=none->Cv s.heap a es ep t->(∀I s1,Go prog w A s a (es.toList.map (·.2)) es.size I s1->Q (.ref I) s1)->wpAny (model prog w) A (pyIter (.ref a)) Q E s
def tx:Value->Str
 | .str x _=>x
 | _=>#[([].toArray)]
structure SetS (prog:Program) (w:World) (h:Heap) (a:Addr) (ls:List Str) (es:Array (Int×Value)) (ep:Nat) (t:SetTable):Prop where
 at_:Cv h a es ep t
 el:ElemsOf (PySem.strKind prog w) es.toList
 pm:(es.toList.map λ e=>tx e.2).Perm ls
 nd:ls.Nodup
 sz:es.size<4096
 led:w.params.followText "set-order"=false->t.led=true
 pl:1<=es.size->t.plain=false
end
end St
end
section
namespace L2
open PySem PySem.Spec PyProof.Rows
def Cw:List V->Hp->VK->Prop:=λ xs H Q=> ∃ (a:Addr) (kvs:List (List Key×V)),xs=[.ref a]/\H a=some (.dT kvs)/\Q (.int kvs.length) H
theorem zj {X:Cx}:bG X (.builtin "len") Cw:=by
 intro Y s σ H xs us Q I rv h;let#[a,kvs,rfl,ea,q]:=h;let#[u,rfl,ru]:=rv.one
 cases (show u=Value.ref a from ru);let#[z,lo,xs,W,o,es,ep,h1,h2,h3,h4,_]:=oG I.hok ea;have O:es.size=kvs.length:=by rw [<- Array.length_toList,h4,Qr,Paired.length W]
 refine Nk.Ig lo h2 h1 h3 (by rw [O];rw [sizeLine_eq] at z;rfl') λ t tk=> ?_
 rw [O];show#[.int kvs.length,H,I.tok _,#[t,rfl],q]
end L2
end
section
namespace Tb
open PySem
def g5:Nat->Nat
 | 0=>0
 | n+1=>5*g5 n+1
def f5 (M:Nat):Nat->Nat->Nat
 | 0,x=>x%M
 | n+1,x=>(5*f5 M n x+1)%M
def X4 (xs:Array Nat):Prop:= ∀i k,i<k->k<xs.size->xs.getD i 0<xs.getD k 0
def lp (mask:Nat) (h:Int):Nat->Nat×Nat
 | 0=>(SetTable.bits h%(mask+1),SetTable.bits h)
 | n+1=>SetTable.leap mask (lp mask h n).1 (lp mask h n).2
def rn (mask:Nat) (h:Int) (n:Nat):Nat:=SetTable.runEnd mask (lp mask h n).1-(lp mask h n).1
def po (mask:Nat) (h:Int) (n r:Nat):Nat:=(lp mask h n).1+r
def pr (mask:Nat) (h:Int) (n r:Nat):SetTable.Probe:={ j:=po mask h n r,more:=rn mask h n-r,i:=(lp mask h n).1,perturb:=(lp mask h n).2,dummy:=none }
def Wv (t:SetTable) (j:Nat):Prop:= ∃i:Nat,t.place[i]? =some j
def Rh (n r n' r':Nat):Prop:=n<n'\/(n=n'/\r<r')
def Pass (t:SetTable) (ha:Nat->Int) (h:Int) (n0 r0 n r:Nat):Prop:= ∀n' r',r'<=rn t.mask h n'-> ¬Rh n' r' n0 r0->Rh n' r' n r-> ∃i:Nat,t.place[i]? =some (po t.mask h n' r')/\ha i≠h
inductive Meets (t:SetTable) (ha:Nat->Int) (h:Int) (n0 r0:Nat):SetTable.Met->Prop
 | empty {n r:Nat} (hr:r<=rn t.mask h n) (ps:Pass t ha h n0 r0 n r) (no: ¬Wv t (po t.mask h n r)):Meets t ha h n0 r0 (.empty (po t.mask h n r) none)
 | cand {n r i:Nat} (hr:r<=rn t.mask h n) (ge: ¬Rh n r n0 r0) (ps:Pass t ha h n0 r0 n r) (hi:t.place[i]? =some (po t.mask h n r)) (he:ha i=h):Meets t ha h n0 r0 (.candidate (po t.mask h n r) i (t.advance (pr t.mask h n r)))
section
variable {β:Type}
structure Ok (t:SetTable) (es:Array (Int×β)):Prop where
 pw: ∃k,t.mask+1=2^k
 dm:t.dummies= ([].toArray)
 as:X4 t.place
 le: ∀i j:Nat,t.place[i]? =some j->j<=t.mask
 sz:t.place.size=es.size
 rm:es.size<=t.mask
 pt: ∀ (i j:Nat) e,t.place[i]? =some j->es[i]? =some e-> ∃n r,r<=rn t.mask e.1 n/\po t.mask e.1 n r=j/\ ∀n' r',r'<=rn t.mask e.1 n'->Rh n' r' n r->Wv t (po t.mask e.1 n' r')
end
def stp (mask:Nat) (acc:Option (Array (Option Nat)×Nat)) (h:Int):Option (Array (Option Nat)×Nat):=do
 let (owner,k) <- acc
 let j <- SetTable.layClean.free mask owner (SetTable.turns mask) (SetTable.bits h%(mask+1)) (SetTable.bits h)
 pure (owner.setIfInBounds j (some k),k+1)
structure Lay (mask:Nat) (hs:List Int) (owner:Array (Option Nat)):Prop where
 size:owner.size=mask+1
 val: ∀j k:Nat,owner[j]? =some (some k)->k<hs.length
 uq: ∀j j' k:Nat,owner[j]? =some (some k)->owner[j']? =some (some k)->j=j'
 ex: ∀ (k:Nat) h,hs[k]? =some h-> ∃n r,r<=rn mask h n/\owner[po mask h n r]? =some (some k)/\ ∀n' r',r'<=rn mask h n'->Rh n' r' n r-> ∃k',owner[po mask h n' r']? =some (some k')
def lv (owner:Array (Option Nat)) (m:Nat):List (Nat×Nat):=(List.range m).filterMap λ j=>(owner.getD j none).map (j,·)
end Tb
end
section
namespace Ts
open PySem PySem.Spec PyProof.Rows
section
variable {prog:Program} {w:World} {A:Around} {E:Value->Shared->Prop} {s:Shared} {K:Type} [DecidableEq K] {knd:HeapKind prog w K}
structure SetK (knd:HeapKind prog w K) (h:Heap) (a:Addr) (ks:List (K×Addr)) (es:Array (Int×Value)) (ep:Nat) (t:SetTable):Prop where
 at_:St.Cv h a es ep t
 ok:Tb.Ok t es
 lo:es.size*5<t.mask*3
 ms:t.mask=7\/t.mask=31\/t.mask=127\/t.mask=511\/t.mask=2047\/t.mask=8191
 ee:es.toList=ks.map λ p=>(knd.hash p.1,Value.ref p.2)
 is: ∀p∈ks,knd.is h p.1 p.2
 nd:(ks.map (·.1)).Nodup
 led:w.params.followText "set-order"=false->t.led=true
structure Calm (knd:HeapKind prog w K):Prop where
 cs: ∀ {A:Around} {E:Value->Shared->Prop} {s:Shared} {k:K} {a:Addr} {Q:Bool->Shared->Prop},knd.is s.heap k a->Q false s->wpAny (model prog w) A (ofAClassStatement 8 (.ref a)) Q E s
 hv: ∀ {A:Around} {E:Value->Shared->Prop} {s:Shared} {k:K} {a:Addr} {Q:Bool->Shared->Prop},knd.is s.heap k a->(∀b,Q b s)->wpAny (model prog w) A (hashByValue 8 (.ref a)) Q E s
 kp: ∀ {h h':Heap} {k:K} {a d:Addr} {o:Obj},knd.is h k a->h.get? d=some o->o.cls≠ .type "tuple"->(∀c o',c≠d->h.get? c=some o'->h'.get? c=some o')->knd.is h' k a
 ke: ∀ {h h':Heap} {k:K} {a:Addr},knd.is h k a->(∀c o',h.get? c=some o'->h'.get? c=some o')->knd.is h' k a
end
end Ts
end
section
namespace Ck
open PySem PySem.Spec PyProof.Rows Nk
abbrev Ri:=Int×jh
section
variable {prog:Program} {w:World} {A:Around} {E:Value->Shared->Prop} {s:Shared}
def X5 (prog:Program) (w:World) (h:Heap) (k:Ri) (a:Addr):Prop:= ∃o n v1 b,h.get? a=some o/\o.cls= .type "tuple"/\o.data= .seq ([v1, .ref b].toArray) n/\(intKind prog w).is k.1 v1=true/\IsSt prog w h k.2 b
def Rj (k:Ri):Int:=reduceHash (Builtin.Tuple.tupleHashOf [hashInt k.1,oW k.2])
end
end Ck
end
section
namespace L2
open PySem PySem.Spec PyProof.Rows Sx Nk Ck
variable {A:Around}
abbrev xR:=Int×Int×Int×List Int
def Ww (H:Hp) (b:Addr) (k:xR):Prop:= ∃c,H b=some (.tup [.int k.1, .ref c])/\qt H c k.2
def Vn (x:xR×Addr×Value):DictEntry:=#[Rj x.1, .ref x.2.1,x.2.2]
def X6 (a:Addr) (kvs:List (Addr×xR×V)) (h:Heap):Prop:=kvs.length<=sizeLine/\(a==sysModules)=false/\ ∃xs:List (xR×Addr×Value),Paired (λ (p:Addr×xR×V) (q:xR×Addr×Value)=>p.2.1=q.1/\p.1=q.2.1/\RelV p.2.2 q.2.2) kvs xs/\
 ∃o es ep,h.get? a=some o/\o.ExactDict/\o.data= .dict es ep/\es.toList=xs.map Vn/\(xs.map (·.1)).Nodup
abbrev Vo (a:Addr) (kvs:List (Addr×xR×V)):HO:= .ext (X6 a kvs)
def Vp (kvs:List (Addr×xR×V)) (k:xR):Option V:=(kvs.find? λ p=>decide (p.2.1=k)).map (·.2.2)
def Vq (kvs:List (Addr×xR×V)) (b:Addr) (k:xR) (v:V):List (Addr×xR×V):=if (Vp kvs k).isSome then kvs.map λ p=>if p.2.1=k then (p.1,p.2.1,v) else p else kvs++[(b,k,v)]
def Vr (H:Hp) (a:Addr) (y v:V) (H':Hp):Prop:= ∃kvs k b,H a=some (Vo a kvs)/\(∀p∈kvs,Ww H p.1 p.2.1)/\y= .ref b/\Ww H b k/\kvs.length<sizeLine/\H'=upd H a (Vo a (Vq kvs b k v))
section
variable {P:Program} {w:World} {H:Hp} {h:Heap} {a b:Addr}
abbrev KC:List (Addr×xR×V)->List (xR×Addr×Value)->Prop:=Paired λ p q=>p.2.1=q.1/\p.1=q.2.1/\RelV p.2.2 q.2.2
end
def Wx:TE:=λ _ H Q=> ∀p,H p=none->Q (.ref p) (upd H p (Vo p []))
def Wy (td ty tv:TE):TS:=λ D σ H=>tv σ H λ v H1=>td σ H1 λ x H2=>ty σ H2 λ y H3=> ∃a H4,x= .ref a/\Vr H3 a y v H4/\D.nx σ H4
section
variable {X:Cx} {o i e value:Expr} {pos pos' tpos:Pos} {td ty tv:TE}
theorem Ih {k:Nat} (hr:Room k A):A.units+12<cLine:=Yj (Nat.add_le_add_left (by decide:12<=64) _) hr.units
end
end L2
end
section
namespace L2
open PySem PySem.Spec PyProof.Rows Nk
variable {H:Hp} {a:Addr} {tg:Expr} {w:World} {S:Heap->Prop} {kvs:List (Addr×Sk×V)} {pins:List (Addr×Obj)}
section
variable {P:Program} {w:World} {H:Hp} {h:Heap} {a:Addr} {S:Heap->Prop} {od:Obj}
theorem HOk.freezeE (x:HOk P w H h) (ea:H a=some (.ext S)) (eo:h.get? a=some od):HOk P w (upd H a (.frz od (.ext S))) h:=by
 have O: ∀c y,H c=some (.own y)->upd H a (.frz od (.ext S)) c=some (.own y):=λ c y q=>by
  rw [aq (bw q ea (by intro z;cases z))];show q
 have W: ∀c xs,H c=some (.tup xs)->upd H a (.frz od (.ext S)) c=some (.tup xs):=λ c xs q=>by
  rw [aq (bw q ea (by intro z;cases z))];show q
 intro b u e;by_cases Y:b=a
 .rw [Y] at e ⊢;rw [ao] at e
  cases e;show#[eo,(x a _ ea).stay (λ c v _ q=>q) (λ c q=>O c _ q) λ c xs q=>W c xs q]
 .rw [aq Y] at e;show(x b u e).stay (λ c v _ q=>q) (λ c q=>O c _ q) λ c xs q=>W c xs q
end
theorem Inv.freezeE {X:Cx} {σ:St} {s:Shared} {od:Obj} (I:Inv X pins σ H s) (ea:H a=some (.ext S)) (eo:s.heap.get? a=some od):
  Inv X pins σ (upd H a (.frz od (.ext S))) s:=by
 refine I.call' (ch:=[]) rfl #[λ b o q _ _ _=>q,λ b o q _ _ _=>#[o.slots,q],λ b o q n _=> ?_,λ b o q _=>#[o,q],λ b xs q=> ?_,λ b o u q=> ?_,λ b ps q=>#[([].toArray),?_]] (I.hok.freezeE ea eo) I.bare λ b O=>nomatch O
 .rw [aq (λ z=>by rw [z,ea] at n;cases n)];show n
 .rw [aq (bw q ea (by intro z;cases z))];show q
 .rw [aq (bw q ea (by intro z;cases z))];show q
 .rw [aq (bw q ea (by intro z;cases z)),q];simp
theorem jD {P:Program} {h:Heap} {od:Obj} (ok:HOk P w H h) (ea:H a=some (.frz od (bx a kvs))):
  h.get? a=some od/\od.ExactDict/\(a==sysModules)=false/\ ∃es ep xs,od.data= .dict es ep/\KS kvs xs/\es.toList=xs.map zg/\es.size=kvs.length:=by
 let#[Y,#[_,y,xs,r,o,es,ep,O,h2,h3,W,_],_]:=(show ObjOk P w H h a (.frz od (bx a kvs)) from ok a _ ea);rw [Y] at O
 cases O;show#[Y,h2,y,es,ep,xs,h3,r,W,by rw [<- Array.length_toList,W,Qr];show(Paired.length r).symm]
def vh (od:Obj) (a:Addr) (kvs:List (Addr×Sk×V)):It where
 go:=λ i H=>H a=some (.frz od (bx a kvs))/\i<kvs.length
 yld:=λ i H v H'=>H'=H/\ ∃p,kvs[i]? =some p/\v= .ref p.1
 stop:=λ i H=>H a=some (.frz od (bx a kvs))/\kvs.length<=i
theorem vm {P:Program} {K:W.Frag} (it a:Addr) {od:Obj} {es:Array DictEntry} {ep:Nat} (hdd:od.data= .dict es ep):Turn P w K tg (vh od a kvs) [it] it (λ i h=>h.IsKeyIter it a i es.size ep) where
 mem:=by simp
 obj:=λ i h st b Y=>by
  let#[o,e,c,d]:=st;have e':b=it:=by simpa using Y
  rw [e'];show#[o,e,λ v z=>by rw [d] at z;cases z]
 keep:=λ i h h' st k=>by
  let#[o,e,r]:=st;show#[o,k it (by simp) o e,r]
 item:=by
  intro X hP hw hK hc i O s σ H E I hf st hg;subst hP hw hK;let#[ea,hi]:=hg;let#[eo,_,_,ag,ad,xs,e3,ac,e4,hsz]:=jD I.hok ea;rw [hdd] at e3
  cases e3;let#[f0,f1,f2,f3,f4,f5]:=hf it (by simp);refine m9 st eo hdd () λ h' ab hs=> ?_
  have I1:Inv X O σ H { s with heap:=h',toks:=s.toks }:=I.turned (λ b o Y e=>hs.extBut b o Y e) f0 f1 f3 f4 f5;let#[o,e,af,d]:=id ab;let#[p,q,hk,hx,_,r2,_]:=fu i ac hi;have ae:(es[i]'(by rfl')).key= .ref p.1:=by
   have:es.toList[i]? =some (zg q):=by rw [e4,Zi,hx];rfl
   rw [Array.getElem?_toList,Array.getElem?_eq_getElem ()] at this;rw [Yi this,r2];rfl
  refine#[_,rfl,rC (s:={ s with heap:=h' }) e af d (by decide) ⟨.ref p.1,H,I1,by rw [ae];rfl,#[rfl,p,hk,rfl],ab,λ b Y=>(hf b Y).1⟩]
 done:=by
  intro X hP hw hK hc i O s σ H E I hf st hg;subst hP hw hK;let#[ea,hi]:=hg;let#[eo,_,_,ag,ad,xs,e3,ac,e4,hsz]:=jD I.hok ea;rw [hdd] at e3
  cases e3;let#[f0,f1,f2,f3,f4,f5]:=hf it (by simp);show q9 (I.ok.hd hc) st eo hdd () λ h' kk=>#[rfl,I.turned (t':=s.toks) (λ b o Y e=>kk b o Y e) f0 f1 f3 f4 f5]
 self:=λ _ _ _ _ _ st h=>wpAny_pyIter_keyiter st h
def qz (tl:TE):TI:=λ σ H R=>tl σ H λ x H1=> ∃a kvs,x= .ref a/\((H1 a=some (bx a kvs)/\ ∀od,R (vh od a kvs) (upd H1 a (.frz od (bx a kvs))))\/ ∃od,H1 a=some (.frz od (bx a kvs))/\R (vh od a kvs) H1)
theorem tH {X:Cx} {l:Expr} {tl:TE} (hl:PE X l tl):PI X tg l (qz tl):=by
 intro O s σ H R I h;refine aW (hl O s σ H _ I h) λ v s1 ⟨x,H1,I1,r1,q1⟩=> ?_
 let#[a,kvs,rfl,q]:=q1
 cases r1;let#[Y,H2,I2,W,q]: ∃Y H2,Inv X O σ H2 s1/\H2 a=some (.frz Y (bx a kvs))/\R (vh Y a kvs) H2:=by
  rcases q with ⟨W,q⟩ | ⟨Y,W,q⟩
  .obtain ⟨⟨_,_,_,_,o,es,ep,e1,_⟩,_⟩:=(show ObjOk X.prog X.w H1 s1.heap a (bx a kvs) from I1.hok a _ W);show#[o,_,I1.freezeE W e1,ao,q o]
  .exact #[Y,H1,I1,W,q]
 let#[eo,ex,ab,es,ep,xs,e3,_]:=jD I2.hok W;refine jd ab #[Y,eo,ex.1] eo e3 ?_;refine#[s1.heap.objs.size,[s1.heap.objs.size],_,_,_,rfl,I2.kept (t':=s1.toks) λ b o e=>Zd _ e,vm _ a e3,#[_,Zo _ rfl,rfl,rfl],λ b hb=> ?_,q];rw [Za.mp hb];show I2.fpOk (Zm _) (I2.hok.fresh (Zm _))
end L2
end
section
namespace Nk
open PySem
variable {Q:Option Value->Shared->Prop}
section
variable {prog:Program} {w:World} {A:Around} {E:Value->Shared->Prop} {s:Shared} {it d v:Addr} {i ep:Nat} {od:Obj} {es:Array DictEntry} {ok ov:Value}
theorem Ii {Q:Value->Shared->Prop} (lo:(d==sysModules)=false) (hex:od.ExactDict) (ho:s.heap.get? d=some od)
  (h:Q (.ref s.heap.objs.size) { s with heap:=s.heap.push { cls:= .type "dict_items",data:= .fields ([.ref d].toArray) } }):wpAny (model prog w) A (call (.builtin "dict.items") [.ref d]) Q E s:=by
 have T:s.TypeIs (.ref d) "dict":=#[od,ho,hex.1];refine Yo F.slot_dict_items T F.entry_dict_items ?_ (F.args_dict_items_1 _);unfold Builtin.«dict.items» Builtin.Dict.noArgs;refine Qb (Qb (wpAny_notOrdered_dict T (Zc (show wpAny _ _ (Builtin.Dict.showsAll d >>= _) _ _ s from ?_))));unfold Builtin.Dict.showsAll;rw [lo];show Qb (Zc (Qb (Ys (Zc #[_,rfl,h]))))
theorem Ij {Q:Value->Shared->Prop} (hv:s.heap.IsItemsView v d) (ho:s.heap.get? d=some od) (hdd:od.data= .dict es ep)
  (h:Q (.ref s.heap.objs.size) { s with heap:=s.heap.push { cls:= .type "dict_itemiterator",data:= .fields ([.none, .bool false, .ref d, .int 0 0, .int es.size 0, .int ep 0, .none, .none].toArray) } }):
  wpAny (model prog w) A (pyIter (.ref v)) Q E s:=by
 let#[o,O,_,W]:=id hv;refine wpAny_pyIter_slot hv.typeIs F.slot_dict_items_iter (Yo F.slot_dict_items_iter hv.typeIs F.entry_dict_items_iter ?_ (F.args_dict_items_iter_1 _));unfold Builtin.«dict_items.__iter__» Builtin.Dict_items.dictOf Builtin.Dict_items.newIterator;refine Qb (Zc (Qb (Qb (Yx O W (x:= .ref d) rfl (Zc (Qb (Qb (wpAny_dictEntries ho hdd (Qb (wpAny_dictEpoch ho hdd ?_))))))))));simp only [show Builtin.Dict_items.ownsTuple "dict_itemiterator"=true by decide,if_true];refine Ys (Zc #[_,rfl,"dict_itemiterator",_,#[_,Zo _ rfl,rfl],F.slot_dict_itemiterator_next.lookup,?_]) (by simp [sizeOk,Builtin.Dict_items.ownedTupleFields,sizeLine_eq]);simpa [rawInt,Builtin.Dict_items.ownedTupleFields] using h
theorem Ik (hit:IsItemIter s.heap it d i es.size ep ok ov) (hod:s.heap.get? d=some od) (hdd:od.data= .dict es ep) (hi:i<es.size)
  (hQ: ∀h',IsItemIterOut h' it d (i+1) es.size ep es[i].key es[i].val s.heap.objs.size->h'.get? s.heap.objs.size=some { cls:= .type "tuple",data:= .seq ([es[i].key,es[i].val].toArray) }->h'.objs.size=s.heap.objs.size+1->
   (∀b o,b≠it->s.heap.get? b=some o->h'.get? b=some o)->Q (some (.ref s.heap.objs.size)) { s with heap:=h' }):wpAny (model prog w) A (pyNext (.ref it)) Q E s:=by
 have T:s.TypeIs (.ref it) "dict_itemiterator":=#[_,hit,rfl];unfold pyNext;refine Qb (wpAny_attempt (wpAny_callSpecial?_slot (name:=Str.ofString "__next__") T F.slot_dict_itemiterator_next (Yo F.slot_dict_itemiterator_next T F.entry_dict_itemiterator_next ?_ (F.args_dict_itemiterator_next_1 _))));have f0:Builtin.Dict_items.ownsTuple "dict_itemiterator"=true:=by decide
 have f1: ¬ (Value.ref d==Value.none)=true:=Zu;have f2: ¬ ((i:Int)<0):=()
 have tn: ∀ {s':Shared} {A':Around} {E':Value->Shared->Prop} {R:String->Shared->Prop},s'.TypeIs (.ref it) "dict_itemiterator"->R "dict_itemiterator" s'->wpAny (model prog w) A' (typeNameOfWhole (.ref it)) R E' s':=λ a b=>wpAny_typeNameOfWhole_itemiter a b
 repeat (first
  | (refine tn T ?_)
  | (refine wpAny_fieldsOf hit rfl ?_)
  | (refine wpAny_dictEntries hod hdd ?_)
  | (refine wpAny_dictEpoch hod hdd ?_)
  | (refine Zc ?_)
  | (refine Qb ?_)
  | (simp only [f0,if_true])
  | (rw [if_neg f1])
  | (rw [if_neg (by simp)]))
 rw [Yk,Array.getElem?_eq_getElem hi];dsimp only;refine Qb (Qb (tn T (Zc (Qb (wpAny_isOneOf_itemiter T ?_)))));change wpAny (model prog w) A.in1 (do setField (.ref it) 3 (rawInt ((i:Int)+1));_) _ _ s;refine Qb (wpAny_setField_rec hit (by simp) λ Y g1 k1=> ?_);replace k1:Heap.SameBut it s.heap Y:=k1;replace g1:IsItemIter Y it d (i+1) es.size ep ok ov:=by
  unfold IsItemIter;rw [show((i+1:Nat):Int)=(i:Int)+1 by rfl'];simpa [rawInt] using g1
 have T1:Shared.TypeIs { s with heap:=Y } (.ref it) "dict_itemiterator":=⟨_,g1,rfl⟩;refine Qb (Yp (Qb (wpAny_isOneOf_itemiter T1 (Qb (wpAny_isOneOf_itemiter T1 ?_)))));change wpAny (model prog w) _ (Builtin.Dict_items.pairFromOwner (.ref it) 6 es[i].key es[i].val) _ _ { s with heap:=Y };unfold Builtin.Dict_items.pairFromOwner Builtin.Dict_items.ownedTupleIsFree;refine Qb (wpAny_newTuple ?_);have z1:Y.objs.size=s.heap.objs.size:=k1.1;have ab:it<s.heap.objs.size:=Zh hit;let#[W,g2,t2,z2,k2,e2]: ∃W,IsItemIter W it d (i+1) es.size ep ok ov/\W.get? s.heap.objs.size=some { cls:= .type "tuple",data:= .seq ([es[i].key,es[i].val].toArray) }/\W.objs.size=s.heap.objs.size+1/\(∀b o,b≠it->s.heap.get? b=some o->W.get? b=some o)/\W=Y.push { cls:= .type "tuple",data:= .seq ([es[i].key,es[i].val].toArray) }:=
  #[_,Zd _ g1,by rw [<- z1];show Zo _ rfl,by rw [Heap.size_push,z1],λ b o O e=>Zd _ (k1.extBut b o O e),rfl]
 rw [z1];change wpAny (model prog w) _ _ _ _ { s with heap:=Y.push { cls:= .type "tuple",data:= .seq ([es[i].key,es[i].val].toArray) } };rw [<- e2];clear e2 g1 k1 T1 z1;refine Qb (Qb (Yx g2 rfl (x:= .none) rfl (Zc ?_)));simp only [if_true];refine Qb (Yx g2 rfl (x:=ok) rfl (Qb (Yx g2 rfl (x:=ov) rfl ?_)));refine Qb (wpAny_setField_rec g2 (by simp) λ h3 g3 k3=>Qb (wpAny_setField_rec g3 (by simp) λ h4 g4 k4=>Qb (wpAny_setField_rec g4 (by simp) λ h5 g5 k5=>Qb (wpAny_setField_rec g5 (by simp) λ h6 g6 k6=> ?_))));replace g6:IsItemIterOut h6 it d (i+1) es.size ep es[i].key es[i].val s.heap.objs.size:=g6;replace k3:Heap.SameBut it W h3:=k3;replace k4:Heap.SameBut it h3 h4:=k4;replace k5:Heap.SameBut it h4 h5:=k5;replace k6:Heap.SameBut it h5 h6:=k6;have kk: ∀b o,b≠it->W.get? b=some o->h6.get? b=some o:=λ b o O e=>k6.extBut b o O (k5.extBut b o O (k4.extBut b o O (k3.extBut b o O e)))
 show Qb (wpAny_letGo (Zc (Zc #[_,rfl,Zc (hQ h6 g6 (kk _ _ (Nat.ne_of_gt ab) t2) (by rw [k6.1,k5.1,k4.1,k3.1,z2]) λ b o O e=>kk b o O (k2 b o O e))])))
theorem M6 (hh:A.handled=none) (hit:IsItemIter s.heap it d i es.size ep ok ov) (hod:s.heap.get? d=some od) (hdd:od.data= .dict es ep) (hi:es.size<=i)
  (hQ: ∀h',Heap.ExtBut it s.heap h'->Q none { s with heap:=h' }):wpAny (model prog w) A (pyNext (.ref it)) Q E s:=by
 have T:s.TypeIs (.ref it) "dict_itemiterator":=#[_,hit,rfl];unfold pyNext;refine Qb (wpAny_attempt (wpAny_callSpecial?_slot (name:=Str.ofString "__next__") T F.slot_dict_itemiterator_next (Yo F.slot_dict_itemiterator_next T F.entry_dict_itemiterator_next ?_ (F.args_dict_itemiterator_next_1 _))));have f0:Builtin.Dict_items.ownsTuple "dict_itemiterator"=true:=by decide
 have f1: ¬ (Value.ref d==Value.none)=true:=Zu;have W: ∀ {s':Shared} {Y:Around} {E':Value->Shared->Prop} {R:String->Shared->Prop},s'.TypeIs (.ref it) "dict_itemiterator"->R "dict_itemiterator" s'->wpAny (model prog w) Y (typeNameOfWhole (.ref it)) R E' s':=λ a b=>wpAny_typeNameOfWhole_itemiter a b
 repeat (first
  | (refine W T ?_)
  | (refine wpAny_fieldsOf hit rfl ?_)
  | (refine wpAny_dictEntries hod hdd ?_)
  | (refine wpAny_dictEpoch hod hdd ?_)
  | (refine Zc ?_)
  | (refine Qb ?_)
  | (simp only [f0,if_true])
  | (rw [if_neg f1])
  | (rw [if_neg (by simp)]))
 rw [Yk,Array.getElem?_eq_none hi];dsimp only;refine Qb (Qb (W T (Zc ?_)));change wpAny (model prog w) A.in1 (do setField (.ref it) 2 .none;_) _ _ s;refine Qb (wpAny_setField hit rfl (by simp) (Qb ?_));have fin: ∀h' x,Heap.ExtBut it s.heap h'->(∃O,h'.get? x=some O/\O.cls= .type "StopIteration")->wpAny (model prog w) A (do let b <- isInstance (.ref x) (.type "StopIteration");if b=true then pure none else throw (.ref x)) Q E { s with heap:=h' }:=λ h' x eb ⟨O,e1,e2⟩=>Qb (wpAny_isInstance (T:="StopIteration") (b:=true) ⟨O,e1,e2⟩ isSubtype_stop (Zc (hQ h' eb)))
 simp only [newExc,newTuple,raiseNew];repeat (first
  | show fin _ _ (((Heap.SameBut.update ..).extBut.push _).push _) #[_,Zo _ rfl,rfl]
  | (refine Ys ?_ (by size_fits))
  | (refine wpAny_handled ?_)
  | (refine wpAny_throw ?_)
  | (refine Zc ?_)
  | (rw [show A.in1.handled=none from hh])
  | (refine Qb (m:=firstArgMember _ _) (wpAny_of_eq (a:=Value.none) (by first | rfl | (simp only [firstArgMember];rfl)) ?_))
  | (refine Qb ?_))
end
end Nk
namespace L2
open PySem PySem.Spec PyProof.Rows Nk
variable {k:Nat} {w:World} {tpos:Pos} {elts:List Expr} {kvs:List (Addr×Sk×V)}
def vo (od:Obj) (a:Addr) (kvs:List (Addr×Sk×V)):It where
 go:=λ i H=>H a=some (.frz od (bx a kvs))/\i<kvs.length
 yld:=λ i H v H'=> ∃p q,H p=none/\kvs[i]? =some q/\v= .ref p/\H'=upd H p (.tup [.ref q.1,q.2.2])
 stop:=λ i H=>H a=some (.frz od (bx a kvs))/\kvs.length<=i
theorem tK {P:Program} {K:W.Frag} (it a:Addr) {od:Obj} {es:Array DictEntry} {ep:Nat} (hdd:od.data= .dict es ep):
  Turn P w K (.Tuple elts k tpos) (vo od a kvs) [it] it (λ i h=> ∃ok ov,IsItemIter h it a i es.size ep ok ov) where
 mem:=by simp
 obj:=λ i h st b hb=>by
  let#[ok,ov,st]:=st;rw [Za.mp hb];show#[_,st,λ v z=>by cases z]
 keep:=λ i h h' ⟨ok,ov,st⟩ kk=>#[ok,ov,kk it (by simp) _ st]
 item:=by
  intro X hP hw hK hc i ac s σ H E I hf st hg;subst hP hw hK;let#[ok,ov,st]:=st;let#[ea,hi]:=hg;let#[eo,_,_,ai,af,xs,e3,ad,e4,hsz]:=jD I.hok ea;rw [hdd] at e3
  cases e3;refine Ik st eo hdd () λ h' a1 a3 a4 a5=> ?_
  refine#[_,rfl,wpAny_letOwnedTupleGo_items a1 λ ab b1 hs=> ?_];have hT:s.heap.objs.size≠it:=Nat.ne_of_gt (Zh st);let#[p,q,hk,hx,_,r2,r3]:=fu i ad hi;have ag:es[i]'(by rfl')=zg q:=by
   have:es.toList[i]? =some (zg q):=by rw [e4,Zi,hx];rfl
   rw [Array.getElem?_toList,Array.getElem?_eq_getElem ()] at this;show Yi this
  have kk: ∀c o,c∉[it]->s.heap.get? c=some o->ab.get? c=some o:=λ c o O q=>by
   have ae:c≠it:=λ z=>O (by rw [z];simp)
   show hs.extBut _ _ ae (a5 c o ae q)
  have I1:Inv X ac σ H { s with heap:=ab,toks:=s.toks }:=I.turnedAll kk hf;have Y:H s.heap.objs.size=none:=I.hok.fresh (Zm _);have e5:ab.get? s.heap.objs.size=some { cls:= .type "tuple",data:= .seq ([.ref p.1,q.2.2].toArray) }:=by
   have:=hs.extBut _ _ hT a3;rw [ag] at this;rw [r2];show this
  have un:Un (frs X.stack) [it] H (upd H s.heap.objs.size (.tup [.ref p.1,p.2.2])) s.heap ab:=
   ⟨λ b o q _ _ hx=>kk b o hx q,λ b o q _ _ hx=>⟨o.slots,kk b o hx q⟩,λ b o q n _=>by rw [aq (Yb (Zh q))];show n,λ b o q hx=>⟨o,kk b o hx q⟩,
    λ b xs q=>by rw [aq (aF q Y)];show q,λ b o y q=>by rw [aq (aF q Y)];show q,λ b ps q=>⟨([].toArray),by rw [aq (aF q Y),q];simp⟩⟩
  have ah:HOk X.prog X.w (upd H s.heap.objs.size (.tup [.ref p.1,p.2.2])) ab:=HOk.track I1.hok Y #[by change 2<=sizeLine;decide,[.ref p.1,q.2.2], .cons rfl (.cons r3 .nil),_,e5,rfl,_,rfl];have I2:Inv X ac σ (upd H s.heap.objs.size (.tup [.ref p.1,p.2.2])) { s with heap:=ab,toks:=s.toks }:=I.call' (s':={ s with heap:=ab,toks:=s.toks }) rfl un ah I.bare λ c O=>⟨(hf c O).2.2.2.1,(hf c O).2.1,(hf c O).2.2.2.2⟩
  refine#[.ref s.heap.objs.size,_,I2,rfl,#[_,p,Y,hk,rfl,rfl],#[_,_,b1],λ c O=> ?_];rw [Za.mp O,aq (Yb (Zh st))];show(hf it (by simp)).1
 done:=by
  intro X hP hw hK hc i ac s σ H E I hf st hg;subst hP hw hK;let#[ok,ov,st]:=st;let#[ea,hi]:=hg;let#[eo,_,_,ai,af,xs,e3,ad,e4,hsz]:=jD I.hok ea;rw [hdd] at e3
  cases e3;refine M6 (I.ok.hd hc) st eo hdd () λ h' kk=>#[rfl,I.turnedAll (t':=s.toks) (λ c o O q=>kk c o (λ z=>O (by rw [z];simp)) q) hf]
 self:=λ _ _ _ _ _ ⟨_,_,st⟩ h=>PySem.W.kcp_self st h
def qC (tl:TE):TI:=λ σ H R=>tl σ H λ x H1=> ∃a kvs,x= .ref a/\((H1 a=some (bx a kvs)/\ ∀od,R (vo od a kvs) (upd H1 a (.frz od (bx a kvs))))\/ ∃od,H1 a=some (.frz od (bx a kvs))/\R (vo od a kvs) H1)
theorem zm {X:Cx} {apos cpos:Pos} {o:Expr} {tl:TE} (hl:PE X o tl) (hbase:attributeBase o "items" X.env (eval o X.env)=eval o X.env:=by rfl) (hline:(apos.endLine==cpos.line)=true:=by rfl):
  PI X (.Tuple elts k tpos) (.Call (.Attribute o "items" apos) [] [] cpos) (qC tl):=by
 intro O s σ H R I h;refine wpAny_Call_method0_late hbase hline (aW (hl O s σ H _ I h) λ v Y ⟨x,H1,I1,r1,q1⟩=> ?_);let#[a,kvs,rfl,q]:=q1
 cases (show v=Value.ref a from r1);let#[W,H2,I2,ea,q]: ∃W H2,Inv X O σ H2 Y/\H2 a=some (.frz W (bx a kvs))/\R (vo W a kvs) H2:=by
  rcases q with ⟨ea,q⟩ | ⟨W,ea,q⟩
  .obtain ⟨⟨_,_,_,_,o,es,ep,e1,_⟩,_⟩:=(show ObjOk X.prog X.w H1 Y.heap a (bx a kvs) from I1.hok a _ ea);show#[o,_,I1.freezeE ea e1,ao,q o]
  .exact #[W,H1,I1,ea,q]
 let#[eo,ex,ab,es,ep,xs,e3,_]:=jD I2.hok ea;refine#["dict","dict.items",PySem.F.plainAttrs_dict,PySem.F.slot_dict_items,PySem.F.type_dict_items,#[W,eo,ex.1],λ a1 e1=>by cases e1;show#[W,eo,ex.2.1],Calls.callWith_builtin rfl (PySem.evalArgs_none (Ii ab ex eo ?_))];refine Ij #[_,Zo _ rfl,rfl,rfl] (Zd _ eo) e3 ?_;have I3:Inv X O σ H2 { Y with heap:=Y.heap.push { cls:= .type "dict_items",data:= .fields ([.ref a].toArray) } }:=I2.kept (t':=Y.toks) λ b ob q=>Zd _ q
 refine#[_,[_],_,_,_,rfl,I3.kept (t':=Y.toks) λ b o e=>Zd _ e,tK _ a e3,#[_,_,Zo _ rfl],λ b hb=> ?_,q];rw [Za.mp hb];show I3.fpOk (Zm _) (I3.hok.fresh (Zm _))
end L2
end
section
namespace Nk
open PySem
variable {v:Value} {p:Addr×Value} {Q:Value->Shared->Prop}
theorem Cy {α β:Type} {f:α->β}: ∀ (l:List α) (i:Nat),(l.map f).eraseIdx i=(l.eraseIdx i).map f
 | [],_=>rfl
 | _::_,0=>rfl
 | x::l,i+1=>Yc (f x:: ·) (Cy l i)
section
variable {prog:Program} {w:World} {K:Type} [DecidableEq K] {knd:HeapKind prog w K} {A:Around} {E:Value->Shared->Prop} {s:Shared} {d a:Addr} {k:K} {xs:List (K×Addr×Value)}
theorem Cz (hu:knd.room A) (hkey:knd.is s.heap k a) (hm:s.heap.DictOfH knd d xs) (hsz:xs.length<=sizeLine)
  (old: ∀ (j:Nat) (p:Addr×Value),xs[j]? =some (k,p)->Q p.2 { s with toks:=s.toks+knd.draws k })
  (new:k∉xs.map (·.1)-> ∀h',h'.DictOfH knd d (xs++[(k,a,v)])->Heap.SameBut d s.heap h'->Q v { s with heap:=h',toks:=s.toks+knd.draws k }):wpAny (model prog w) A (dictSetDefault d (.ref a) v) Q E s:=by
 let#[o,es,ep,ho,hc,W,he,Y,hn]:=hm;unfold dictSetDefault;refine Yp (Qb (knd.pyHash hu hkey (Qb (wpAny_dictFind_heap (s:={ s with toks:=s.toks+knd.draws k }) hu hkey ho W he Y hn (λ ab=> ?_) λ j p hj=> ?_))))
 .have nk:k∉xs.map (·.1):=not_mem_keys_of_get ab;refine Qb (wpAny_rule (Qb (wpAny_updateDictKeys (hz:=by have e:=size_of_entries he;rfl') (s:={ s with toks:=s.toks+knd.draws k }) ho W (Zc (new nk _ ⟨_,_,ep+1,Heap.get?_update_self _ ho (Obj.isFreed_of_dict (Obj.data_mapDictKeys W _)),hc.mapDictKeys _,Obj.data_mapDictKeys W _,by simp [he,entryOfKey],λ x O=> ?_,?_⟩ (Heap.SameBut.update ..))))))
  .have all:knd.is s.heap x.1 x.2.1:=by
    rcases Zp.mp O with O | O
    .exact Y x O
    .rw [Za.mp O];show hkey
   show knd.keeps all ho W (Heap.SameBut.update ..)
  .rw [Zg,Yt];show#[hn,by simp,λ x O y hy e=>nk (by rw [Zl,List.map_nil,Za] at hy;have q:x=k:=e.trans hy;rw [<- q];show O)]
 .refine Qb (wpAny_dictEntries (s:={ s with toks:=s.toks+knd.draws k }) ho W ?_);rw [entry_at he j,hj];show Qb (wpAny_rule (Zc (old j p hj)))
theorem CG {j:Nat} (hu:knd.room A.in1) (hkey:knd.is s.heap k a) (hm:s.heap.DictOfH knd d xs) (hj:xs[j]? =some (k,p)) (hsz:xs.length<=sizeLine)
  (h: ∀h',h'.DictOfH knd d (xs.eraseIdx j)->Heap.SameBut d s.heap h'->Q p.2 { s with heap:=h',toks:=s.toks+knd.draws k }):wpAny (model prog w) A (call (.builtin "dict.pop") [.ref d, .ref a]) Q E s:=by
 have T:=hm.typeIs;let#[o,es,ep,W,hc,O,he,Y,hn]:=hm;refine Yo F.slot_dict_pop T F.entry_dict_pop ?_ (F.args_dict_pop_2 _ _);unfold Builtin.«dict.pop» Builtin.Dict.keyAndDefault;refine Qb (Qb (wpAny_notOrdered_dict T (show wpAny _ _ (pure (d,Value.ref a,none)) _ _ s from Zc ?_)));have e0:es.size=xs.length:=size_of_entries he;have ae:j<xs.length:=(Zj.mp hj).1;have ne:es.isEmpty=false:=by rw [Array.isEmpty_eq_false_iff];intro z;rw [z] at e0;simp at e0;rfl'
 dsimp only;rw [show(keyPart (Value.ref a)).isSome=false from rfl];simp only [Yh,if_false];refine Qb (wpAny_dictEntries W O (Qb (Zc ?_)));rw [ne];simp only [Yh,if_false];unfold Builtin.Dict.takeOut;refine Qb (Yp (Qb (knd.pyHash hu hkey (Qb (wpAny_dictFind_heap (s:={ s with toks:=s.toks+knd.draws k }) hu hkey W O he Y hn (λ ad=>absurd hj (ad j p)) λ i q hi=> ?_)))));have ab:i=j/\q=p:=by
  have ac:i<xs.length:=(Zj.mp hi).1;have e1:(xs.map (·.1))[i]? =some k:=by rw [Zi,hi];rfl
  have e2:(xs.map (·.1))[j]? =some k:=by rw [Zi,hj];rfl
  have e3:i=j:=(List.getElem?_inj (by rw [Qr];show ac) hn).mp (e1.trans e2.symm);subst e3;rw [hi] at hj
  cases hj;show#[rfl,rfl]
 let#[rfl,rfl]:=ab;refine Qb (wpAny_dictEntries (s:={ s with toks:=s.toks+knd.draws k }) W O ?_);rw [entry_at he i,hi];refine Qb (wpAny_updateDictKeys (hz:=()) (s:={ s with toks:=s.toks+knd.draws k }) W O (Zc ?_));dsimp only;simp only [Option.isNone_some,Yh,if_false];refine Qb (wpAny_letGo (Zc #[_,rfl,h _ #[_,_,ep+1,Heap.get?_update_self _ W (Obj.isFreed_of_dict (Obj.data_mapDictKeys O _)),hc.mapDictKeys _,Obj.data_mapDictKeys O _,?_,λ x hx=>knd.keeps (Y x (List.mem_of_mem_eraseIdx hx)) W O (Heap.SameBut.update ..),?_] (Heap.SameBut.update ..)]))
 .rw [Array.eraseIdxIfInBounds,dif_pos (),Array.toList_eraseIdx,he];show Cy _ _
 .exact List.Nodup.sublist (List.Sublist.map _ (List.eraseIdx_sublist _ _)) hn
end
end Nk
namespace L2
open PySem PySem.Spec PyProof.Rows Nk
variable {r:Value} {k:List Key} {p:Addr×Value} {Q:Value->Shared->Prop} {kvs:List (List Key×V)}
theorem KT.drop {H:Hp} {xs:List (List Key×Addr×Value)} (r:KT H kvs xs): ∀ {j:Nat},(xs.map (·.1)).Nodup->xs[j]? =some (k,p)->KT H (cL kvs k) (xs.eraseIdx j):=by
 induction r with
 | nil=>intro j _ h;cases h
 | @cons p0 q0 ps qs h0 t ih=>
  intro j W hj;rw [Zl,List.nodup_cons] at W;have keys: ∀ {l:List (List Key×V)} {m:List (List Key×Addr×Value)},KT H l m->m.map (·.1)=l.map (·.1):=λ r=>by
   induction r with
   | nil=>rfl
   | cons h _ ih=>rw [Zl,Zl,ih,h.1]
  cases j with
  | zero=>
   cases hj;have e1:p0.1=k:=h0.1;have Y:cL (p0::ps) k=ps:=by
    unfold cL;rw [List.filter_cons,if_neg (by simp [e1]),List.filter_eq_self];intro y my;have:y.1≠k:=λ z=>W.1 (by rw [keys t];show Zb.mpr #[y,my,z])
    show Zz this
   rw [Y];show t
  | succ j=>
   have O:qs[j]? =some (k,p):=hj;have ne:p0.1≠k:=λ z=>W.1 (Zb.mpr #[(k,p),Zf O,(h0.1.symm.trans z).symm])
   have Y:cL (p0::ps) k=p0::cL ps k:=by
    unfold cL;rw [List.filter_cons,if_pos (Zz ne)]
   rw [Y];show .cons h0 (ih W.2 O)
theorem M7 {xs:List (List Key×Addr×Value)} (h:atKey xs k=some p): ∃j:Nat,xs[j]? =some (k,p):=by
 let#[#[W,p'],O,rfl]:=Ye.mp h;let#[j,Y]:=List.mem_iff_getElem?.mp (List.mem_of_find?_eq_some O);have e:=List.find?_some O;show#[j,by rw [Y,show W=k from of_decide_eq_true e]]
section
variable {X:Cx} {pins:List (Addr×Obj)} {σ:St} {H:Hp} {s:Shared} {a b:Addr} {kvs:List (List Key×V)} {k:List Key} {A:Around} {E:Value->Shared->Prop}
theorem M8 {v:V} (hu:A.units+1<cLine) (I:Inv X pins σ H s) (e:H a=some (.dT kvs)) (eb:H b=some (.tup (k.map kV))) (l:bA kvs k=some v)
  (h: ∀w' s',Inv X pins σ (upd H a (.dT (cL kvs k))) s'->RelV v w'->Q w' s'):wpAny (model X.prog X.w) A (call (.builtin "dict.pop") [.ref a, .ref b]) Q E s:=by
 let#[z,hd,xs,O,dd]:=oG I.hok e;let#[w',hw,ab]:=RelO.some_of (v:=v) (o:=(atKey xs k).map (·.2)) (by rw [<- l];show O.val k);let#[p,hp,rfl]:=Ye.mp hw;let#[j,hj]:=M7 hp;have Y:(xs.map (·.1)).Nodup:=by let#[_,_,_,_,_,_,_,_,Y]:=dd;show Y
 refine CG (tupleKind_room_in1 hu) (gC I.hok eb) dd hj (by rw [<- Paired.length O];show z) λ h' W hs=>h _ _ ?_ ab
 let#[q,es,ep,hq,h2,h3,h4,_,h5]:=W;refine fP I (by rw [e];show True.intro) hs ⟨q,hq⟩ ⟨Nat.le_trans (Ar kvs k) z,hd,_,(O.drop Y hj).keeps λ c ys ec=> ?_,q,es,ep,hq,h2,h3,h4,h5⟩;rw [aq (bw ec e (λ z=>nomatch z))];show ec
theorem M9 {z:V} (hu:A.units+1<cLine) (I:Inv X pins σ H s) (e:H a=some (.dT kvs)) (eb:H b=some (.tup (k.map kV))) (hl:kvs.length<sizeLine) (rz:RelV z r)
  (h1: ∀v w' s',bA kvs k=some v->Inv X pins σ H s'->RelV v w'->Q w' s') (h2: ∀s',bA kvs k=none->Inv X pins σ (upd H a (.dT (kvs++[(k,z)]))) s'->Q r s'):wpAny (model X.prog X.w) A (call (.builtin "dict.setdefault") [.ref a, .ref b,r]) Q E s:=by
 let#[zz,hd,xs,O,dd]:=oG I.hok e;have T:=dd.typeIs;refine Yo PySem.F.slot_dict_setdefault T PySem.F.entry_dict_setdefault ?_ (PySem.F.args_dict_setdefault_3 _ _ _);unfold Builtin.«dict.setdefault» Builtin.Dict.keyAndDefault;refine Qb (Qb (wpAny_notOrdered_dict T (show wpAny _ _ (pure (a,Value.ref b,some r)) _ _ s from Zc ?_)));dsimp only;rw [hd];simp only [Yh,if_false];have hn:(xs.map (·.1)).Nodup:=by let#[_,_,_,_,_,_,_,_,hn]:=id dd;show hn
 refine Qb (Cz (A:=A.in1) (tupleKind_room_in1 hu) (gC I.hok eb) dd (by rw [<- Paired.length O];show zz) (λ j p hj=>Zc #[_,rfl,?_]) λ nk h' ab hs=>Zc #[_,rfl,?_])
 .have ha:atKey xs k=some p:=atKey_of_get hn hj;have:=O.val k;rw [ha] at this
  cases W:bA kvs k with
  | none=>rw [W] at this;show absurd this (λ z=>nomatch z)
  | some v=>rw [W] at this;show h1 v _ _ W (I.tok _) this
 .have W:bA kvs k=none:=by
   have ha:atKey xs k=none:=Sy.p6 nk;have:=O.val k;rw [ha] at this
   cases W:bA kvs k with
   | none=>rfl
   | some v=>rw [W] at this;show absurd this (λ z=>nomatch z)
  refine h2 _ W ?_;let#[q,es,ep,hq,g2,g3,g4,_,g5]:=ab;have Y:KT H (kvs++[(k,z)]) (xs++[(k,b,r)]):=by
   have:=O.put k (b:=b) eb rz;rw [show putK kvs k z=kvs++[(k,z)] from dM _ W,storedH_new (Sy.p6 nk)] at this;show this
  refine fP I (by rw [e];show True.intro) hs ⟨q,hq⟩ ⟨by rw [Zq,Yf];rfl',hd,_,Y.keeps λ c ys ec=> ?_,q,es,ep,hq,g2,g3,g4,g5⟩;rw [aq (bw ec e (λ z=>nomatch z))];show ec
end
def CJ (td ty:TE):TE:=λ σ H Q=>td σ H λ x H1=> ∃a,x= .ref a/\Lj H1 a/\ty σ H1 λ y H2=> ∃kvs k b v,H2 a=some (.dT kvs)/\y= .ref b/\H2 b=some (.tup (k.map kV))/\bA kvs k=some v/\Q v (upd H2 a (.dT (cL kvs k)))
def CK (td ty tx:TE):TE:=λ σ H Q=>td σ H λ x H1=> ∃a,x= .ref a/\Lj H1 a/\ty σ H1 λ y H2=>tx σ H2 λ z H3=> ∃kvs k b,H3 a=some (.dT kvs)/\y= .ref b/\H3 b=some (.tup (k.map kV))/\kvs.length<sizeLine/\
 (∀v,bA kvs k=some v->Q v H3)/\(bA kvs k=none->Q z (upd H3 a (.dT (kvs++[(k,z)]))))
section
variable {X:Cx} {o e f:Expr} {apos cpos:Pos} {td ty tx:TE}
theorem Il (hu:X.A.units+1<cLine) (ho:PE X o td) (he:PE X e ty) (m:M1 X o "pop" apos e cpos):PE X (.Call (.Attribute o "pop" apos) [e] [] cpos) (CJ td ty):=by
 intro O s Y H Q I h;refine wpAny_Call_method m.base m.few m.line PySem.F.plainAttrs_dict PySem.F.slot_dict_pop PySem.F.type_dict_pop (aW (ho O s Y H _ I h) λ u s1 ⟨x,H1,I1,rx,a,ex,d,q1⟩=> ?_);subst ex;obtain rfl:u=Value.ref a:=rx;let#[t1,t2,_]:=uG I1 d;refine#[t1,t2,?_];rw [m.trees];refine Calls.callWith_builtin rfl (Calls.evalArgs_plain (Calls.spliced_cons (aW (he O s1 Y H1 _ I1 q1) λ iv s2 ⟨y,H2,I2,ry,kvs,k,b,v,ea,ey,eb,l,q2⟩=>Calls.spliced_nil ?_)));subst ey
 cases (show iv=Value.ref b from ry);show M8 hu I2 ea eb l λ w' s3 I3 W=>#[v,_,I3,W,q2]
theorem Im (hu:X.A.units+1<cLine) (ho:PE X o td) (he:PE X e ty) (hf:PE X f tx) (m:M2 X o "setdefault" apos e f cpos):PE X (.Call (.Attribute o "setdefault" apos) [e,f] [] cpos) (CK td ty tx):=by
 intro O s Y H Q I h;refine wpAny_Call_method m.base m.few m.line PySem.F.plainAttrs_dict PySem.F.slot_dict_setdefault PySem.F.type_dict_setdefault (aW (ho O s Y H _ I h) λ u s1 ⟨x,H1,I1,rx,a,ex,d,q1⟩=> ?_);subst ex;obtain rfl:u=Value.ref a:=rx;let#[t1,t2,_]:=uG I1 d;refine#[t1,t2,?_];rw [m.trees];refine Calls.callWith_builtin rfl (Calls.evalArgs_plain (Calls.spliced_cons (aW (he O s1 Y H1 _ I1 q1) λ iv s2 ⟨y,H2,I2,ry,q2⟩=>
  Calls.spliced_cons (aW (hf O s2 Y H2 _ I2 q2) λ fv s3 ⟨z,H3,I3,rz,kvs,k,b,ea,ey,eb,hl,q3,q4⟩=>Calls.spliced_nil ?_))))
 subst ey
 cases (show iv=Value.ref b from ry);show M9 hu I3 ea eb hl rz (λ v w' s4 l W ab=>#[v,H3,W,ab,q3 v l]) λ s4 l W=>#[z,_,W,rz,q4 l]
end
end L2
end
section
namespace Nk
open PySem
variable {x:Value} {E Q:Value->Shared->Prop}
section
variable {prog:Program} {w:World} {A:Around} {R:Result->Shared->Prop} {I S:Addr} {fp wr:List Addr} {n:Nat} {P:Nat->Value->Prop} {St:Nat->Heap->Prop} {bt:Nat->Nat->Bool}
def JK (prog:Program) (w:World) (A:Around) (P:Nat->Value->Prop) (St:Nat->Heap->Prop) (bt:Nat->Nat->Bool):Prop:=
 ∀m i j x y (s:Shared) (Q:Value->Shared->Prop) (E:Value->Shared->Prop),St m s.heap->P i x->P j y->Q (.bool (bt i j)) s->wpAny (model prog w) A (richCompare .Lt x y) Q E s
theorem kY:(toString "min"++toString ".loop":String)="min.loop":=by decide
theorem Io (W:Walks prog w A.in1 I fp wr n P St) (cmp:JK prog w A.in1 P St bt) (hSf:S∉fp): ∀ (k j:Nat) (s:Shared) (x:Value) (c:Nat),n=j+1+k->St (j+1) s.heap->P (argBest bt j) x->
  s.heap.get? S=some { cls:= .type "list",dict:=none,data:= .seq ([x,x].toArray) c,slots:= ([].toArray) }->
  (∀v h' tk,P (argBest bt (n-1)) v->(∀b o,b∉wr->b≠S->s.heap.get? b=some o->h'.get? b=some o)->R (.ok (.ret v)) { s with heap:=h',toks:=tk })->
  codeAny (model prog w) A (.builtin "min.loop" #[[.ref I, .none, .ref S],[]]) R s:=by
 have ae:S∉wr:=λ h=>hSf (W.sub _ h)
 intro k;induction k with
 | zero=>
  intro j s x c hk st hx eS hR;have ej:j+1=n:=hk.symm;refine codeAny_builtin F.entry_min_loop ?_;rw [Around.under_plainId F.plain_min_loop _];refine Qb (wpAny_seqItems eS rfl (Qb (wpAny_tryCatch (W.done s _ _ (ej▸st) λ h' tk kk=> ?_))));have ab:=kk S _ ae eS;refine Qb (wpAny_updateSeq ab rfl (Qb (wpAny_letGo (Zc (hR x _ tk (by rw [<- ej];show hx) λ b o hb O e=> ?_)))));rw [Heap.get?_update_other _ _ (Ne.symm O)];show kk b o hb e
 | succ k ih=>
  intro j s x c hk st hx eS hR;refine codeAny_builtin F.entry_min_loop ?_;rw [Around.under_plainId F.plain_min_loop _];refine Qb (wpAny_seqItems eS rfl (Qb (wpAny_tryCatch (W.item (j+1) s _ _ () st λ y h' tk hy ad kk=> ?_))));have ab:=kk S _ ae eS;have off: ∀ {f:Obj->Obj} {b:Addr} {o:Obj},b≠S->h'.get? b=some o->(h'.update S f).get? b=some o:=λ hb e=>by rw [Heap.get?_update_other _ _ (Ne.symm hb)];show e
  change wpAny _ A.in1 (tryCatch (holding [y,y] (richCompare .Lt y x >>= _)) _ >>= _) _ _ _;refine Qb (wpAny_tryCatch (Yp (Qb (cmp _ (j+1) (argBest bt j) y x _ _ _ ad hy hx (Qb (Yp (wpAny_truthy_bool (Qb (wpAny_letGo (Zc ?_))))))))))
  cases hb:bt (j+1) (argBest bt j) with
  | true=>
   simp only [if_true];refine Qb (wpAny_updateSeq ab rfl (Qb (wpAny_letGo ?_)));rw [kY];refine Zc #[plainId_quiet F.plain_min_loop _,ih (j+1) _ y _ () (W.frame _ _ _ ad λ b af o e=>off (λ z=>hSf (z▸af)) e) (by rw [argBest,if_pos hb];show hy) (Heap.get?_update_self _ ab rfl) λ v h2 ac hv k2=>hR v h2 ac hv λ b o Y O e=>k2 b o Y O (off O (kk b o Y e))]
  | false=>
   simp only [Yh,if_false];refine Qb (wpAny_letGo ?_);rw [kY];show Zc #[plainId_quiet F.plain_min_loop _,ih (j+1) _ x c () ad (by rw [argBest,if_neg (by rw [hb];decide)];show hx) ab λ v h2 ac hv k2=>hR v h2 ac hv λ b o Y O e=>k2 b o Y O (kk b o Y e)]
theorem CN {s:Shared}
  (h:wpAny (model prog w) A.in1 (pyIter x) (λ it s₂=> ∃I fp wr n P St bt,it= .ref I/\Walks prog w A.in1 I fp wr n P St/\St 0 s₂.heap/\(∀b∈fp,b<s₂.heap.objs.size)/\0<n/\JK prog w A.in1 P St bt/\
   ∀v h' tk,P (argBest bt (n-1)) v->(∀b o,b∉wr->s₂.heap.get? b=some o->h'.get? b=some o)->Q v { s₂ with heap:=h',toks:=tk }) E s):
  wpAny (model prog w) A (call (.builtin "min") [x]) Q E s:=by
 refine call_function_tree F.kind_min F.plain_min F.entry_min (F.args_min1 _) ?_;change wpAny _ A.in1 (Builtin.Builtins.bindParams "min" ["key","default"] 0 #[[],[]] >>= _) _ _ s;refine Qb (wpAny_of_eq (a:=[none,none]) rfl (Qb (Zc (Qb (Yv h (λ it s₂ ab=> ?_) λ _ _ e=>e)))));let#[I,fp,wr,n,P,St,bt,rfl,W,st,ah,hn,ai,hQ]:=ab;refine Qb (Ys ?_);have O:s₂.heap.objs.size∉fp:=λ hm=>Nat.lt_irrefl _ (ah _ hm)
 have ag:s₂.heap.objs.size∉wr:=λ h=>O (W.sub _ h)
 rw [kY];refine Zc #[plainId_quiet F.plain_min_loop _,codeAny_builtin F.entry_min_loop ?_];rw [Around.under_plainId F.plain_min_loop _];have e0:(s₂.heap.push { cls:= .type "list",data:= .seq ([].toArray) }).get? s₂.heap.objs.size=some { cls:= .type "list",dict:=none,data:= .seq ([].toArray) 0,slots:= ([].toArray) }:=Zo _ rfl;refine Qb (wpAny_seqItems e0 rfl (Qb (wpAny_tryCatch (W.item 0 _ _ _ hn (W.frame _ _ _ st λ b _ o e=>Zd _ e) λ y h' tk hy af kk=> ?_))));have ad:=kk s₂.heap.objs.size _ ag e0;have off: ∀ {f:Obj->Obj} {b:Addr} {o:Obj},b≠s₂.heap.objs.size->h'.get? b=some o->(h'.update s₂.heap.objs.size f).get? b=some o:=λ hb e=>by rw [Heap.get?_update_other _ _ (Ne.symm hb)];show e
 change wpAny _ A.in1 (updateSeq s₂.heap.objs.size (λ _=> ([y,y].toArray)) >>= _) _ _ _;refine Qb (wpAny_updateSeq ad rfl ?_);rw [kY];refine Zc #[plainId_quiet F.plain_min_loop _,Io W ai O (n-1) 0 _ y _ () (W.frame _ _ _ af λ b al o e=>off (λ z=>O (z▸al)) e) hy (Heap.get?_update_self _ ad rfl) λ v h2 ae hv k2=>hQ v h2 ae hv λ b o Y e=> ?_];have ac:b≠s₂.heap.objs.size:=Yb (Zh e);show k2 b o Y ac (off ac (kk b o Y (Zd _ e)))
end
end Nk
namespace L2
open PySem PySem.Spec PyProof.Rows Nk
theorem tL (f:Nat->List Int): ∀k,argBest (λ i j=>HT.lexLt (f i) (f j)) k<=k/\ ∀j,j<=k->HT.lexLt (f j) (f (argBest (λ i j=>HT.lexLt (f i) (f j)) k))=false
 | 0=>#[Nat.le_refl _,λ j O=>by rw [Nat.le_zero.mp O];show qw _]
 | k+1=>by
  let#[h1,Y]:=tL f k;rw [argBest];split
  .rename_i W;refine#[Nat.le_refl _,λ j O=> ?_];rcases Nat.lt_or_eq_of_le O with O | rfl
   .exact Cu (tD W) (Y j ())
   .exact qw _
  .rename_i W;refine#[(),λ j O=> ?_];rcases Nat.lt_or_eq_of_le O with O | rfl
   .exact Y j ()
   .exact Bool.eq_false_iff.mpr W
def CP:List V->Hp->VK->Prop:=λ vs H Q=> ∃ (a:Addr) (kvs:List (List Int×V)),vs=[.ref a]/\H a=some (.dT (kvs.map λ p=>(p.1.map Sum.inl,p.2)))/\kvs≠[]/\
 ∀b k,H b=some (.tup (k.map V.int))->k∈kvs.map (·.1)->(∀k'∈kvs.map (·.1),HT.lexLt k' k=false)->Q (.ref b) H
theorem zp {X:Cx} (hc:X.calm=true) (hu:X.A.units+1<cLine):bG X (.builtin "min") CP:=by
 intro ap s σ H vs us Q I rv h;let#[a,kvs,rfl,ea,am,q]:=h;let#[u,rfl,ru]:=rv.one
 cases (show u=Value.ref a from ru);let#[z,hd,xs,ah,dd]:=oG I.hok ea;let#[o,es,ep,ho,al,ae,he,_,hn]:=dd;have ad:kvs.length=xs.length:=by have:=Paired.length ah;rw [Qr] at this;show this
 have ar:es.size=kvs.length:=by rw [<- Array.length_toList,he,Qr,ad]
 have af:0<kvs.length:=List.length_pos_iff.mpr am;have ab: ∀ {i:Nat} {x},xs[i]? =some x-> ∃p,kvs[i]? =some p/\H x.2.1=some (.tup (p.1.map V.int)):=λ {i x} hx=>by
  have hi:i<kvs.length:=by rw [ad];show(Zj.mp hx).1
  let#[p,y,h1,h2,h3,h4,_]:=fu i ah (by rw [Qr];show hi);rw [hx] at h2
  cases h2;rw [Zi] at h1;let#[p',e1,rfl]:=Ye.mp h1;refine#[p',e1,?_];rw [h4,Zn];rfl
 have tup: ∀ {i:Nat} {x p},xs[i]? =some x->kvs[i]? =some p-> ∃Y:List Value,IsTup s.heap x.2.1 Y.toArray/\IntsAre Y p.1:=λ {i x p} hx hp=>by
  let#[p',e1,e2]:=ab hx;rw [hp] at e1
  cases e1;let#[Y,r,ht,_]:=I.tuple (SqT.of (K:=X.K) e2);show#[Y,ht,ji r]
 let#[kk,ac]: ∃kk:Nat->List Int,∀ {i p},kvs[i]? =some p->kk i=p.1:=⟨λ i=>((kvs[i]?).map λ p=>p.1).getD [],λ {i p} hp=>by dsimp only;rw [hp];rfl⟩;refine CN (jd hd ⟨o,ho,al.1⟩ ho ae ⟨s.heap.objs.size,s.heap.objs.size::a::xs.map (·.2.1),[s.heap.objs.size],kvs.length,(λ i v=> ∃x,xs[i]? =some x/\v= .ref x.2.1),
  (λ i h=>h.IsKeyIter s.heap.objs.size a i es.size ep/\h.get? a=some o/\ ∀x∈xs,∀O,s.heap.get? x.2.1=some O->h.get? x.2.1=some O),(λ i j=>HT.lexLt (kk i) (kk j)),rfl,?W,⟨⟨_,Zo _ rfl,rfl,rfl⟩,Zd _ ho,λ x _ O e=>Zd _ e⟩,?lt,af,?cmp,λ v h' tk hv kp=> ?fin⟩)
 case lt=>
  intro b hb;rw [show(s.heap.push { cls:= .type "dict_keyiterator",data:= .fields ([.ref a, .int 0 0, .int es.size 0, .int ep 0].toArray) }).objs.size=s.heap.objs.size+1 from Heap.size_push ..];rcases Zk.mp hb with rfl | hb
  .exact Nat.lt_succ_self _
  rcases Zk.mp hb with rfl | hb
  .exact Nat.lt_succ_of_lt (Zh ho)
  let#[x,mx,rfl]:=Zb.mp hb;let#[i,hi]:=List.mem_iff_getElem?.mp mx;let#[p,hp,_]:=ab hi;let#[Y,#[O,e1,_],_]:=tup hi hp;show Nat.lt_succ_of_lt (Zh e1)
 case cmp=>
  rintro m i j x y s' Q' E' ⟨_,_,hk⟩ ⟨x',hx,rfl⟩ ⟨y',hy,rfl⟩ hQ;let#[p1,ai,_]:=ab hx;let#[p2,ag,_]:=ab hy;let#[i1,#[o1,g1,r1],n1]:=tup hx ai;let#[i2,#[o2,g2,r2],n2]:=tup hy ag;dsimp only at hQ;rw [ac ai,ac ag] at hQ;show HT.ut (A:=X.A.in1) #[o1,hk x' (Zf hx) _ g1,r1] #[o2,hk y' (Zf hy) _ g2,r2] n1 n2 (by change X.A.units+1<cLine;show hu) hQ
 case W=>
  have na:a≠s.heap.objs.size:=Yb (Zh ho);have nx: ∀x∈xs,x.2.1≠s.heap.objs.size:=λ x mx=>by
   let#[i,hi]:=List.mem_iff_getElem?.mp mx;let#[p,hp,_]:=ab hi;let#[Y,#[O,e1,_],_]:=tup hi hp;show Yb (Zh e1)
  refine#[λ b hb=>by rw [Za.mp hb];show Zt,λ i h h' st k=>#[st.1.at λ O e=>k _ Zt O e,k a (Zs _ Zt) _ st.2.1,λ x mx O e=>k _ (Zs _ (Zs _ (Zb.mpr #[x,mx,rfl]))) _ (st.2.2 x mx O e)],λ i s' Q' E' hi st hQ=> ?_,λ s' Q' E' st hQ=> ?_,λ i s' Q' E' st hq=>wpAny_pyIter_keyiter st.1 hq]
  .refine m9 st.1 st.2.1 ae () λ h' a1 a2=>hQ _ h' s'.toks ?_ #[a1,(a2.2 a na).trans st.2.1,λ x mx O e=>(a2.2 _ (nx x mx)).trans (st.2.2 x mx O e)] λ b O hb e=>(a2.2 b λ z=>hb (by rw [z];simp)).trans e
   have hx:xs[i]? =some (xs[i]'(by rfl')):=Ze ();refine#[_,hx,?_];have:es.toList[i]? =some (entryOfKey (tupleKind (aX X.prog X.w)) (xs[i]'(by rfl'))):=by rw [he,Zi,hx];rfl
   rw [Array.getElem?_toList,Array.getElem?_eq_getElem ()] at this;rw [Yi this];rfl
  .exact q9 (I.ok.hd hc) st.1 st.2.1 ae () λ h' eb=>hQ h' s'.toks λ b O hb e=>eb b O (λ z=>hb (by rw [z];simp)) e
 case fin=>
  let#[x,hx,rfl]:=hv;let#[p,hp,e2]:=ab hx;let#[b1,b2]:=tL kk (kvs.length-1);refine#[.ref x.2.1,H,I.kept (t':=tk) λ b O e=>kp b O (λ z=> ?_) (Zd _ e),rfl,q _ _ e2 (Zb.mpr #[p,Zf hp,rfl]) λ k' mk=> ?_]
  .exact absurd (Za.mp z) (Yb (Zh e))
  .obtain ⟨p',mp,rfl⟩:=Zb.mp mk;let#[j,hj]:=List.mem_iff_getElem?.mp mp;have as:=(Zj.mp hj).1;have:=b2 j ();rw [ac hj,ac hp] at this;show this
end L2
end
section
namespace Nk
open PySem PySem.Spec PyProof PyProof.Rows
variable {A:Around} {E:Value->Shared->Prop}
mutual
def qD:PyData->PyData->Bool
 | .int a, .int b=>decide (a<b)
 | .str x, .str y=>decide (x.cps.toList<y.cps.toList)
 | .tuple xs, .tuple ys=>qF xs ys
 | _,_=>false
def qF:List PyData->List PyData->Bool
 | [],[]=>false
 | [],_::_=>true
 | _::_,[]=>false
 | x::xs,y::ys=>if PyData.eqv x y=true then qF xs ys else qD x y
end
mutual
inductive CmpD:PyData->PyData->Prop where
 | int (a b:Int):CmpD (.int a) (.int b)
 | str (x y:Str):CmpD (.str x) (.str y)
 | tup {xs ys:List PyData}:CmpDs xs ys->CmpD (.tuple xs) (.tuple ys)
inductive CmpDs:List PyData->List PyData->Prop where
 | nil {ys:List PyData}:CmpDs [] ys
 | over {xs:List PyData}:CmpDs xs []
 | cons {x y:PyData} {xs ys:List PyData}:CmpD x y->CmpDs xs ys->CmpDs (x::xs) (y::ys)
end
section
variable {prog:Program} {w:World} {s:Shared}
theorem vp {h:Heap}: ∀ {vs:List Value} {ds:List PyData} {as:List Addr},ReadsAll h vs ds as->vs.length=ds.length
 | _,_,_, .nil=>rfl
 | _,_,_, .cons _ r=>Yc (· +1) (vp r)
theorem Ma {m:Nat} {β:Type} {f:Value×Value->β->Sem (ForInStep β)} {i:β} {g:Bool->β}
  (hf: ∀x y d e as bs (Q:ForInStep β->Shared->Prop),d.depth<=m->Reads s.heap x d as->Reads s.heap y e bs->CmpD d e->PyData.canLay0 d=true->PyData.canLay0 e=true->(if PyData.eqv d e=true then Q (.yield i) s else Q (.done (g (qD d e))) s)->wpAny (model prog w) A (f (x,y) i) Q E s):
  ∀ (xs ys:List Value) (ds es:List PyData) (as bs:List Addr) (Q:β->Shared->Prop),PyData.depthAll ds<=m->ReadsAll s.heap xs ds as->ReadsAll s.heap ys es bs->CmpDs ds es->PyData.canLayAll0 ds=true->PyData.canLayAll0 es=true->
   (qF ds es=decide (ds.length<es.length)->Q i s)->Q (g (qF ds es)) s->wpAny (model prog w) A (forIn (xs.zip ys) i f) Q E s:=by
 intro xs;induction xs with
 | nil=>
  intro ys ds es as bs Q hm ra rb c Y l2 O W
  cases ra;rw [List.zip_nil_left,List.forIn_nil];refine Zc (O ?_)
  cases es<;>simp [qF]
 | cons x xs ih=>
  intro ys ds es as bs Q hm ra rb c Y l2 O W
  cases ra with
  | cons r1 r2=>
   cases rb with
   | nil=>
    rw [List.zip_nil_right,List.forIn_nil];show Zc (O (by simp [qF]))
   | cons k1 k2=>
    cases c with
    | cons c1 c2=>
     simp only [PyData.canLayAll0,Bool.and_eq_true] at Y l2;simp only [PyData.depthAll] at hm;rw [List.zip_cons_cons,Yw];refine Qb (hf _ _ _ _ _ _ _ () r1 k1 c1 Y.1 l2.1 ?_);rw [qF] at O W;split
     .rename_i e;rw [if_pos e] at O W;show ih _ _ _ _ _ Q () r2 k2 c2 Y.2 l2.2 (λ z=>O (by rw [z];show decide_eq_decide.mpr (by simp))) W
     .rename_i e;rw [if_neg e] at W;show Zc W
theorem Ip: ∀ (n:Nat) (d e:PyData) (A:Around) (a b:Value) (as bs:List Addr) (Q:Value->Shared->Prop) (E:Value->Shared->Prop),d.depth<=n->CmpD d e->Reads s.heap a d as->Reads s.heap b e bs->PyData.canLay0 d=true->PyData.canLay0 e=true->A.units+n+1<cLine->Q (.bool (qD d e)) s->wpAny (model prog w) A (richCompare .Lt a b) Q E s:=by
 intro n;induction n with
 | zero=>
  intro d e A a b as bs Q E hn c W Y l1 l2 hu O
  cases c with
  | int i j=>
   cases W;cases Y;rw [qD] at O;show wpAny_lt_int (A:=A) (Q:=Q) O
  | str x y=>
   cases W;cases Y;rw [qD] at O;show lt_str (A:=A) (Q:=Q) O
  | tup c=>simp [PyData.depth] at hn
 | succ n ih=>
  intro d e A a b as bs Q E hn c W Y l1 l2 hu O
  cases c with
  | int i j=>
   cases W;cases Y;rw [qD] at O;show wpAny_lt_int (A:=A) (Q:=Q) O
  | str x y=>
   cases W;cases Y;rw [qD] at O;show lt_str (A:=A) (Q:=Q) O
  | tup c=>
   cases W with
   | tuple e1 c1 d1 r1=>
    cases Y with
    | tuple e2 c2 d2 r2=>
     rw [qD] at O;simp only [PyData.depth] at hn;simp only [PyData.canLay0] at l1 l2;refine wpAny_richCompare_same_room (op:= .Lt) #[_,e1,c1] #[_,e2,c2] PySem.F.slot_tuple_lt
      (Yo PySem.F.slot_tuple_lt #[_,e1,c1] PySem.F.entry_tuple_lt ?_ (PySem.F.args_tuple_lt_2 _ _)) ()
     change wpAny _ _ (isInstance (.ref _) (.type "tuple") >>= _) _ _ s;refine Qb (wpAny_isInstance #[_,e2,c2] isSubtype_tuple_tuple ?_);simp only [Bool.not_true,Yh,if_false];refine Qb (wpAny_tupleItemsOf e1 d1 ?_);refine Qb (wpAny_tupleItemsOf e2 d2 ?_);refine Qb ?_;refine Ma (m:=n) (g:=λ b=>#[some (.done (.ret (.bool b))),#[]]) ?_ _ _ _ _ _ _ _ () r1 r2 c l1 l2 ?_ ?_
     .intro x y d e as bs Q' hd rx ry cd lx ly hq;refine Qb (SeqAt.eqBoolOverData _ _ _ _ _ _ _ _ _ _ _ _ rx ry lx ly (by change A.units+1+_<cLine;rfl') ?_);split at hq
      .rename_i ev;rw [ev];simp only [Bool.not_true,Yh,if_false];show Zc hq
      .rename_i ev;rw [Bool.eq_false_iff.mpr ev];simp only [Bool.not_false,if_true];refine Qb (wpAny_rule (Qb ?_));refine ih _ _ _ _ _ _ _ _ _ hd cd rx ry lx ly (by change A.units+1+n+1<cLine;rfl') ?_;show Qb (Zc (Zc hq))
     .intro z;rw [z] at O;rw [<- vp r1,<- vp r2] at O;show Zc #[_,rfl,(λ e=>nomatch e),O]
     .exact Zc #[_,rfl,(λ e=>nomatch e),O]
end
end Nk
namespace L2
open PySem PySem.Spec PyProof PyProof.Rows Nk
def qG (K:W.Frag):List V->Hp->VK->Prop:=λ xs H Q=> ∃ (a:Addr) (us:List (V×PyData)) (f:PyData->Int),xs=[.ref a]/\SqL K H a (us.map (·.1))/\us≠[]/\
 (∀u∈us,Dp K H u.1 u.2/\u.2.canLay0=true/\u.2.depth<=8)/\(∀u∈us,∀v∈us,CmpD u.2 v.2/\(qD u.2 v.2=true->f u.2<=f v.2)/\(qD u.2 v.2=false->f v.2<=f u.2))/\
 ∀u∈us,(∀v∈us,f u.2<=f v.2)->Q u.1 H
theorem tM {bt:Nat->Nat->Bool} {f:Nat->Int} {n:Nat} (h: ∀i j,i<n->j<n->(bt i j=true->f i<=f j)/\(bt i j=false->f j<=f i)): ∀k,k<n->argBest bt k<=k/\ ∀j,j<=k->f (argBest bt k)<=f j
 | 0,_=>#[Nat.le_refl _,λ j O=>by rw [Nat.le_zero.mp O];show Int.le_refl _]
 | k+1,hk=>by
  let#[h1,Y]:=tM h k ();let#[g1,g2]:=h (k+1) (argBest bt k) hk ();rw [argBest];split
  .rename_i W;refine#[Nat.le_refl _,λ j O=> ?_];rcases Nat.lt_or_eq_of_le O with O | rfl
   .exact Int.le_trans (g1 W) (Y j ())
   .exact Int.le_refl _
  .rename_i W;refine#[(),λ j O=> ?_];rcases Nat.lt_or_eq_of_le O with O | rfl
   .exact Y j ()
   .exact g2 (Bool.eq_false_iff.mpr W)
theorem vq {X:Cx} (hc:X.calm=true) (hu:X.A.units+12<cLine):bG X (.builtin "min") (qG X.K):=by
 intro ax s σ H xs ay Q I rv h;let#[a,us,f,rfl,hx,ap,hd,ad,q]:=h;let#[u,rfl,ru]:=rv.one
 cases (show u=Value.ref a from ru);let#[O,r,ht,hz]:=I.list hx;have ah:us.length=O.length:=by have:=r.length;rw [Qr] at this;show this
 have aw:0<us.length:=List.length_pos_iff.mpr ap;have ab: ∀ {i:Nat} {v:Value},O[i]? =some v-> ∃u∈us,us[i]? =some u/\RelV u.1 v/\ ∃as,Reads s.heap v u.2 as:=λ {i v} hv=>by
  have hi:i<us.length:=by rw [ah];show(Zj.mp hv).1
  let#[u,ae]: ∃u,us[i]? =some u:=#[_,Ze hi];have hm:=Zf ae;let#[v',e',ac]:=r.get (i:=i) (x:=u.1) (by rw [Zi,ae];rfl);rw [hv] at e'
  cases e';show#[u,hm,ae,ac,(hd u hm).1.reads I ac]
 let#[kk,Y]: ∃kk:Nat->PyData,∀ {i u},us[i]? =some u->kk i=u.2:=#[λ i=>((us[i]?).map λ p=>p.2).getD .none,λ {i u} hp=>by dsimp only;rw [hp];rfl];have ag:a<s.heap.objs.size:=by let#[_,e,_]:=ht.isList;show Zh e
 have av:a≠s.heap.objs.size:=Yb ag;have hsz:O.toArray.size=O.length:=Zy;have W:=Walks.list (prog:=X.prog) (w:=X.w) (A:=X.A.in1) (I.ok.hd hc) s.heap.objs.size a av O.toArray;refine CN (wpAny_pyIter_list ht.isList #[s.heap.objs.size,List.range (s.heap.objs.size+1),[s.heap.objs.size],O.length,(λ i v=>O[i]? =some v),(λ i h=>(h.IsListIter s.heap.objs.size a i/\h.IsList a O.toArray)/\ ∀b o,s.heap.get? b=some o->h.get? b=some o),(λ i j=>qD (kk i) (kk j)),rfl,?W,#[#[#[_,Zo _ rfl,rfl,rfl],ht.isList.push _],λ b o e=>Zd _ e],?lt,(),?cmp,?fin])
 case lt=>
  intro b hb;rw [show(s.heap.push { cls:= .type "list_iterator",data:= .fields ([.ref a, .int 0 0].toArray) }).objs.size=s.heap.objs.size+1 from Heap.size_push ..];show Yy.mp hb
 case cmp=>
  rintro m i j x y s' Q' E' ⟨_,hk⟩ hx hy hQ;let#[u,mu,af,_,as,ra]:=ab hx;let#[v,mv,ai,_,bs,rb]:=ab hy;dsimp only at hQ;rw [Y af,Y ai] at hQ;show Ip 8 u.2 v.2 _ x y as bs _ _ (hd u mu).2.2 (ad u mu v mv).1 (Reads.keeps hk ra) (Reads.keeps hk rb) (hd u mu).2.1 (hd v mv).2.1 (by change X.A.units+1+8+1<cLine;rfl') hQ
 case W=>
  have new: ∀ {h h':Heap},(∀b o,s.heap.get? b=some o->h.get? b=some o)->(∀b o,b∉[s.heap.objs.size]->h.get? b=some o->h'.get? b=some o)-> ∀b o,s.heap.get? b=some o->h'.get? b=some o:=λ h1 h2 b o e=>h2 b o (λ z=>by
   rw [Za.mp z] at e;show Nat.lt_irrefl _ (Zh e)) (h1 b o e)
  refine#[λ b hb=>by rw [Za.mp hb];show Yy.mpr (Nat.lt_succ_self _),λ i h h' st k=>#[W.frame i h h' st.1 λ b hb o e=>k b (Yy.mpr ?_) o e,λ b o e=>k b (Yy.mpr (Nat.lt_succ_of_lt (Zh e))) o (st.2 b o e)],λ i s' Q' E' hi st hQ=>W.item i s' Q' E' (by rw [hsz];show hi) st.1 λ v h' tk hv ar k=>hQ v h' tk (by rw [<- List.getElem?_toArray];show hv) #[ar,new st.2 k] k,λ s' Q' E' st hQ=>W.done s' Q' E' (by rw [hsz];show st.1) hQ,λ i s' Q' E' st hQ=>W.self i s' Q' E' st.1 hQ];rcases Zk.mp hb with rfl | hb
  .exact Nat.lt_succ_self _
  .rw [Za.mp hb];show Nat.lt_succ_of_lt ag
 case fin=>
  intro v h' tk hv kp;let#[u,mu,af,ac,_]:=ab hv;let#[b1,b2]:=tM (bt:=λ i j=>qD (kk i) (kk j)) (f:=λ i=>f (kk i)) (n:=O.length) (λ i j hi hj=>by
   let#[x,mx,am,_]:=ab (Ze hi);let#[y,my,al,_]:=ab (Ze hj);rw [Y am,Y al];show(ad x mx y my).2) (O.length-1) ()
  refine#[u.1,H,I.kept (t':=tk) λ b ob e=>kp b ob (λ z=> ?_) (Zd _ e),ac,q u mu λ x mx=> ?_]
  .rw [Za.mp z] at e;show Nat.lt_irrefl _ (Zh e)
  .obtain ⟨j,hj⟩:=List.mem_iff_getElem?.mp mx;have a1:=(Zj.mp hj).1;have:=b2 j ();rw [Y hj,Y af] at this;show this
theorem tO {X:Cx} (K:W.Frag) (hK:X.K=K) (hc:X.calm=true) (hu:X.A.units+12<cLine):bG X (.builtin "min") (qG K):=hK▸vq hc hu
end L2
end
section
namespace L2
open PySem PySem.Spec PyProof.Rows Nk
variable {c v:Value} {Q:Value->Shared->Prop}
section
variable {X:Cx} {pins:List (Addr×Obj)} {σ:St} {H:Hp} {s:Shared} {a:Addr} {y:V} {u:Value} {o:Option V} {A:Around} {E:Value->Shared->Prop}
theorem Ir (hu:A.units+2<cLine) (I:Inv X pins σ H s) (g:SGet H a y o) (ry:RelV y u) (h: ∀W s',Inv X pins σ H s'->RelV (o.getD .non) W->Q W s'):wpAny (model X.prog X.w) A (call (.builtin "dict.get") [.ref a,u]) Q E s:=by
 let#[kvs,k,b,e,Y,ey,eb,l]:=g;subst ey
 cases (show u=Value.ref b from ry);let#[z,hd,xs,O,dd]:=oY I.hok e Y;refine call_meetsIn PySem.F.slot_dict_get dd.typeIs PySem.F.entry_dict_get (PySem.F.args_dict_get_2 _ _) (meetsH_dict_get (gH X.prog X.w) a b hd) #[(show A.units+1+1<cLine by rfl'),k,xs,oX I.hok eb,dd,h _ _ (I.tok _) ?_];rw [l];show(O.val k).getD rfl
end
def vy (td ty:TE):TE:=λ σ H Q=>td σ H λ x H1=> ∃a kvs,x= .ref a/\Rd H1 a (bx a kvs)/\ty σ H1 λ y H2=> ∃o,SGet H2 a y o/\Q (o.getD .non) H2
theorem CQ {X:Cx} {o e:Expr} {apos cpos:Pos} {td ty:TE} (hu:X.A.units+2<cLine) (ho:PE X o td) (he:PE X e ty) (m:M1 X o "get" apos e cpos):PE X (.Call (.Attribute o "get" apos) [e] [] cpos) (vy td ty):=by
 intro O s σ H Q I h;refine wpAny_Call_method m.base m.few m.line PySem.F.plainAttrs_dict PySem.F.slot_dict_get PySem.F.type_dict_get (aW (ho O s σ H _ I h) λ u s1 ⟨x,H1,I1,rx,a,kvs,ex,d,q1⟩=> ?_);subst ex;obtain rfl:u=Value.ref a:=rx;let#[#[_,lo,_,_,Y,es,ep,h1,h2,h3,_],_]:=JH I1.hok d;refine#[#[Y,h1,h2.1],λ a1 e1=>by cases e1;show#[Y,h1,h2.2.1],?_];rw [m.trees];refine Calls.callWith_builtin rfl (Calls.evalArgs_plain (Calls.spliced_cons (aW (he O s1 σ H1 _ I1 q1) λ iv s2 ⟨y,H2,I2,ry,ov,g,q2⟩=>Calls.spliced_nil ?_)));show Ir hu I2 g ry λ w' s3 I3 W=>#[_,H2,I3,W,q2]
def mO (K:W.Frag):List V->Hp->VK->Prop:=λ xs H Q=> ∃ (a:Addr) (ss:List Str),xs=[.ref a]/\SqT K H a (ss.map V.str)/\ss≠[]/\ ∀s∈ss,Q (.str s) H
section
variable {X:Cx} {pins:List (Addr×Obj)} {σ:St} {H:Hp} {s:Shared} {a:Addr} {ss:List Str} {its:List Value}
theorem ie (r:Vals (ss.map V.str) its) {i:Nat} (h:its[i]? =some v): ∃x t,ss[i]? =some x/\v= .str x t:=by
 have hi:i<ss.length:=by
  have:=r.length;rw [Qr] at this;rw [this];show(Zj.mp h).1
 let#[x,W]: ∃x,ss[i]? =some x:=#[_,Ze hi];let#[v',Y,O]:=r.get (i:=i) (x:= .str x) (by rw [Zi,W];rfl);rw [h] at Y
 cases Y;let#[t,rfl]:=O;show#[x,t,W,rfl]
theorem xT {h':Heap} {d:Data} (hk: ∀b o,b∉[s.heap.objs.size]->(s.heap.push { cls:=c,data:=d }).get? b=some o->h'.get? b=some o): ∀b o,s.heap.get? b=some o->h'.get? b=some o:=λ b o e=>by
 refine hk b o (λ O=> ?_) (Zd _ e);rw [Za.mp O] at e;show Nat.lt_irrefl _ (Zh e)
end
theorem zq {X:Cx} (hc:X.calm=true):bG X (.builtin "min") (mO X.K):=by
 intro ae s σ H xs us Q I rv h;let#[a,ss,rfl,hx,ad,q]:=h;let#[u,rfl,ru]:=rv.one
 cases (show u=Value.ref a from ru);let#[O,r,ht,hz]:=I.tuple hx;have ag:ss.length=O.length:=by have:=r.length;rw [Qr] at this;show this
 have af:0<ss.length:=List.length_pos_iff.mpr ad;have hT:s.heap.IsTuple a O.toArray:=ht;have ab:a<s.heap.objs.size:=by let#[_,e,_]:=ht;show Zh e
 refine call_min_walk (wpAny_pyIter_tuple hT ⟨_,[_,a],[_],_,_,_,λ i j=>decide (((ss[i]?).getD default).cps.toList<((ss[j]?).getD default).cps.toList),rfl,Walks.tuple (A:=X.A.in1) (I.ok.hd hc) _ a (Yb ab) O.toArray,
  ⟨⟨_,Zo _ rfl,rfl,rfl⟩,hT.push _⟩,λ c Y=> ?_,by simpa using (show 0<O.length by rfl'),λ i j vi vj s' Q' E' hi hj h=> ?_,λ v h' tk hP hk=> ?_⟩)
 .show c<(s.heap.push _).objs.size;rw [Heap.size_push];rcases Zk.mp Y with rfl | Y
  .exact Nat.lt_succ_self _
  .rw [Za.mp Y];show Nat.lt_succ_of_lt ab
 .obtain ⟨x,t,W,rfl⟩:=ie r (by simpa using hi);let#[y,t',ac,rfl]:=ie r (by simpa using hj);dsimp only at h;rw [W,ac] at h;show richCompare_gives (op:= .Lt) (typeIs_str s' x t) (typeIs_str s' y t') F.slot_str_lt F.entry_str_lt (F.args_str_lt_2 _ _) (gives_str_lt x y t t') (λ x=>nomatch x) h
 .obtain ⟨x,t,W,rfl⟩:=ie r (by simpa using hP);show#[.str x,H,I.kept (t':=tk) (xT hk),#[t,rfl],q x (Zf W)]
theorem zr {X:Cx} (hc:X.calm=true):bG X (.builtin "max") (mO X.K):=by
 intro ae s σ H xs us Q I rv h;let#[a,ss,rfl,hx,ad,q]:=h;let#[u,rfl,ru]:=rv.one
 cases (show u=Value.ref a from ru);let#[O,r,ht,hz]:=I.tuple hx;have ag:ss.length=O.length:=by have:=r.length;rw [Qr] at this;show this
 have af:0<ss.length:=List.length_pos_iff.mpr ad;have hT:s.heap.IsTuple a O.toArray:=ht;have ab:a<s.heap.objs.size:=by let#[_,e,_]:=ht;show Zh e
 refine call_max_walk (wpAny_pyIter_tuple hT ⟨_,[_,a],[_],_,_,_,λ i j=>decide (((ss[j]?).getD default).cps.toList<((ss[i]?).getD default).cps.toList),rfl,Walks.tuple (A:=X.A.in1) (I.ok.hd hc) _ a (Yb ab) O.toArray,
  ⟨⟨_,Zo _ rfl,rfl,rfl⟩,hT.push _⟩,λ c Y=> ?_,by simpa using (show 0<O.length by rfl'),λ i j vi vj s' Q' E' hi hj h=> ?_,λ v h' tk hP hk=> ?_⟩)
 .show c<(s.heap.push _).objs.size;rw [Heap.size_push];rcases Zk.mp Y with rfl | Y
  .exact Nat.lt_succ_self _
  .rw [Za.mp Y];show Nat.lt_succ_of_lt ab
 .obtain ⟨x,t,W,rfl⟩:=ie r (by simpa using hi);let#[y,t',ac,rfl]:=ie r (by simpa using hj);dsimp only at h;rw [W,ac] at h;show richCompare_gives (op:= .Gt) (typeIs_str s' x t) (typeIs_str s' y t') F.slot_str_gt F.entry_str_gt (F.args_str_gt_2 _ _) (gives_str_gt x y t t') (λ x=>nomatch x) h
 .obtain ⟨x,t,W,rfl⟩:=ie r (by simpa using hP);show#[.str x,H,I.kept (t':=tk) (xT hk),#[t,rfl],q x (Zf W)]
theorem vz {X:Cx} (K:W.Frag) (hK:X.K=K) (hc:X.calm=true):bG X (.builtin "min") (mO K):=hK▸zq hc
theorem vA {X:Cx} (K:W.Frag) (hK:X.K=K) (hc:X.calm=true):bG X (.builtin "max") (mO K):=hK▸zr hc
end L2
end
set_option linter.all false
namespace Mm
variable {k:Nat}
theorem dh (x:Int) (m:Nat) (h:0<m): ∃n:Nat,x%(m:Int)=(n:Int)/\n<m:=by
 have W:=Int.emod_nonneg x (b:=(m:Int)) ();have O:=Int.emod_lt_of_pos x (b:=(m:Int)) ();show#[(x%(m:Int)).toNat,(),()]
def col (h:Nat) (i:Int):Nat:=(i*2862933555777941757 / 16%2^h).toNat
theorem Iu (k:Nat):(0:Int)<1*2^k:=by
 rw [Int.one_mul];show Int.pow_pos (by decide)
theorem gJ {α β:Type} (f:α->Option β) (xs:List α) (x:α):(xs++[x]).filterMap f=xs.filterMap f++(f x).toList:=by
 rw [List.filterMap_append]
 cases h:f x<;>simp [h]
def cellAt (ns:List Int) (k:Nat):Int:=ns.getD k 0
def hgt (c:Int):Nat:=if c%2=0 then (1+c / 2%6).toNat else (1+c / 2%60).toNat
def vB:List Nat->List Nat->Nat
 | x::xs,y::ys=>Bm.pop (x^^^y)+vB xs ys
 | _,_=>0
theorem tQ: ∀xs ys:List Nat,((List.zipWith (λ x y=>((Bm.pop (x^^^y):Nat):Int)) xs ys).sum:Int)=(vB xs ys:Nat)
 | [],_=>by simp [vB]
 | _::_,[]=>by simp [vB]
 | x::xs,y::ys=>by
  rw [List.zipWith_cons_cons,List.sum_cons,tQ xs ys,vB];rfl'
theorem getD_some {ns:List Int} {z:Int} (h:ns[k]? =some z):cellAt ns k=z:=by
 unfold cellAt;rw [Zr,h];rfl
theorem getD_none {ns:List Int} (h:ns.length<=k):cellAt ns k=0:=by
 unfold cellAt;rw [Zr,List.getElem?_eq_none h];rfl
def On (h n:Nat) (s:Int×Int):Prop:=0<=s.1/\s.1<n/\0<=s.2/\s.2<h
instance decOn (h n:Nat) (s:Int×Int):Decidable (On h n s):=by unfold On;show inferInstance
end Mm
section
namespace L2
open PySem
variable {E:XK} {c:TT} {t:TA} {u:TS} {σ:St} {n:Nat} {r':R2} {sp:Sp} {wi:TI} {A:Prop} {b:Bool} {H H':Hp} {v x y:V} {T:String} {d:PyData} {i j k:Int} {ys:List V} {C a e p:Addr} {qs:List Addr} {f:Int->Int->V} {ds:List PyData} {R:Bool->Hp->Prop} {hi lo:Option Int} {κ:List (Option Nat)} {r:V->List V->Hp->VK->Prop} {zs:List (Addr×Str×List V)} {ta tb tc td te tk tl to tv:TE}
theorem Rk {B:Prop} (h:B):if (!true)=true then A else B:=Ao h
theorem Rm {B:Prop} (h:A):if (!false)=true then A else B:=Aq h
theorem fW {p B:Prop} [Decidable p] (h1:p->A) (h2: ¬p->B):if decide p=true then A else B:=by
 by_cases h:p
 .rw [Zz h];show Aq (h1 h)
 .rw [Zv h];show Ao (h2 h)
theorem xU {p B:Prop} [Decidable p] (h1: ¬p->A) (h2:p->B):if (!decide p)=true then A else B:=by
 by_cases h:p
 .rw [Zz h];show Ao (h2 h)
 .rw [Zv h];show Aq (h1 h)
theorem Ro {B:Prop} (h1:b=true->A) (h2:b=false->B):if b=true then A else B:=by
 cases b with
 | true=>show Aq (h1 rfl)
 | false=>show Ao (h2 rfl)
theorem CT {p B:Prop} [Decidable p] (hp:p) (h:A):if decide p=true then A else B:=fW (λ _=>h) λ n=>absurd hp n
theorem CV {p B:Prop} [Decidable p] (hp: ¬p) (h:B):if decide p=true then A else B:=fW (λ n=>absurd n hp) λ _=>h
theorem CW {p B:Prop} [Decidable p] (hp:p) (h:B):if (!decide p)=true then A else B:=xU (λ n=>absurd hp n) λ _=>h
theorem Rp {α:Type} [DecidableEq α] {a:α} {B:Prop} (h:A):if decide (a=a)=true then A else B:=CT rfl h
theorem Mf {p B:Prop} [Decidable p] (hp: ¬p) (h:A):if (!decide p)=true then A else B:=xU (λ _=>h) λ n=>absurd n hp
theorem Same.new {H0:Hp} {o:HO} (e:Same H0 H) (h:H p=none):Same H0 (upd H p o):=λ b u q=>by rw [aq (aF (e b u q) h)];show e b u q
theorem Same.tup {K:W.Frag} {xs:List V} (e:Same H H') (h:SqT K H a xs):SqT K H' a xs:=by
 rcases h with (h | ⟨o,h⟩) | h
 .exact .inl (.inl (e _ _ h))
 .exact .inl (.inr #[o,e _ _ h])
 .exact .inr h
theorem ig {K:W.Frag} {o:HO} {xs:List V} (h:H p=none) (q:SqL K H a xs):SqL K (upd H p o) a xs:=Same.seq (Same.new (Same.refl H) h) q
theorem xV {K:W.Frag} {o:HO} {xs:List V} (h:H p=none) (q:SqT K H a xs):SqT K (upd H p o) a xs:=Same.tup (Same.new (Same.refl H) h) q
theorem Vs {r:St}:oJ (none::r) (some v::r):=⟨rfl,λ j u z=>by
 match j,z with
 | j+1,z=>show z⟩
theorem ext2 {r:St} {w:V}:oJ (none::none::r) (some v::some w::r):=⟨rfl,λ j u z=>by
 match j,z with
 | j+2,z=>show z⟩
theorem JL (a b:Int):decide (V.int a=V.int b)=decide (a=b):=by simp
theorem qH {xs:List V} (h:0<=k):gh xs none (some k)=xs.take k.toNat:=by
 unfold gh;change(xs.drop 0).take ((if k<0 then (k+(xs.length:Int)).toNat else min k.toNat xs.length)-0)=_;rw [if_neg (),List.drop_zero,Nat.sub_zero];rcases Nat.le_total k.toNat xs.length with q | q
 .rw [Nat.min_eq_left q]
 .rw [Nat.min_eq_right q,Yu (Zm _),Yu q]
theorem tR {xs:List V} (h:0<=k):gh xs (some k) none=xs.drop k.toNat:=by
 unfold gh;change(xs.drop (if k<0 then (k+(xs.length:Int)).toNat else min k.toNat xs.length)).take (xs.length-(if k<0 then (k+(xs.length:Int)).toNat else min k.toNat xs.length))=_;rw [if_neg ()];rcases Nat.le_total k.toNat xs.length with q | q
 .rw [Nat.min_eq_left q,Yu (by rw [List.length_drop];rfl')]
 .rw [Nat.min_eq_right q,List.drop_of_length_le (Zm _),List.drop_of_length_le q];simp
theorem xW (i:Int) (ns:List Int):inV (.int i) (ns.map V.int)=decide (i∈ns):=by
 unfold inV;rw [List.any_map];induction ns with
 | nil=>simp
 | cons n r ih=>
  rw [List.any_cons,ih];by_cases h:n=i
  .subst h;simp [Gw]
  .simp [Gw,h,Ne.symm h]
theorem tU (ns:List Int):(ns.map V.int).all gb=true:=by
 rw [List.all_map];simp [Function.comp_def,gb]
theorem Mi {α:Type} {xs:List α} (h0:0<=i) (h1:i.toNat<xs.length):ux xs i=some xs[i.toNat]:=by
 have e:=aP (xs:=xs) (j:=i.toNat) (v:=xs[i.toNat]) (Ze h1);rwa [show((i.toNat:Nat):Int)=i by rfl'] at e
section
variable {σ:St} {H:Hp} {Q:VK} {D:Ends} {K:W.Frag}
theorem JM {t:TS} (h:t { D with nx:=u D } σ H):aG t u D σ H:=h
theorem Rq {g:TG} (h:te σ H λ x H1=>g x σ H1 D.nx):aM te g D σ H:=h
theorem Rr (h:te σ H D.rt):bh te D σ H:=h
theorem Mj (h:D.nx σ H):bF D σ H:=h
theorem Mp (h:te σ H λ _ H1=>D.nx σ H1):cC te D σ H:=h
theorem Rt {t:TS} (h:c σ H λ b H1=>if b=true then t D σ H1 else u D σ H1):cF c t u D σ H:=h
theorem Ru {i:Nat} (e:σ[i]? =some (some v)) (h:Q v H):aj i σ H Q:=#[v,e,h]
theorem X7 (h:Q v H):tC v σ H Q:=h
theorem Vt {r:R2} (h:ta σ H λ x H1=>tb σ H1 λ y H2=>r x y H2 Q):aK r ta tb σ H Q:=h
theorem Vu {r:V->Hp->VK->Prop} (h:ta σ H λ x H1=>r x H1 Q):Qv r ta σ H Q:=h
theorem Vv {r:List V->Hp->VK->Prop} (h:t σ H λ vs H1=>r vs H1 Q):cG r t σ H Q:=h
theorem s_call (h:t σ H λ vs H1=>sp vs H1 Q E):aH sp [] E t σ H Q:=by
 unfold aH;simpa only [List.append_nil] using h
theorem Iv {ds:List V} (h:t σ H λ vs H1=>sp (vs++ds) H1 Q E):aH sp ds E t σ H Q:=h
theorem Rv {R:List V->Hp->Prop} (h:R [] H):az σ H R:=h
theorem Mq {tr:TA} {R:List V->Hp->Prop} (h:ta σ H λ x H1=>tr σ H1 λ xs H2=>R (x::xs) H2):aa ta tr σ H R:=h
theorem Mr (h:te σ H λ x H'=> ∃k,x= .bl k/\R k H'):aZ te σ H R:=h
theorem Rw (h:te σ H λ x H'=> ∃k,zX K x H' k/\R k H'):lV K te σ H R:=h
theorem Vw {R:Bool->Prop} (h:R b): ∃k,V.bl b= .bl k/\R k:=#[b,rfl,h]
theorem Rx {R:Bool->Prop} (h:R b): ∃k,zX K (.bl b) H k/\R k:=#[b,rfl,h]
theorem Ry {t:TT} (h:t σ H λ c H1=>R (!c) H1):lB t σ H R:=h
theorem Rz {t u:TT} (h:t σ H λ c H1=>if c=true then u σ H1 R else R false H1):pF t u σ H R:=h
theorem Vx {t u:TT} (h:t σ H λ c H1=>if c=true then R true H1 else u σ H1 R):Ke t u σ H R:=h
theorem Ms (h:ta σ H λ x H1=> ∃c,x= .bl c/\if c=true then tb σ H1 Q else Q (.bl false) H1):lD ta tb σ H Q:=h
theorem RB (h:ta σ H λ x H1=> ∃c,x= .bl c/\if c=true then Q (.bl true) H1 else tb σ H1 Q):GF ta tb σ H Q:=h
theorem Mt (h:ta σ H λ x H1=> ∃c,x= .bl c/\Q (.bl (!c)) H1):wY ta σ H Q:=h
theorem Vy {t:TT} (h:t σ H λ c H1=>if c=true then ta σ H1 Q else tb σ H1 Q):QG t ta tb σ H Q:=h
theorem RC (h:R true H):gD σ H R:=h
theorem Iw {r:R2} (h:ta σ H λ x H1=>tb σ H1 λ y H2=>r x y H2 λ z H3=> ∃k,z= .bl k/\(if k=true then tc σ H3 λ W O=>r' y W O Q else Q (.bl false) H3)):fM r r' ta tb tc σ H Q:=h
theorem Iz {i:Nat} {R:St->Hp->Prop} (h:R (σ.set i (some v)) H):aA i v σ H R:=h
theorem Mu {R:St->Hp->Prop} (h:R σ H):jn [] σ H R:=#[rfl,h]
theorem IK {t:TG} {u:Gu} {r:List V} {R:St->Hp->Prop} (h:t v σ H λ σ' H'=>u r σ' H' R):bO t u (v::r) σ H R:=#[v,r,rfl,h]
theorem dO {t:Gu} {xs:List V} {R:St->Hp->Prop} (hx:SqT K H a xs) (hn:xs.length=n) (h:t xs σ H R):j5 K n t (.ref a) σ H R:=#[a,xs,rfl,hx,hn,h]
theorem Mv {ti:TE} {t:zO} {R:St->Hp->Prop} (h:to σ H λ o H1=>ti σ H1 λ i H2=>t o i v H2 λ H3=>R σ H3):Kh to ti t v σ H R:=h
theorem RD {i:Nat} {ti:Kf} (e:σ[i]? =some (some x)) (h:te σ H λ y H1=>ti x y H1 λ z H2=>D.nx (σ.set i (some z)) H2):Ko i te ti D σ H:=#[x,e,h]
theorem Vz {f:Int->Int->Int} (h:Q (.int (f i j)) H):Va f (.int i) (.int j) H Q:=#[i,j,rfl,rfl,h]
theorem RG (h:Q (f i j) H):pH f (.int i) (.int j) H Q:=#[i,j,rfl,rfl,h]
theorem VB {C:Int->Int->Prop} (c:C i j) (h:Q (f i j) H):rI C f (.int i) (.int j) H Q:=#[i,j,rfl,rfl,c,h]
theorem VD {f:Int->V} (h:Q (f i) H):rU f (.int i) H Q:=#[i,rfl,h]
theorem RJ (h:Q (.bl (decide (i=j))) H):zT (.int i) (.int j) H Q:=#[rfl,by rw [JL];show h]
theorem RK (h:Q (.bl (!decide (i=j))) H):KH (.int i) (.int j) H Q:=#[rfl,by rw [JL];show h]
theorem RL (e:KD x y=true) (h:Q (.bl (!decide (x=y))) H):KH x y H Q:=#[e,h]
theorem RM (h:t σ H λ xs H1=>xs.length<=sizeLine/\ ∀p,H1 p=none->Q (.ref p) (upd H1 p (.tup xs))):dW t σ H Q:=h
theorem RN (h:t σ H λ xs H1=>xs.length<=sizeLine/\ ∀p,H1 p=none->Q (.ref p) (upd H1 p (.lst xs))):ir t σ H Q:=h
theorem RP {a b:St} {P:Prop} (e:oJ a b) (h:P):oJ a b/\P:=#[e,h]
theorem RQ {P:Prop} (e:n<=1000) (h:P):n<=sizeLine/\P:=#[small e,h]
theorem VF {r:V->Option Int->Option Int->Hp->VK->Prop} {tl th:TO} (h:te σ H λ x H1=>tl σ H1 λ l H2=>th σ H2 λ u H3=>r x l u H3 Q):yH r te tl th σ H Q:=h
theorem CZ {R:Option Int->Hp->Prop} (h:R none H):cj σ H R:=h
theorem Mw {t:TE} {R:Option Int->Hp->Prop} (h:t σ H λ x H1=> ∃i,x= .int i/\R (some i) H1):f9 t σ H R:=h
theorem Mx {R:Int->Prop} (h:R i): ∃k,V.int i= .int k/\R k:=#[i,rfl,h]
theorem VG (h:to σ H λ x H1=>Le K T x H1/\t σ H1 λ xs H2=>r x xs H2 Q):uz K T r to t σ H Q:=h
theorem RT (h:to σ H λ x H1=>Le K T x H1/\r x [] H1 Q):Hk K T r to σ H Q:=h
theorem eF {xs:List V} {P:Prop} (e:SqL K H a xs) (h:P):Le K "list" (.ref a) H/\P:=#[.inl #[rfl,xs,e],h]
def nM (g:TG) (tb:TS) (D:Ends) (σ:St):It->Hp->Prop:=λ J H1=> ∃W:Nat->Nat->St->Hp->Prop,(∃m,W 0 m σ H1)/\ ∀i m σ H,W i m σ H->
 (J.stop i H/\D.nx σ H)\/(J.go i H/\ ∃N:St->Hp->Prop,(∀σ' H',N σ' H'-> ∃m',m'<m/\W (i+1) m' σ' H')/\ ∀x H',J.yld i H x H'->g x σ H' λ σ2 H2=>tb { D with nx:=N,ct:=N,bk:=D.nx } σ2 H2)
theorem RV {g:TG} {tb:TS} (h:wi σ H (nM g tb D σ)):dF wi g tb D σ H:=h
def IV (κ:List (Option Nat)) (g:TG) (tc:TT) (te:TE) (σ:St) (Q:VK):It->Hp->Prop:=λ J H1=> ∃W:Nat->Nat->List V->Hp->Prop,(∃m,W 0 m [] H1)/\ ∀i m ys H,W i m ys H->
 (J.stop i H/\ ∀p,H p=none->Q (.ref p) (upd H p (.lst ys)))\/
 (J.go i H/\ys.length<sizeLine/\ ∃N:List V->Hp->Prop,(∀ys' H',N ys' H'-> ∃m',m'<m/\W (i+1) m' ys' H')/\ ∀x H',J.yld i H x H'->g x (cap κ σ) H' λ σ2 H2=>oJ (cap κ σ) σ2/\tc σ2 H2 λ b H3=>if b=true then te σ2 H3 λ y H4=>N (ys++[y]) H4 else N ys H3)
theorem VH {g:TG} {tc:TT} (h:wi σ H (IV κ g tc te σ Q)):uf κ wi g tc te σ H Q:=h
def iL (K:W.Frag) (R:It->Hp->Prop) (x:V) (H:Hp):Prop:= ∃a,x= .ref a/\(∃xs,SqL K H a xs)/\R (GJ K a) H
def iT (K:W.Frag) (R:It->Hp->Prop) (x:V) (H:Hp):Prop:= ∃a,x= .ref a/\(∃xs,SqT K H a xs)/\R (Qu K a) H
def iR (R:It->Hp->Prop) (vs:List V) (H:Hp):Prop:= ∃j:Int,vs=[.int j]/\ -(2^62)<=j/\j<2^62/\R (yw 0 j.toNat) H
def WD (R:It->Hp->Prop) (vs:List V) (H:Hp):Prop:= ∃i j:Int,vs=[.int i, .int j]/\(-(2^62)<=i/\i<2^62/\ -(2^62)<=j/\j<2^62)/\R (yw i (j-i).toNat) H
theorem IW {R:It->Hp->Prop} (h:tl σ H (iL K R)):dC K tl σ H R:=h
theorem My {R:It->Hp->Prop} (h:tl σ H (iT K R)):rD K tl σ H R:=h
theorem J0 {ta:TA} {R:It->Hp->Prop} (h:ta σ H (iR R)):iB ta σ H R:=h
theorem J1 {ta:TA} {R:It->Hp->Prop} (h:ta σ H (WD R)):zP ta σ H R:=h
def iS (R:It->Hp->Prop) (x:V) (H:Hp):Prop:= ∃z,x= .str z/\R (We z) H
def iZ (K:W.Frag) (R:It->Hp->Prop) (vs:List V) (H:Hp):Prop:= ∃a b xs ys,vs=[.ref a, .ref b]/\SqL K H a xs/\SqL K H b ys/\R (Wh K a b) H
end
section
variable {σ:St} {H:Hp} {Q:VK} {D:Ends} {K:W.Frag} {g:TG} {tb:TS} {κ:List (Option Nat)} {tc:TT} {te:TE}
theorem jV {α:Type} (c:α->V) {zs:List α} (hx:SqL K H a (zs.map c)) (Pv:Nat->St->Hp->Prop) (h0:Pv 0 σ H) (hl: ∀i σ H',Pv i σ H'->SqL K H' a (zs.map c))
  (hs: ∀ (i:Nat) z σ H',zs[i]? =some z->Pv i σ H'->g (c z) σ H' λ O H2=>tb { D with nx:=Pv (i+1),ct:=Pv (i+1),bk:=D.nx } O H2) (hd: ∀σ H',Pv zs.length σ H'->D.nx σ H'):iL K (nM g tb D σ) (.ref a) H:=by
 refine#[a,rfl,#[_,hx],zQ (K:=K) (a:=a) (xs:=zs.map c) Pv h0 (λ i σ H _ h=>hl i σ H h) ?_ ?_]
 .intro i x σ H' W p;rw [Zi] at W;let#[z,hz,rfl]:=Ye.mp W;show hs i z σ H' hz p
 .intro σ H' p;rw [Qr] at p;show hd σ H' p
theorem Dc {α:Type} (c:α->V) {zs:List α} (hx:SqT K H a (zs.map c)) (Pv:Nat->St->Hp->Prop) (h0:Pv 0 σ H) (hl: ∀i σ H',Pv i σ H'->SqT K H' a (zs.map c))
  (hs: ∀ (i:Nat) z σ H',zs[i]? =some z->Pv i σ H'->g (c z) σ H' λ O H2=>tb { D with nx:=Pv (i+1),ct:=Pv (i+1),bk:=D.nx } O H2) (hd: ∀σ H',Pv zs.length σ H'->D.nx σ H'):iT K (nM g tb D σ) (.ref a) H:=by
 refine#[a,rfl,#[_,hx],GP (K:=K) (a:=a) (xs:=zs.map c) Pv h0 (λ i σ H _ h=>hl i σ H h) ?_ ?_]
 .intro i x σ H' W p;rw [Zi] at W;let#[z,hz,rfl]:=Ye.mp W;show hs i z σ H' hz p
 .intro σ H' p;rw [Qr] at p;show hd σ H' p
theorem p7 {n:Int} (m:Nat) (e:n.toNat=m) (hm:m<=1000000000) (hn: -1000000000<=n) (Pv:Nat->St->Hp->Prop) (h0:Pv 0 σ H)
  (hs: ∀ (i:Nat) σ H',i<m->Pv i σ H'->g (.int (i:Int)) σ H' λ O H2=>tb { D with nx:=Pv (i+1),ct:=Pv (i+1),bk:=D.nx } O H2) (hd: ∀σ H',Pv m σ H'->D.nx σ H'):iR (nM g tb D σ) [.int n] H:=by
 refine#[n,rfl,(),(),?_];rw [e];refine nR Pv h0 (λ i σ H' W p=> ?_) hd;rw [Int.zero_add];show hs i σ H' W p
theorem Mz {lo n:Int} (m:Nat) (e:(n-lo).toNat=m) (hm:n<=1000000000) (hn: -1000000000<=n) (hlo: -1000000000<=lo) (hlo':lo<=1000000000) (Pv:Nat->St->Hp->Prop) (h0:Pv 0 σ H)
  (hs: ∀ (i:Nat) σ H',i<m->Pv i σ H'->g (.int (lo+i)) σ H' λ O H2=>tb { D with nx:=Pv (i+1),ct:=Pv (i+1),bk:=D.nx } O H2) (hd: ∀σ H',Pv m σ H'->D.nx σ H'):WD (nM g tb D σ) [.int lo, .int n] H:=by
 refine#[lo,n,rfl,#[(),(),(),()],?_];rw [e];show nR Pv h0 (λ i σ H' W p=>hs i σ H' W p) hd
theorem RW {n:Int} (m:Nat) (e:n.toNat=m) (hm:m<=1000000) (hn: -1000000000<=n) (Pv:Nat->List V->Hp->Prop) (h0:Pv 0 [] H) (hz: ∀i ys H',Pv i ys H'->ys.length<=i)
  (hs: ∀ (i:Nat) ys H',i<m->Pv i ys H'->g (.int (i:Int)) (cap κ σ) H' λ O H2=>oJ (cap κ σ) O/\tc O H2 λ b H3=>if b=true then te O H3 λ y Y=>Pv (i+1) (ys++[y]) Y else Pv (i+1) ys H3)
  (hd: ∀ys H',Pv m ys H'-> ∀p,H' p=none->Q (.ref p) (upd H' p (.lst ys))):iR (IV κ g tc te σ Q) [.int n] H:=by
 refine#[n,rfl,(),(),?_];rw [e];refine Bd Pv h0 (Yl hm (by decide)) hz (λ i ys H' W p=> ?_) hd;rw [Int.zero_add];show hs i ys H' W p
theorem RX {n:Int} (m:Nat) (e:n.toNat=m) (hm:m<=1000000) (hn: -1000000000<=n) (f:Nat->V)
  (hs: ∀i,i<m-> ∀ (A:VK),A (f i) H->g (.int (i:Int)) (cap κ σ) H λ O H2=>oJ (cap κ σ) O/\te O H2 A)
  (hd: ∀p,H p=none->Q (.ref p) (upd H p (.lst ((List.range m).map f)))):iR (IV κ g gD te σ Q) [.int n] H:=by
 refine RW m e hm hn (λ i W Y=>Y=H/\W=(List.range i).map f) #[rfl,rfl] ?_ ?_ ?_
 .rintro i W _ ⟨rfl,rfl⟩;simp
 .rintro i W Y hi ⟨e1,rfl⟩;subst e1;have q:=hs i hi (λ y H4=>H4=Y/\(List.range i).map f++[y]=(List.range (i+1)).map f) #[rfl,by rw [List.range_succ,Zg];rfl];simpa only [gD,if_true] using q
 .rintro W _ ⟨rfl,rfl⟩ p hp;show hd p hp
theorem J2 {α:Type} (c:α->V) {zs:List α} (hx:SqL K H a (zs.map c)) (hn:zs.length<=1000000) (Pv:Nat->List V->Hp->Prop) (h0:Pv 0 [] H) (hl: ∀i ys H',Pv i ys H'->SqL K H' a (zs.map c)) (hz: ∀i ys H',Pv i ys H'->ys.length<=i)
  (hs: ∀ (i:Nat) z ys H',zs[i]? =some z->Pv i ys H'->g (c z) (cap κ σ) H' λ O H2=>oJ (cap κ σ) O/\tc O H2 λ b H3=>if b=true then te O H3 λ y Y=>Pv (i+1) (ys++[y]) Y else Pv (i+1) ys H3)
  (hd: ∀ys H',Pv zs.length ys H'-> ∀p,H' p=none->Q (.ref p) (upd H' p (.lst ys))):iL K (IV κ g tc te σ Q) (.ref a) H:=by
 refine#[a,rfl,#[_,hx],Hu (K:=K) (a:=a) (xs:=zs.map c) Pv h0 (by rw [Qr];show Yl hn (by decide)) (λ i ys H' _ p=>hl i ys H' p) hz ?_ ?_]
 .intro i x ys H' W p;rw [Zi] at W;let#[z,hz,rfl]:=Ye.mp W;show hs i z ys H' hz p
 .intro ys H' p;rw [Qr] at p;show hd ys H' p
theorem JN {α:Type} (c:α->V) {zs:List α} (hx:SqL K H a (zs.map c)) (hn:zs.length<=1000000) (f:α->V)
  (hs: ∀ (i:Nat) z,zs[i]? =some z-> ∀ (A:VK),A (f z) H->g (c z) (cap κ σ) H λ O H2=>oJ (cap κ σ) O/\te O H2 A)
  (hd: ∀p,H p=none->Q (.ref p) (upd H p (.lst (zs.map f)))):iL K (IV κ g gD te σ Q) (.ref a) H:=by
 refine J2 c hx hn (λ i W Y=>Y=H/\W=(zs.take i).map f) #[rfl,rfl] ?_ ?_ ?_ ?_
 .rintro i W _ ⟨rfl,_⟩;show hx
 .rintro i W _ ⟨rfl,rfl⟩;rw [Qr,Yd];rfl'
 .rintro i z W Y hz ⟨e1,rfl⟩;subst e1;have et:zs.take (i+1)=zs.take i++[z]:=by rw [Yg,hz];rfl
  have q:=hs i z hz (λ y H4=>H4=Y/\(zs.take i).map f++[y]=(zs.take (i+1)).map f) #[rfl,by rw [et,Zg];rfl];simpa only [gD,if_true] using q
 .rintro W _ ⟨rfl,rfl⟩ p hp;rw [Yq];show hd p hp
end
def Thing (H:Hp):V->Prop
 | .non=>True
 | .bl _=>True
 | .int _=>True
 | .str x=>x.length<=100000
 | .ref a=>(∃xs,H a=some (.lst xs))\/(∃xs,H a=some (.tup xs))\/ ∃kvs,H a=some (.dK kvs)
 | _=>False
def isI:V->Bool
 | .int _=>true
 | _=>false
theorem Thing.same (s:Same H H'): ∀ {x:V},Thing H x->Thing H' x
 | .non,_=>True.intro
 | .bl _,_=>True.intro
 | .int _,_=>True.intro
 | .str _,h=>h
 | .ref a,h=>h.elim (λ ⟨xs,e⟩=> .inl #[xs,s _ _ e]) λ h=>h.elim (λ ⟨xs,e⟩=> .inr (.inl #[xs,s _ _ e])) λ ⟨xs,e⟩=> .inr (.inr #[xs,s _ _ e])
theorem Thing.ty {K:W.Frag}: ∀ {x:V},Thing H x->(∃b,x= .bl b)\/(∃i,x= .int i)\/(∃s:Str,x= .str s/\s.length<=100000)\/ ∃n:String,TyOf K H x (.type n)/\(n="NoneType"\/n="list"\/n="tuple"\/n="dict")/\isI x=false/\(∀s,x≠ .str s)
 | .non,_=> .inr (.inr (.inr #[_, .non, .inl rfl,rfl,λ _ e=>nomatch e]))
 | .bl b,_=> .inl #[b,rfl]
 | .int i,_=> .inr (.inl #[i,rfl])
 | .str s,h=> .inr (.inr (.inl #[s,rfl,h]))
 | .ref a,h=> .inr (.inr (.inr (h.elim (λ ⟨xs,e⟩=>#[_, .lst e, .inr (.inl rfl),rfl,λ _ e=>nomatch e]) λ h=>h.elim (λ ⟨xs,e⟩=>#[_, .tup e, .inr (.inr (.inl rfl)),rfl,λ _ e=>nomatch e]) λ ⟨xs,e⟩=>#[_, .dK e, .inr (.inr (.inr rfl)),rfl,λ _ e=>nomatch e])))
theorem d7 {K:W.Frag} {Q:VK} {t:Value} (ty:TyOf K H x t) (e:PySem.W.kitOne K t (.type T)=some b) (h:Q (.bl b) H):dZ K [x, .ty T] H Q:=#[T,x,t,b,rfl,ty,e,h]
section
variable {σ:St} {H:Hp} {Q:VK} {D:Ends} {K:W.Frag}
theorem RZ {i j:Str} (h:Q (.bl (!(decide (j.cps.toList<i.cps.toList)))) H):lX (.str i) (.str j) H Q:=#[i,j,rfl,rfl,h]
theorem gK {i j:Str} (e:i.length+j.length<=1000000) (h:Q (.str (i++j)) H):cB (.str i) (.str j) H Q:=#[i,j,rfl,rfl,Yl e (by decide),h]
theorem eX {xs:List V} (e:SqL K H a xs) (h:Q (.int xs.length) H):bT K [.ref a] H Q:=#[_,_,rfl, .inl #[xs,e,rfl],h]
theorem c7 {xs:List V} (e:SqT K H a xs) (h:Q (.int xs.length) H):bT K [.ref a] H Q:=#[_,_,rfl, .inr #[xs,e,rfl],h]
theorem jE {x:Str} (e:x.length<=1000000) (h:Q (.int x.length) H):bT K [.str x] H Q:=#[_,_,rfl,#[Nat.le_trans e (by decide),rfl],h]
theorem S7 {x:Str} (e:x.length=1) (h:Q (.int (x.cps.getD 0 0:Nat)) H):JC [.str x] H Q:=#[x,rfl,e,h]
theorem cD {xs:List V} (e:SqL K H a xs) (ev:ux xs i=some v) (h:Q v H):cY K (.ref a) (.int i) H Q:=#[a,xs,i,v,rfl,rfl,e,ev,h]
theorem iI {xs:List V} (e:SqT K H a xs) (ev:ux xs i=some v) (h:Q v H):aV K (.ref a) (.int i) H Q:=#[a,xs,i,v,rfl,rfl,e,ev,h]
theorem JP {x:Str} {c:Nat} (e:x.length<=1000000) (ev:ux x.cps.toList i=some c) (h:Q (.str #[([c].toArray)]) H):Hg (.str x) (.int i) H Q:=#[x,i,c,rfl,rfl,Yl e (by decide),ev,h]
theorem J3 (h: ∀p,H p=none->Q (.ref p) (upd H p (.dK []))):jy σ H Q:=h
theorem J4 (h: ∀p,H p=none->tk σ (upd H p (.dT [])) λ x H1=>tv σ H1 λ v H2=>H2 p=some (.dT [])/\ ∃k b,x= .ref b/\H2 b=some (.tup (k.map kV))/\Q (.ref p) (upd H2 p (.dT [(k,v)]))):uY tk tv σ H Q:=h
theorem J5 (h: ∀p,H p=none->tk σ (upd H p (.dK [])) λ x H1=>tv σ H1 λ y H2=>H2 p=some (.dK [])/\ ∃kvs:List (Key×V),[(x,y)]=kvs.map (λ O=>(kV O.1,O.2))/\kvs.length<=15/\Q (.ref p) (upd H2 p (.dK (fQ [] kvs)))):Ay [(tk,tv)] σ H Q:=h
theorem J6 (h: ∀p,H p=none->Q (.ref p) (upd H p (.dT []))):uE σ H Q:=h
theorem xX {tb:TS} (Pv:St->Hp->Prop) (μ:St->Hp->Nat) (h0:Pv σ H)
  (hs: ∀σ H,Pv σ H->c σ H λ b H1=>if b=true then tb { D with nx:=λ σ' H'=>Pv σ' H'/\μ σ' H'<μ σ H,ct:=λ σ' H'=>Pv σ' H'/\μ σ' H'<μ σ H,bk:=D.nx } σ H1 else D.nx σ H1)
  (mono: ∀σ H Q O,(∀b H1,Q b H1->O b H1)->c σ H Q->c σ H O):fK c tb D σ H:=rG Pv μ h0 hs mono
end
section
variable {σ:St} {H:Hp} {Q:VK} {R:Bool->Hp->Prop} {b c:Bool}
theorem De {r:R2} {z:V} (h1: ∀R:VK,R x H->ta σ H R) (h2: ∀R:VK,R y H->tb σ H R) (h3: ∀R:VK,R z H->tc σ H R) (h4: ∀R:VK,R (.bl b) H->r x y H R) (h5: ∀R:VK,R (.bl c) H->r' y z H R) (h:Q (.bl (b&&c)) H):fM r r' ta tb tc σ H Q:=by
 refine h1 _ (h2 _ (h4 _ #[b,rfl,?_]))
 cases b with
 | true=>rw [if_pos rfl];rw [Bool.true_and] at h;show h3 _ (h5 _ h)
 | false=>rw [if_neg Zu];rw [Bool.false_and] at h;show h
end
def Sb (ps:List Addr) (H H':Hp):Prop:= ∀b o,b∉ps->H b=some o->H' b=some o
theorem Sb.of {ps:List Addr} (s:Same H H'):Sb ps H H':=λ b o _ e=>s b o e
theorem Sb.same {ps:List Addr} {H1 H2:Hp} (e:Sb ps H H1) (s:Same H1 H2):Sb ps H H2:=λ b o n q=>s b o (e b o n q)
theorem Sb.new {ps:List Addr} {H1:Hp} {o:HO} (e:Sb ps H H1) (h:H1 p=none):Sb ps H (upd H1 p o):=e.same (aB h o)
theorem Sb.set {ps:List Addr} {H1:Hp} {o:HO} (e:Sb ps H H1) (h:p∈ps):Sb ps H (upd H1 p o):=λ b u n q=>by
 rw [aq (show b≠p from λ z=>n (by rw [z];show h))];show e b u n q
theorem Sb.get {ps:List Addr} {H1:Hp} {o:HO} (e:Sb ps H H1) (n:a∉ps) (h:H a=some o):H1 a=some o:=e a o n h
theorem Sb.more {ps:List Addr} {H1:Hp} (e:Sb ps H H1) (h: ∀p∈ps,p∈qs):Sb qs H H1:=λ b o n q=>e b o (λ z=>n (h b z)) q
theorem Sb.seq {ps:List Addr} {K:W.Frag} {H1:Hp} {xs:List V} (e:Sb ps H H1) (hp: ∀p∈ps,H p=none) (h:SqL K H a xs):SqL K H1 a xs:=by
 have O: ∀o,H a=some o->a∉ps:=λ o q z=>by rw [hp a z] at q;cases q
 rcases h with (h | ⟨o,h⟩) | h
 .exact .inl (.inl (e a _ (O _ h) h))
 .exact .inl (.inr #[o,e a _ (O _ h) h])
 .exact .inr h
theorem Sb.at {ps:List Addr} {H H1:Hp} {a:Addr} {o:HO} (e:Sb ps H H1) (hp: ∀p∈ps,H p=none) (h:H a=some o):H1 a=some o:=e a o (λ z=>by rw [hp a z] at h;cases h) h
section
variable {σ:St} {H:Hp} {Q:VK} {D:Ends} {K:W.Frag} {g:TG} {tb:TS} {κ:List (Option Nat)} {tc:TT} {te:TE}
def Xi (R:It->Hp->Prop) (vs:List V) (H:Hp):Prop:= ∃ (i j c:Int) (n:Nat),vs=[.int i, .int j, .int c]/\c≠0/\Builtin.Range.small i j c=true/\Builtin.divisionGoesByPylong (j-i) c=false/\Builtin.Range.rangeSize i j c=(n:Int)/\R (QT i c n) H
end
section
variable {σ:St} {H:Hp} {Q:VK} {D:Ends} {K:W.Frag}
theorem S8 {ns:List Int} (e:SqL K H a (ns.map V.int)) (h:Q (.int ns.sum) H):Ls K [.ref a] H Q:=#[a,ns,rfl,e,h]
theorem Sq (h:Q (.int (if j<i then j else i)) H):Bk [.int i, .int j] H Q:=#[i,j,rfl,h]
theorem Df (e:SqL K H p ys) (h: ∀l,H l=none->Q (.ref l) (upd H l (.lst ys))):pW K [.ref p] H Q:=#[p,ys,rfl, .inl e,h]
theorem iJ {l:Addr} {xs:List V} (e:H l=some (.lst xs)) (n:xs.length<=1000000) (h:Q .non (upd H l (.lst (xs++[y])))):cT (.ref l) [y] H Q:=#[l,xs,y,rfl,rfl,e,Yj n (by decide),h]
end
mutual
theorem eqv_refl: ∀d:PyData,d.canLay0=true->PyData.eqv d d=true
 | .none,_=>by simp [PyData.eqv]
 | .bool b,_=>by simp [PyData.eqv]
 | .int i,_=>by simp [PyData.eqv]
 | .str x,_=>by simp [PyData.eqv]
 | .list xs,h=>by
  simp only [PyData.eqv];show eqvAll_refl xs (by simpa only [PyData.canLay0] using h)
 | .tuple xs,h=>by
  simp only [PyData.eqv];show eqvAll_refl xs (by simpa only [PyData.canLay0] using h)
 | .dict kvs,h=>by simp [PyData.canLay0] at h
theorem eqvAll_refl: ∀ds:List PyData,PyData.canLayAll0 ds=true->PyData.eqvAll ds ds=true
 | [],_=>by simp [PyData.eqvAll]
 | d::r,h=>by
  simp only [PyData.canLayAll0,Bool.and_eq_true] at h;simp only [PyData.eqvAll,eqv_refl d h.1,eqvAll_refl r h.2,Bool.and_self]
end
def Sh (n:Nat) (d:PyData):Prop:=d.canLay0=true/\d.depth<=n
theorem vC {n:Nat}: ∀ {ds:List PyData},(∀d∈ds,Sh n d)->PyData.canLayAll0 ds=true/\PyData.depthAll ds<=n
 | [],_=>#[by simp [PyData.canLayAll0],by simp [PyData.depthAll]]
 | d::r,h=>by
  let#[W,h2]:=h d Zt;let#[O,h4]:=vC (ds:=r) λ e Y=>h e (Zs _ Y)
  show#[by simp [PyData.canLayAll0,W,O],by simp only [PyData.depthAll];rfl']
theorem xY (h: ∀d∈ds,Sh n d):Sh (n+1) (.list ds):=by
 let#[O,W]:=vC h;show#[by simp only [PyData.canLay0];show O,by simp only [PyData.depth];rfl']
theorem fX (h: ∀d∈ds,Sh n d):Sh (n+1) (.tuple ds):=by
 let#[O,W]:=vC h;show#[by simp only [PyData.canLay0];show O,by simp only [PyData.depth];rfl']
theorem du (n:Nat) (i:Int):Sh n (.int i):=#[by simp [PyData.canLay0],by simp [PyData.depth]]
theorem Ss (n:Nat) (b:Bool):Sh n (.bool b):=#[by simp [PyData.canLay0],by simp [PyData.depth]]
theorem Sh.shaped (h:Sh n d) (hn:n<=64):SeqAt.shaped d=true:=by
 unfold SeqAt.shaped;rw [h.1,Zz (Yl h.2 hn)];rfl
section
variable {H:Hp} {Q:VK} {K:W.Frag} {x y:V} {d:PyData} {n:Nat}
theorem rEqD.same (h1:Dp K H x d) (h2:Dp K H y d) (hs:Sh n d) (hn:n<=64) (q:Q (.bl true) H):rEqD K x y H Q:=#[d,d,h1,h2,hs.shaped hn,hs.shaped hn,by rw [eqv_refl d hs.1];show q]
theorem DpAll.bls: ∀bs:List Bool,DpAll K H (bs.map V.bl) (bs.map PyData.bool)
 | []=> .nil
 | b::r=> .cons (.bl b) (DpAll.bls r)
structure RefF (K:W.Frag) (C B:Addr) (ds es:List Addr):Prop where
 ex:ExcK K C
 em:PySem.W.exmOne K (.ref C) (.ref C)=some true
 kb:PySem.W.kitOne K (.ref C) (.ref B)=some true
 kv:PySem.W.kitOne K (.ref C) (.type "ValueError")=some true
 k1:PySem.W.kitAny K (.ref C) (ds.map Value.ref)=some false
 k2:PySem.W.kitAny K (.ref C) (es.map Value.ref)=some false
theorem Dg {D:Addr} (hx:H e=some (zH e (.ref C))) (z:ExcK K C) (k:PySem.W.kitOne K (.ref C) (.ref D)=some b) (h:Q (.bl b) H):dN K [.ref e, .ref D] H Q:=#[e,C,_,b,rfl,hx,z, .inr (.inl #[D,rfl,k]),h]
theorem MF (hx:H e=some (zH e (.ref C))) (z:ExcK K C) (k:PySem.W.kitOne K (.ref C) (.type T)=some b) (h:Q (.bl b) H):dN K [.ref e, .ty T] H Q:=#[e,C,_,b,rfl,hx,z, .inl #[T,rfl,k],h]
theorem Su {N:List Str} {i:Nat} {Eh:XK} {tb th:TS} {D:Ends} (h1:tb D σ H) (h2: ∀O H',Eh O none H'->PySem.W.exmOne K O (.ref C)=some true/\ ∀x,H' x=none->th (behind i D) ((List.replicate N.length none).set i (some (.ref x))) (upd H' x (zH x O))):Lx K N C i Eh tb th D σ H:=#[h1,h2]
theorem J7 {D:Ends} (h:t σ H λ vs H1=>vs.length<=sizeLine/\E (.ref C) none H1):eU E C t D σ H:=h
theorem JQ {xs:List V} (e:SqL K H a xs) (h: ∀p,H p=none->Q (.ref p) (upd H p (.lst (gh xs lo hi)))):Ai K (.ref a) lo hi H Q:=#[a,xs,rfl,e,h]
end
theorem Sv {i:Nat} {D:Ends} (h:D.nx (σ.set i none) H):(behind i D).nx σ H:=h
theorem Sb.off {ps:List Addr} (e:Sb ps H H') (hp: ∀p∈ps,H p=none):Same H H':=λ b o q=>e.at hp q
def Xj (K:W.Frag) (H:Hp) (q:Addr) (ss:List (Int×Int)):Prop:= ∃zs:List (Addr×Int×Int),zs.map (·.2)=ss/\SqL K H q (zs.map λ z=>V.ref z.1)/\ ∀z∈zs,SqT K H z.1 [.int z.2.1, .int z.2.2]
theorem jF {t:TS} {D:Ends} (J:St->Hp->Prop) (h2: ∀σ' H',J σ' H'->u D σ' H') (h1: ∀N:St->Hp->Prop,(∀σ' H',J σ' H'->N σ' H')->t { D with nx:=N } σ H):aG t u D σ H:=h1 _ h2
def tx (cs:List Nat):Str:=#[cs.toArray]
theorem qI (a b:List Nat):tx a++tx b=tx (a++b):=by
 change(#[a.toArray++b.toArray]:Str)=#[(a++b).toArray];simp
theorem bB (cs:List Nat):(tx cs).length=cs.length:=by change cs.toArray.size=_;simp
theorem qJ (cs:List Nat):(tx cs).cps.toList=cs:=rfl
theorem Dh {a b:List Nat}:tx a=tx b↔a=b:=by
 constructor
 .intro h;have:=Yc (λ s:Str=>s.cps.toList) h;simpa [tx] using this
 .intro h;rw [h]
theorem Di {cs:List Nat} {j:Nat} (h:j<=cs.length):Txt.slice (tx cs) none (some (j:Int))=tx (cs.take j):=by
 have:=beq_iff_eq.mp (PyProof.Rows.slice_closes_to (x:=tx cs) (j:=(j:Int)) #[(),by rw [qJ];rfl']);rw [this];simp [tx]
theorem xZ {cs:List Nat} {j:Nat} (h:j<=cs.length):Txt.slice (tx cs) (some (j:Int)) none=tx (cs.drop j):=by
 have:=beq_iff_eq.mp (PyProof.Rows.slice_closes_from (x:=tx cs) (i:=(j:Int)) #[(),by rw [qJ];rfl']);rw [this,qJ];change tx _=tx _;rw [Yk,Yu (by rw [List.length_drop];rfl')]
section
variable {σ:St} {H:Hp} {Q:VK} {D:Ends} {K:W.Frag} {g:TG} {κ:List (Option Nat)} {tc:TT} {te:TE}
theorem tV {s:Str} (e:s.length<=1000000) (h:Q (.str (Txt.slice s lo hi)) H):uM (.str s) lo hi H Q:=#[s,rfl,Yl e (by decide),h]
def iE (K:W.Frag) (R:It->Hp->Prop) (vs:List V) (H:Hp):Prop:= ∃a xs,vs=[.ref a]/\SqL K H a xs/\R (Vi K a) H
theorem J8 {ta:TA} {R:It->Hp->Prop} (h:ta σ H (iE K R)):xM K ta σ H R:=h
end
theorem MJ (n:Nat) {cs:List Nat} (h: ∀c∈cs,c<1114112):Sh n (.str (tx cs)):=by
 refine#[?_,by simp [PyData.depth]];simp only [PyData.canLay0,PyData.strOk];change cs.toArray.all _=true;simp;show h
section
variable {σ:St} {H:Hp} {Q:VK} {D:Ends} {K:W.Frag} {g:TG} {tb:TS}
def iD (R:It->Hp->Prop):V->Hp->Prop:=λ x H1=> ∃a kvs,x= .ref a/\H1 a=some (.dT kvs)/\ ∀od,R (Wi od a) (upd H1 a (.frz od (.dT kvs)))
theorem MK {ty:TE} (h:tv σ H λ v H1=>td σ H1 λ x H2=>ty σ H2 λ y H3=> ∃a O,x= .ref a/\SPut H3 a y v O/\D.nx σ O):tG td ty tv D σ H:=h
theorem MN {ty:TE} (h:tv σ H λ v H1=>td σ H1 λ x H2=>ty σ H2 λ y H3=> ∃a O,x= .ref a/\DPut H3 a y v O/\D.nx σ O):jR td ty tv D σ H:=h
theorem MP {ty:TE} (h:td σ H λ x H1=>ty σ H1 λ y H2=> ∃a v,x= .ref a/\DGet H2 a y (some v)/\Q v H2):iC td ty σ H Q:=h
theorem tW {l b:Addr} {xs zs:List V} (e1:H l=some (.lst xs)) (e2:H b=some (.lst zs)) (hn:xs.length+zs.length<=1000000) (h:Q .non (upd H l (.lst (xs++zs)))):kI (.ref l) [.ref b] H Q:=#[l,b,xs,zs,rfl,rfl,e1,e2,Yl hn (by decide),h]
def Xk (H:Hp) (zs:List (Addr×Int×Int)):Prop:= ∀z∈zs,H z.1=some (.tup [.int z.2.1, .int z.2.2])
end
section
variable {σ:St} {H:Hp} {Q:VK} {D:Ends} {K:W.Frag}
theorem VJ (h:te σ H λ x H'=> ∃k,x= .bl k/\R k H'):tB te σ H R:=h
theorem Sw (h:Q (.bl (decide (x= .non))) H):lY x .non H Q:=#[rfl,h]
theorem MT (h:Q (.bl (!decide (x= .non))) H):Bj x .non H Q:=#[rfl,h]
theorem kZ (e:SqL K H p ys) (h: ∀l,H l=none->Q (.ref l) (upd H l (.tup ys))):fc K [.ref p] H Q:=#[p,ys,rfl, .inl #[e,h]]
theorem SJ {ty:TE} (h:ty σ H λ y H1=>td σ H1 λ x H2=> ∃a o,x= .ref a/\SGet H2 a y o/\Q (.bl o.isSome) H2):M4 ty td σ H Q:=h
theorem Dk {ty:TE} (h:ty σ H λ y H1=>td σ H1 λ x H2=> ∃a o,x= .ref a/\SGet H2 a y o/\Q (.bl (!o.isSome)) H2):kW ty td σ H Q:=h
theorem N5 {ty:TE} (h:td σ H λ x H1=>ty σ H1 λ y H2=> ∃a v,x= .ref a/\SGet H2 a y (some v)/\Q v H2):jj td ty σ H Q:=h
theorem N6 (h: ∀p,H p=none->Q (.ref p) (upd H p (bx p []))):tE σ H Q:=h
theorem SM {ty:TE} (h:ty σ H λ y H1=>td σ H1 λ x H2=> ∃a o,x= .ref a/\DGet H2 a y o/\Q (.bl o.isSome) H2):Aw ty td σ H Q:=h
theorem Dm {ty:TE} (h:ty σ H λ y H1=>td σ H1 λ x H2=> ∃a o,x= .ref a/\DGet H2 a y o/\Q (.bl (!o.isSome)) H2):kJ ty td σ H Q:=h
theorem SN {xs:List V} (e:SqL K H p xs\/SqT K H p xs) (hx:gb x=true) (ha:xs.all gb=true) (h:Q (.bl (inV x xs)) H):QQ K false x (.ref p) H Q:=#[p,xs,rfl,e,hx,ha,h]
theorem J9 (hx:SqL K H a (zs.map λ z=>V.ref z.1)) (hz: ∀z∈zs,SqT K H z.1 (.str z.2.1::z.2.2)) (hd:(zs.map (·.2.1)).Nodup) (h64:zs.length<64)
  (h: ∀r (O:List (Addr×Str×List V)),O.Perm zs->(O.map (·.2.1)).Pairwise (λ a b=>a.cps.toList<b.cps.toList)->H r=none->Q (.ref r) (upd H r (.lst (O.map λ z=>V.ref z.1)))):qd K [.ref a] H Q:=#[a,zs,rfl,hx,hz,hd,h64,h]
end
def ov:Option Int->V
 | none=> .non
 | some i=> .int i
def DrT (K:W.Frag) (H:Hp) (a:Addr) (ps:L1S):Prop:= ∃zs:List (Addr×Str×Int),zs.map (·.2)=ps/\H a=some (.tup (zs.map λ z=>V.ref z.1))/\ ∀z∈zs,H z.1=some (.tup [.str z.2.1, .int z.2.2])
theorem DrT.same {K:W.Frag} {ps:L1S} (h:DrT K H a ps) (s:Same H H'):DrT K H' a ps:=by
 let#[zs,e,O,Y]:=h;show#[zs,e,s.get O,λ z hz=>s.get (Y z hz)]
def HsT (K:W.Frag) (H:Hp) (a:Addr) (ds:L2S) (es:List Int):Prop:= ∃ (d e:Addr) (rs:List (Addr×L1S)),H a=some (.tup [.ref d, .ref e])/\rs.map (·.2)=ds/\H d=some (.tup (rs.map λ r=>V.ref r.1))/\(∀r∈rs,DrT K H r.1 r.2)/\H e=some (.tup (es.map V.int))
def DrG (K:W.Frag) (H:Hp) (a:Addr) (ps:L1S):Prop:= ∃zs:List (Addr×Str×Int),zs.map (·.2)=ps/\SqT K H a (zs.map λ z=>V.ref z.1)/\ ∀z∈zs,H z.1=some (.tup [.str z.2.1, .int z.2.2])
theorem DrT.g {K:W.Frag} {ps:L1S} (h:DrT K H a ps):DrG K H a ps:=by
 let#[zs,e,Y,O]:=h;show#[zs,e,SqT.of Y,O]
theorem DrG.same {K:W.Frag} {ps:L1S} (h:DrG K H a ps) (s:Same H H'):DrG K H' a ps:=by
 let#[zs,e,O,Y]:=h;show#[zs,e,s.tup O,λ z hz=>s.get (Y z hz)]
def HsG (K:W.Frag) (H:Hp) (a:Addr) (ds:L2S) (es:List Int):Prop:= ∃ (d e:Addr) (rs:List (Addr×L1S)),H a=some (.tup [.ref d, .ref e])/\rs.map (·.2)=ds/\SqT K H d (rs.map λ r=>V.ref r.1)/\(∀r∈rs,DrG K H r.1 r.2)/\H e=some (.tup (es.map V.int))
theorem HsT.g {K:W.Frag} {ds:L2S} {es:List Int} (h:HsT K H a ds es):HsG K H a ds es:=by
 let#[d,e,rs,h1,h2,O,h4,h5]:=h;show#[d,e,rs,h1,h2,SqT.of O,λ r Y=>(h4 r Y).g,h5]
theorem HsG.same {K:W.Frag} {ds:L2S} {es:List Int} (h:HsG K H a ds es) (s:Same H H'):HsG K H' a ds es:=by
 let#[d,e,rs,h1,h2,O,h4,h5]:=h;show#[d,e,rs,s.get h1,h2,s.tup O,λ r Y=>(h4 r Y).same s,s.get h5]
theorem Dp.intsT {K:W.Frag} {es:List Int} (h:SqT K H a (es.map V.int)):Dp K H (.ref a) (.tuple (es.map PyData.int)):= .tup h (DpAll.ints es)
def hsD (ds:L2S) (es:List Int):PyData:= .tuple [.tuple (ds.map λ ps=> .tuple (ps.map λ s=> .tuple [.str s.1, .int s.2])), .tuple (es.map PyData.int)]
end L2
namespace Hs
open PySem L2
def dr (ps:L1S) (s:Str):Option Int:=(ps.find? λ p=>decide (p.1=s)).map (·.2)
def stp (ds:L2S) (o:Option Int) (s:Str):Option Int:=o.bind λ r=>dr (ds.getD r.toNat []) s
def go (ds:L2S) (cs:List Nat):Option Int:=cs.foldl (λ o c=>stp ds o (tx [c])) (some 0)
structure Wf (ds:L2S):Prop where
 pos:0<ds.length
 rm: ∀ps∈ds,∀p∈ps,0<=p.2/\p.2<ds.length
def Gy:Str:=Str.ofString " !\"#$&'()*+,-./0123456789:;<=>?@ABCDEFGHIJKLMNOPQRSTUVWXYZ[\\]^_`"++Str.ofString "abcdefghijklmnopqrstuvwxyz{|}~"
def yc (n:Int):Nat:=Gy.cps.toList.getD (n%94).toNat 0
def Sg (s:Str):Prop:= ∃n:Int,s=tx [yc n]
def WF (many i:Nat) (r:List (Addr×Str×Int)):Prop:=(r.map (·.2.1)).Nodup/\r.length<=i/\ ∀z∈r,Sg z.2.1/\0<=z.2.2/\z.2.2<many
end Hs
namespace L2
open PySem
abbrev Dz:=Addr×Str×Int
def Xl (H:Hp) (rows:List (Addr×List Dz)):Prop:=(rows.map (·.1)).Nodup/\ ∀row∈rows,H row.1=some (.lst (row.2.map λ z:Dz=>V.ref z.1))/\ ∀z∈row.2,H z.1=some (.tup [.str z.2.1, .int z.2.2])
section
variable {σ:St} {H:Hp} {Q:VK} {g:TG} {κ:List (Option Nat)} {te:TE} {K:W.Frag}
theorem qK {α β:Type} {g:α->β} {l out:List β} (h:l.Perm out): ∀ {zs:List α},l=zs.map g-> ∃O:List α,O.Perm zs/\out=O.map g:=by
 induction h with
 | nil=>intro zs e;show#[zs, .refl _,e]
 | cons x _ ih=>
  intro zs e
  cases zs with
  | nil=>cases e
  | cons z zs=>
   rw [Zl] at e;injection e with e1 e2
   let#[O,p,q]:=ih e2;show#[z::O,p.cons z,by rw [Zl,q,e1]]
 | swap x y l=>
  intro zs e
  match zs,e with
  | z1::z2::r,e=>
   rw [Zl,Zl] at e;injection e with e1 e2
   injection e2 with e2 e3
   show#[z2::z1::r, .swap _ _ _,by rw [Zl,Zl,e1,e2,e3]]
 | trans _ _ ih1 ih2=>
  intro zs e;let#[O,p,q]:=ih1 e;let#[us,W,Y]:=ih2 q;show#[us,W.trans p,Y]
theorem jW {α β:Type} {g:α->β} {ws:List β} {zs:List α} (h:ws.Perm (zs.map g)): ∃vs:List α,vs.Perm zs/\ws=vs.map g:=qK h.symm rfl
end
end L2
namespace Hs
theorem N7 (n:Int):yc n<1114112:=by
 unfold yc;have h: ∀c∈Gy.cps.toList,c<1114112:=by ac_nf
 rw [Zr]
 cases e:Gy.cps.toList[(n%94).toNat]? with
 | none=>decide
 | some c=>show h c (Zf e)
end Hs
namespace L2
open PySem
variable {H:Hp} {a:Addr} {ht:Nat}
abbrev Lz:=Addr×Str×Addr×List Nat
abbrev nv (xs:List Nat):List V:=xs.map λ i:Nat=>V.int (i:Int)
def WK (K:W.Frag) (H:Hp) (a:Addr) (ht:Nat) (ls:List (Str×List Nat)):Prop:= ∃ (l:Addr) (zs:List Lz),H a=some (.tup [.int (ht:Int), .ref l])/\zs.map (λ z:Lz=>(z.2.1,z.2.2.2))=ls/\SqT K H l (zs.map λ z:Lz=>V.ref z.1)/\ ∀z∈zs,H z.1=some (.tup [.str z.2.1, .ref z.2.2.1])/\H z.2.2.1=some (.tup (nv z.2.2.2))
def FnF (K:W.Frag) (H:Hp) (a:Addr) (ht:Nat) (ls:List (Str×List Nat)):Prop:= ∃ (l:Addr) (ob:PySem.Obj) (zs:List Lz),H a=some (.tup [.int (ht:Int), .ref l])/\zs.map (λ z:Lz=>(z.2.1,z.2.2.2))=ls/\ob.dict=none/\H l=some (.frz ob (.tup (zs.map λ z:Lz=>V.ref z.1)))/\ ∀z∈zs,H z.1=some (.tup [.str z.2.1, .ref z.2.2.1])/\H z.2.2.1=some (.tup (nv z.2.2.2))
theorem FnF.same {K:W.Frag} {H':Hp} {ls:List (Str×List Nat)} (h:FnF K H a ht ls) (s:Same H H'):FnF K H' a ht ls:=by
 let#[l,ob,zs,h1,h2,h5,Y,O]:=h;show#[l,ob,zs,s.get h1,h2,h5,s.get Y,λ z hz=>#[s.get (O z hz).1,s.get (O z hz).2]]
theorem FnF.t {K:W.Frag} {ls:List (Str×List Nat)} (h:FnF K H a ht ls):WK K H a ht ls:=by
 let#[l,ob,zs,Y,h2,h5,O,h4]:=h;show#[l,zs,Y,h2, .inl (.inr #[ob,O]),h4]
end L2
namespace Fo
open PySem L2
def lk (ls:List (Str×List Nat)) (s:Str):Option (List Nat):=(ls.find? λ p=>decide (p.1=s)).map (·.2)
theorem jk (p:Str×List Nat) (r:List (Str×List Nat)) (s:Str):lk (p::r) s=if p.1=s then some p.2 else lk r s:=by
 unfold lk;by_cases h:p.1=s
 .simp [h]
 .simp [h]
theorem vD {s:Str} {c:List Nat}: ∀ {ls:List (Str×List Nat)},lk ls s=some c->(s,c)∈ls
 | [],h=>by cases h
 | p::ps,h=>by
  rw [jk] at h;by_cases e:p.1=s
  .rw [if_pos e] at h
   cases h;rw [<- e];show Zt
  .rw [if_neg e] at h;show Zs _ (vD h)
theorem Do {s:Str}: ∀ {ls:List (Str×List Nat)},s∈ls.map (·.1)-> ∃c,lk ls s=some c
 | p::ps,h=>by
  rw [jk];by_cases e:p.1=s
  .exact #[_,if_pos e]
  .rw [if_neg e];rcases Zk.mp h with h | h
   .exact absurd h.symm e
   .exact Do h
def cl (ls:List (Str×List Nat)) (c:Nat):List Nat:=(lk ls (tx [c])).getD []
structure Wf (ht:Nat) (ls:List (Str×List Nat)):Prop where
 pos:0<ls.length
 le:ls.length<=40
 up:(ls.map (·.1)).Pairwise qg
 sg: ∀p∈ls,Hs.Sg p.1
 c1: ∀p∈ls,1<=p.2.length/\p.2.length<=8
 cb: ∀p∈ls,∀x∈p.2,x<2^ht
end Fo
namespace L2
open PySem
variable {a:Addr} {ys:List V} {co:List Nat} {ob:PySem.Obj} {kvs:List (Int×V)} {zs:List (Addr×Str×V)}
abbrev Kz:=Str×Addr×List Nat
def X8 (kvs:List Kz):List (Key×V):=kvs.map λ p:Kz=>(Sum.inr p.1,V.ref p.2.1)
section
variable {σ:St} {H:Hp} {Q:VK} {D:Ends} {K:W.Frag} {g:TG} {κ:List (Option Nat)} {tc:TT} {te:TE}
theorem Dq (e:H a=some (.dK (kvs.map λ p=>(Sum.inl p.1,p.2)))) (h64:kvs.length<64) (h: ∀r (ns:List Int),ns.Perm (kvs.map (·.1))->ns.Pairwise (· < ·)->H r=none->Q (.ref r) (upd H r (.lst (ns.map V.int)))):qi [.ref a] H Q:=#[a,kvs,rfl,e,h64,h]
theorem N8 {p:Addr} (e:SqL K H p ys) (h: ∀l (ob:PySem.Obj),ob.dict=none->H l=none->Q (.ref l) (upd H l (.frz ob (.tup ys)))):xP K [.ref p] H Q:=#[p,ys,rfl,e,h]
theorem tX (h0:ob.dict=none) (h1:H a=some (.frz ob (.tup (zs.map λ z=>V.ref z.1)))) (h2: ∀z∈zs,SqT K H z.1 [.str z.2.1,z.2.2]) (h3:(zs.map (·.2.1)).Nodup) (h4:zs.length<=1000) (h: ∀r,H r=none->Q (.ref r) (upd H r (.dK (zs.map λ z=>(Sum.inr z.2.1,z.2.2))))):je K [.ref a] H Q:=#[a,ob,zs,rfl,h0,h1,h2,h3,h4,h]
theorem TupK.sq {xs:List V} (h:TupK K a xs):SqT K H a xs:= .inr h
end
theorem Dr {zs:List Lz} {s:Str} (h:Fo.lk (zs.map λ z:Lz=>(z.2.1,z.2.2.2)) s=some co): ∃z∈zs,z.2.2.2=co/\bA (zs.map λ z:Lz=>((Sum.inr z.2.1:Key),V.ref z.2.2.1)) (Sum.inr s)=some (.ref z.2.2.1):=by
 induction zs with
 | nil=>cases h
 | cons p r ih=>
  rw [Zl,Fo.jk] at h;by_cases e:p.2.1=s
  .rw [if_pos e] at h
   cases h;show#[p,Zt,rfl,bQ (p:=(Sum.inr p.2.1,V.ref p.2.2.1)) (by rw [e])]
  .rw [if_neg e] at h;let#[q,m,W,O]:=ih h;show#[q,Zs _ m,W,(bI (p:=((Sum.inr p.2.1:Key),V.ref p.2.2.1)) (λ z=>e (Sum.inr.inj z))).trans O]
theorem vG (a:Str): ¬qg a a:=List.lt_irrefl _
theorem tY {ns:List Str} (h:ns.Pairwise qg):ns.Nodup:=List.Pairwise.imp (S:=λ a b=>a≠b) (λ {a b} (z:qg a b) (e:a=b)=>vG a (by rw [<- e] at z;show z)) h
section
variable {σ:St} {H:Hp} {Q:VK} {D:Ends} {K:W.Frag} {g:TG} {κ:List (Option Nat)} {tc:TT} {te:TE}
theorem SQ {α:Type} (c:α->V) {zs:List α} (hx:SqT K H a (zs.map c)) (hn:zs.length<=1000000) (Pv:Nat->List V->Hp->Prop) (h0:Pv 0 [] H) (hl: ∀i ys H',Pv i ys H'->SqT K H' a (zs.map c)) (hz: ∀i ys H',Pv i ys H'->ys.length<=i)
  (hs: ∀ (i:Nat) z ys H',zs[i]? =some z->Pv i ys H'->g (c z) (cap κ σ) H' λ O H2=>oJ (cap κ σ) O/\tc O H2 λ b H3=>if b=true then te O H3 λ y H4=>Pv (i+1) (ys++[y]) H4 else Pv (i+1) ys H3)
  (hd: ∀ys H',Pv zs.length ys H'-> ∀p,H' p=none->Q (.ref p) (upd H' p (.lst ys))):iT K (IV κ g tc te σ Q) (.ref a) H:=by
 refine#[a,rfl,#[_,hx],λ i m ys H'=>m=zs.length-i/\i<=zs.length/\Pv i ys H',#[zs.length,by simp,Yr _,h0],?_];rintro i m ys H' ⟨rfl,hi,p⟩;have q:=hl i ys H' p;by_cases Y:i<zs.length
 .have ex:zs[i]? =some zs[i]:=Ze Y;refine .inr #[#[_,c zs[i],q,by rw [Zi,ex];rfl],?_,λ ab W=>Pv (i+1) ab W,λ ab W p'=>#[zs.length-(i+1),(),rfl,Y,p'],λ x W y=> ?_]
  .exact Yj (hz i ys H' p) (Zx Y (Yl hn (by decide)))
  .obtain ⟨e,y⟩:=y;subst e;have e1:=y _ q;rw [Zi,ex] at e1
   cases e1;show hs i _ ys _ ex p
 .have e:i=zs.length:=()
  subst e;show .inl #[#[_,q,by simp],λ p' hp=>hd ys H' p p' hp]
end
end L2
namespace Hs
open PySem L2
variable {p:List Int}
theorem Nb {α:Type} {R:α->α->Prop} (as: ∀a b,R a b->R b a->False): ∀ {l1 l2:List α},l1.Perm l2->l1.Pairwise R->l2.Pairwise R->l1=l2
 | [],l2,h,_,_=>by rw [List.nil_perm] at h;show h.symm
 | a :: t, l2, h, h1, h2 => by
  cases l2 with
  | nil=>show absurd h.symm (by intro z;rw [List.nil_perm] at z;cases z)
  | cons b u=>
   have e:a=b:=by
    rcases Zk.mp (h.mem_iff.mp Zt) with e | m
    .exact e
    .rcases Zk.mp (h.mem_iff.mpr Zt) with e | m'
     .exact e.symm
     .exact (as _ _ ((List.pairwise_cons.mp h1).1 b m') ((List.pairwise_cons.mp h2).1 a m)).elim
   subst e;rw [Nb as h.cons_inv (List.pairwise_cons.mp h1).2 (List.pairwise_cons.mp h2).2]
theorem zu (a b:Str) (h:qg a b) (h':qg b a):False:=List.lt_irrefl _ (List.lt_trans h h')
theorem SX {p1 p2 p:L1S} (h1:p1.Perm p) (s1:(p1.map (·.1)).Pairwise qg) (h2:p2.Perm p) (s2:(p2.map (·.1)).Pairwise qg):p1=p2:=
 Nb (R:=λ a b=>qg a.1 b.1) (λ _ _=>zu _ _) (h1.trans h2.symm) (List.pairwise_map.mp s1) (List.pairwise_map.mp s2)
theorem T4 {p1 p2:List Int} (h1:p1.Perm p) (s1:p1.Pairwise (· < ·)) (h2:p2.Perm p) (s2:p2.Pairwise (· < ·)):p1=p2:=
 Nb (λ a b (h:a<b) h'=>()) (h1.trans h2.symm) s1 s2
def Xa (rows:List (Addr×List Dz)) (ds:L2S):Prop:=ds.length=rows.length/\ ∀ (j:Nat) ps row,ds[j]? =some ps->rows[j]? =some row->ps.Perm (row.2.map (·.2))/\(ps.map (·.1)).Pairwise qg
end Hs
namespace L2
open PySem
variable {zs:List (Addr×Str×V)} {kvs:List (List Key×V)}
theorem DrT.of {K:W.Frag} {H:Hp} {t:Addr} {ps:L1S} (h1:H t=some (.tup (zs.map λ z=>V.ref z.1))) (h2: ∀z∈zs,H z.1=some (.tup [.str z.2.1,z.2.2])) (e:zs.map (·.2)=ps.map λ p=>(p.1,V.int p.2)):DrT K H t ps:=by
 refine#[(zs.zip ps).map λ q=>(q.1.1,q.2.1,q.2.2),?_,?_,?_]
 .rw [Zn];change(zs.zip ps).map (λ q=>q.2)=ps;rw [List.map_snd_zip (by have:=Yc List.length e;simp at this;rfl')]
 .rw [Zn];have:(zs.zip ps).map ((λ z:Addr×Str×Int=>V.ref z.1)∘λ q=>(q.1.1,q.2.1,q.2.2))=((zs.zip ps).map (·.1)).map λ z=>V.ref z.1:=by rw [Zn];rfl
  rw [this,List.map_fst_zip (by have:=Yc List.length e;simp at this;rfl')];show h1
 .intro z hz;let#[q,hq,rfl]:=Zb.mp hz;let#[i,hi,Y]:=List.mem_iff_getElem.mp hq;rw [List.getElem_zip] at Y;have O:i<zs.length/\i<ps.length:=by rw [List.length_zip] at hi;rfl'
  have e1:zs[i].2=(ps[i].1,V.int ps[i].2):=by
   have:=Yc (λ l=>l[i]?) e;simp only [Zi,Ze O.1,Ze O.2,Option.map_some] at this;show Yi this
  rw [<- Y];have:=h2 _ (List.getElem_mem O.1);rw [e1] at this;show this
section
variable {σ:St} {H:Hp} {Q:VK} {D:Ends} {K:W.Frag}
theorem Ds {td:TE} (h:td σ H λ x H1=> ∃ (a:Addr) (kvs:List (Str×V)),x= .ref a/\H1 a=some (.dK (kvs.map λ p=>(Sum.inr p.1,p.2)))/\kvs.length<64/\ ∀r (zs:List (Addr×Str×V)) (H2:Hp),(zs.map (·.2)).Perm kvs->(zs.map (·.2.1)).Pairwise qg->H1 r=none->Same H1 H2->H2 r=some (.lst (zs.map λ z=>V.ref z.1))->(∀z∈zs,H2 z.1=some (.tup [.str z.2.1,z.2.2]))->Q (.ref r) H2):qj td σ H Q:=h
theorem Nf {a:Addr} (e:H a=some (.dT kvs)) (h:Q (.int kvs.length) H):Cw [.ref a] H Q:=#[a,kvs,rfl,e,h]
end
theorem fC {α:Type} {f:α->Key} {g:α->V} {zs:List α} {k:Key} (h:k∉zs.map f):bA (zs.map λ z=>(f z,g z)) k=none:=by
 induction zs with
 | nil=>rfl
 | cons z r ih=>
  rw [Zl] at h ⊢;rw [bI (λ e=>h (by rw [<- e];show Zt))];show ih (λ m=>h (Zs _ m))
theorem T5 {s:Str} (n:Nat) (h:Hs.Sg s):Sh n (.str s):=by
 let#[k,rfl]:=h;show MJ n λ c O=>by rw [Za.mp O];show Hs.N7 k
def Xm (K:W.Frag) (H:Hp) (a:Addr) (ht:Nat) (ls:List (Str×List Nat)):Prop:= ∃ (l:Addr) (zs:List Lz),H a=some (.tup [.int (ht:Int), .ref l])/\zs.map (λ z:Lz=>(z.2.1,z.2.2.2))=ls/\H l=some (.tup (zs.map λ z:Lz=>V.ref z.1))/\ ∀z∈zs,H z.1=some (.tup [.str z.2.1, .ref z.2.2.1])/\H z.2.2.1=some (.tup (nv z.2.2.2))
def Xn (ht:Nat) (ls:List (Str×List Nat)):PyData:= .tuple [.int (ht:Int), .tuple (ls.map λ p=> .tuple [.str p.1, .tuple ((p.2.map λ i:Nat=>(i:Int)).map PyData.int)])]
def Xo (H:Hp) (p:Addr) (zs:List Lz):Prop:=H p=some (.lst (zs.map λ z:Lz=>V.ref z.1))/\ ∀z∈zs,H z.1=some (.tup [.str z.2.1, .ref z.2.2.1])/\H z.2.2.1=some (.lst (nv z.2.2.2))
def ug (ls:List (Str×List Nat)):PyData:= .list (ls.map λ p=> .tuple [.str p.1, .list ((p.2.map λ i:Nat=>(i:Int)).map PyData.int)])
end L2
namespace Fo
open PySem L2
structure GoodL (ht:Nat) (zs:List Lz):Prop where
 pos:1<=zs.length
 le:zs.length<=40
 nd:(zs.map λ z:Lz=>z.2.1).Nodup
 sg: ∀z∈zs,Hs.Sg z.2.1
 c1: ∀z∈zs,1<=z.2.2.2.length/\z.2.2.2.length<=8
 cb: ∀z∈zs,∀x∈z.2.2.2,x<2^ht
def Of (zs:List Lz) (ls:List (Str×List Nat)):Prop:=ls.Perm (zs.map λ z:Lz=>(z.2.1,z.2.2.2))/\(ls.map (·.1)).Pairwise qg
end Fo
namespace Hs
open PySem L2
theorem Ja {m n:Int} (h:yc m=yc n):m%94=n%94:=by
 have hl:Gy.cps.toList.length=94:=by ac_nf
 have O:Gy.cps.toList.Nodup:=by ac_nf
 have a0:0<=m%94:=Int.emod_nonneg _ (by decide);have W:m%94<94:=Int.emod_lt_of_pos _ (by decide);have b0:0<=n%94:=Int.emod_nonneg _ (by decide);have Y:n%94<94:=Int.emod_lt_of_pos _ (by decide);unfold yc at h;rw [Zr,Zr,Ze (),Ze ()] at h;have:=(List.getElem_inj (h₀:=()) (h₁:=()) O).mp h;rfl'
end Hs
namespace L2
open PySem
variable {H:Hp} {Q:VK} {k:Sk} {σ:St} {ta:TA} {tb:TS} {v y:V} {a b:Addr} {ys:List V} {R:It->Hp->Prop} {hi lo:Option Int} {κ:List (Option Nat)} {kvs:List (Addr×Sk×V)}
abbrev Gz:=Addr×V×Addr×List V
def Xp (H:Hp) (p:Addr) (gs:List Gz):Prop:=H p=some (.lst (gs.map λ g:Gz=>V.ref g.1))/\ ∀g∈gs,H g.1=some (.tup [g.2.1, .ref g.2.2.1])/\H g.2.2.1=some (.lst g.2.2.2)/\Thing H g.2.1/\(∀v∈g.2.2.2,Thing H v)/\g.2.2.2.length<=1000
def Xq (z:Lz):Gz:=(z.1,V.str z.2.1,z.2.2.1,nv z.2.2.2)
theorem Dt {c:Int} {n m:Nat} (h0:0<n) (e:c%(n:Int)=(m:Int)) (h:Q (.int (m:Int)) H):bK (.int c) (.int (n:Int)) H Q:=#[c,n,rfl,rfl,(),by change Q (.int (c%(n:Int))) H;rw [e];show h]
theorem Jb {l:Addr} {xs:List V} {R:Hp->Prop} (e:H l=some (.lst xs)) (hj:0<xs.length) (h:R (upd H l (.lst (xs.set (xs.length-1) v)))):Ah (.ref l) (.int (-1)) v H R:=by
 refine#[l,xs,-1,xs.length-1,rfl,rfl,e,?_,h];unfold Gv;rw [if_neg (by decide),if_pos ()];congr 1;rfl'
section
variable {σ:St} {H:Hp} {Q:VK} {D:Ends} {K:W.Frag} {g:TG} {tb:TS} {κ:List (Option Nat)} {tc:TT} {te:TE}
def Xr (K:W.Frag) (R:It->Hp->Prop) (vs:List V) (H:Hp):Prop:= ∃a b xs ys,vs=[.ref a, .ref b]/\SqT K H a xs/\SqL K H b ys/\R (R1 K a b) H
def Xu (R:It->Hp->Prop) (vs:List V) (H:Hp):Prop:= ∃i j:Int,vs=[.int i, .int j, .int (-1)]/\(-(2^62)<=i/\i<2^62/\ -(2^62)<=j/\j<2^62)/\R (R3 i (i-j).toNat) H
def Xv (K:W.Frag) (R:It->Hp->Prop) (vs:List V) (H:Hp):Prop:= ∃a b xs ys,vs=[.ref a, .ref b]/\SqL K H a xs/\SqT K H b ys/\R (Rc K a b) H
def Xw (K:W.Frag) (R:It->Hp->Prop) (vs:List V) (H:Hp):Prop:= ∃a xs,vs=[.ref a]/\SqL K H a xs/\R (R6 K a xs.length) H
def Xx (K:W.Frag) (R:It->Hp->Prop) (vs:List V) (H:Hp):Prop:= ∃a xs,vs=[.ref a]/\SqT K H a xs/\R (R8 K a xs.length) H
end
theorem ar1 {α:Type} {P:List α->Prop} (h: ∀a0:α,P [a0]): ∀us:List α,us.length=1->P us
 | [a0],_=>h a0
theorem ar2 {α:Type} {P:List α->Prop} (h: ∀a0 O:α,P [a0,O]): ∀us:List α,us.length=2->P us
 | [a0,O],_=>h a0 O
theorem Xb {α:Type} {P:List α->Prop} (h: ∀a0 W O:α,P [a0,W,O]): ∀us:List α,us.length=3->P us
 | [a0,W,O],_=>h a0 W O
theorem WL {α:Type} {P:List α->Prop} (h: ∀a0 Y O W:α,P [a0,Y,O,W]): ∀us:List α,us.length=4->P us
 | [a0,Y,O,W],_=>h a0 Y O W
theorem Xc {α:Type} {P:List α->Prop} (h: ∀a0 Y O W a4:α,P [a0,Y,O,W,a4]): ∀us:List α,us.length=5->P us
 | [a0,Y,O,W,a4],_=>h a0 Y O W a4
structure RefN (K:W.Frag) (C B D1 D2:Addr):Prop where
 ex:ExcK K C
 em:PySem.W.exmOne K (.ref C) (.ref C)=some true
 kb:PySem.W.kitOne K (.ref C) (.ref B)=some true
 kv:PySem.W.kitOne K (.ref C) (.type "ValueError")=some true
 k1:PySem.W.kitOne K (.ref C) (.ref D1)=some false
 k2:PySem.W.kitOne K (.ref C) (.ref D2)=some false
namespace Tn
def dv (cs:List Nat):Nat:=PySem.NumText.digitsVal cs
def VL (c:Nat):List Nat->List (List Nat)
 | []=>[[]]
 | x::r=>if x=c then []::VL c r else match VL c r with
  | []=>[[x]]
  | p::ps=>(x::p)::ps
def Du (c:Nat):List (List Nat)->List Nat
 | []=>[]
 | [p]=>p
 | p::q::r=>p++c::Du c (q::r)
end Tn
structure RefC (K:W.Frag) (C B D1 D2:Addr) (b1 b2:Bool):Prop where
 ex:ExcK K C
 em:PySem.W.exmOne K (.ref C) (.ref B)=some true
 kv:PySem.W.kitOne K (.ref C) (.type "ValueError")=some true
 k1:PySem.W.kitOne K (.ref C) (.ref D1)=some b1
 k2:PySem.W.kitOne K (.ref C) (.ref D2)=some b2
def WM (R:It->Hp->Prop):V->Hp->Prop:=λ x H1=> ∃a kvs,x= .ref a/\((H1 a=some (.dK kvs)/\ ∀od,R (z8 od a) (upd H1 a (.frz od (.dK kvs))))\/ ∃od,H1 a=some (.frz od (.dK kvs))/\R (z8 od a) H1)
section
variable {σ:St} {H:Hp} {Q:VK} {D:Ends} {K:W.Frag} {g:TG} {κ:List (Option Nat)} {tc:TT} {te:TE}
theorem Dv {tl:TE} (h:tl σ H (WM R)):uT tl σ H R:=h
end
def kz (kvs:List Kz):List (Str×List Nat):=kvs.map λ p:Kz=>(p.1,p.2.2)
def Xy (H:Hp) (d:Addr) (ls:List (Str×List Nat)):Prop:= ∃kvs:List Kz,Rd H d (.dK (X8 kvs))/\(∀p∈kvs,H p.2.1=some (.tup (nv p.2.2)))/\(∀s,Fo.lk (kz kvs) s=Fo.lk ls s)
structure RefD (K:W.Frag) (C B D1 D2 D3:Addr) (b1 b2 b3:Bool) (ds es:List Addr):Prop where
 ex:ExcK K C
 em:PySem.W.exmOne K (.ref C) (.ref B)=some true
 k1:PySem.W.kitOne K (.ref C) (.ref D1)=some b1
 k2:PySem.W.kitOne K (.ref C) (.ref D2)=some b2
 k3:PySem.W.kitOne K (.ref C) (.ref D3)=some b3
 ka:PySem.W.kitAny K (.ref C) (ds.map Value.ref)=some false
 kb:PySem.W.kitAny K (.ref C) (es.map Value.ref)=some false
 kv:PySem.W.kitOne K (.ref C) (.type "ValueError")=some true
namespace Tn
structure GR (W:List Nat->Nat) (wide:Int) (ws rows:List (List Nat)):Prop where
 nil:rows=[]↔ws=[]
 eq:Du 32 rows=Du 32 ws
 ok: ∀r∈rows,r≠[]/\(W r:Int)<=wide
 mx: ∀k (h:k+1<rows.length),wide<(W (rows[k]++32::(VL 32 rows[k+1]).headD []):Int)
end Tn
def KL (K:W.Frag) (C:Addr):List (Addr×Bool)->Prop
 | []=>True
 | p::r=>PySem.W.kitOne K (.ref C) (.ref p.1)=some p.2/\KL K C r
structure RefG (K:W.Frag) (C B:Addr) (ks:List (Addr×Bool)):Prop where
 ex:ExcK K C
 em:PySem.W.exmOne K (.ref C) (.ref B)=some true
 kv:PySem.W.kitOne K (.ref C) (.type "ValueError")=some true
 kl:KL K C ks
def KA (K:W.Frag) (C:Addr):List (List Addr)->Prop
 | []=>True
 | p::r=>PySem.W.kitAny K (.ref C) (p.map Value.ref)=some false/\KA K C r
structure RefH (K:W.Frag) (C B:Addr) (ks:List (Addr×Bool)) (ls:List (List Addr)):Prop where
 ex:ExcK K C
 em:PySem.W.exmOne K (.ref C) (.ref B)=some true
 kv:PySem.W.kitOne K (.ref C) (.type "ValueError")=some true
 kl:KL K C ks
 ka:KA K C ls
structure RefE (K:W.Frag) (C B D1 D2:Addr) (b1 b2:Bool) (ds:List Addr):Prop where
 ex:ExcK K C
 em:PySem.W.exmOne K (.ref C) (.ref B)=some true
 k1:PySem.W.kitOne K (.ref C) (.ref D1)=some b1
 k2:PySem.W.kitOne K (.ref C) (.ref D2)=some b2
 kv:PySem.W.kitOne K (.ref C) (.type "ValueError")=some true
 ka:PySem.W.kitAny K (.ref C) (ds.map Value.ref)=some false
def LL (H:Hp) (p:Addr) (rows:List (Addr×List Nat)):Prop:=H p=some (.lst (rows.map λ r:Addr×List Nat=>V.ref r.1))/\ ∀r∈rows,H r.1=some (.lst (nv r.2))
theorem Ng {l:Addr} {xs:List V} (e:H l=some (.lst (y::xs))) (h:Q y (upd H l (.lst xs))):uB (.ref l) [.int 0] H Q:=⟨l,y::xs,0,0,y,rfl,rfl,e,by decide,by decide,by
 unfold seqIndex?;simp,rfl,h⟩
theorem s_pop {l:Addr} {xs:List V} (e:H l=some (.lst (xs++[y]))) (h:Q y (upd H l (.lst xs))):Lg (.ref l) [] H Q:=#[l,xs++[y],y,rfl,rfl,e,by simp,by rw [List.dropLast_concat];show h]
section
variable {σ:St} {H:Hp} {Q:VK} {D:Ends} {K:W.Frag} {g:TG} {tb:TS}
def Xz (r:V->V->Hp->VK->Prop) (Q:VK) (vs ks:List V) (H:Hp):Prop:= ∃x y,vs=[x]/\ks=[y]/\r x y H Q
def XC (K:W.Frag) (R:It->Hp->Prop) (vs ks:List V) (H:Hp):Prop:= ∃a xs o,vs=[.ref a]/\ks=[.int ((o:Nat):Int)]/\o<=1000000000/\SqL K H a xs/\R (Ws K a o) H
def XD (K:W.Frag) (R:It->Hp->Prop) (vs:List V) (H:Hp):Prop:= ∃a xs,vs=[.ref a]/\SqT K H a xs/\R (Rb K a) H
def WN (R:It->Hp->Prop) (vs ks:List V) (H:Hp):Prop:= ∃x o,vs=[.str x]/\ks=[.int ((o:Nat):Int)]/\o<=1000000000/\R (M3 x o) H
theorem Nh {tk:TA} (h:ta σ H λ vs H1=>tk σ H1 λ ks H2=>WN R vs ks H2):uX ta tk σ H R:=h
theorem T6 {tc:TT} {te:TE} {cs:List Nat} {o:Nat} (ho:o<=1000000000) (hn:cs.length<=1000000) (Pv:Nat->List V->Hp->Prop) (h0:Pv 0 [] H) (hz: ∀i ys H',Pv i ys H'->ys.length<=i)
  (hs: ∀ (i c:Nat) p ys H',cs[i]? =some c->Pv i ys H'->H' p=none->g (.ref p) (cap κ σ) (upd H' p (.tup [.int ((i+o:Nat):Int), .str (tx [c])])) λ O H2=>oJ (cap κ σ) O/\tc O H2 λ b H3=>if b=true then te O H3 λ y H4=>Pv (i+1) (ys++[y]) H4 else Pv (i+1) ys H3)
  (hd: ∀ys H',Pv cs.length ys H'-> ∀p,H' p=none->Q (.ref p) (upd H' p (.lst ys))):WN (IV κ g tc te σ Q) [.str (tx cs)] [.int ((o:Nat):Int)] H:=by
 refine#[tx cs,o,rfl,rfl,ho,λ i m ys H'=>m=cs.length-i/\i<=cs.length/\Pv i ys H',#[cs.length,by simp,Yr _,h0],?_];rintro i m ys H' ⟨rfl,hi,p⟩;by_cases Y:i<cs.length
 .refine .inr #[Y,?_,λ ab W=>Pv (i+1) ab W,λ ab W p'=>#[cs.length-(i+1),(),rfl,Y,p'],λ x W y=> ?_]
  .exact Yj (hz i ys H' p) (Zx Y (Yl hn (by decide)))
  .obtain ⟨r,c,hr,rfl,rfl,ec⟩:=y;show hs i c r ys _ (by simpa [tx] using ec) p hr
 .have e:i=cs.length:=()
  subst e;show .inl #[rfl,λ p' hp=>hd ys H' p p' hp]
end
def XF (H:Hp) (p:Addr) (rows:List (List Nat)):Prop:= ∃as:List Addr,as.length=rows.length/\H p=some (.lst (as.map V.ref))/\ ∀ (i:Nat) a r,as[i]? =some a->rows[i]? =some r->H a=some (.lst (nv r))
theorem Ni {D:Ends} {g:TG} {kvs:List (Key×V)} (ea:Rd H a (.dK kvs)) (Pv:PySem.Obj->Nat->St->Hp->Prop) (h0: ∀od H1,Sb [a] H H1->H1 a=some (.frz od (.dK kvs))->Pv od 0 σ H1) (hl: ∀od i σ H',Pv od i σ H'->H' a=some (.frz od (.dK kvs)))
  (hs: ∀od (i:Nat) z σ H',kvs[i]? =some z->Pv od i σ H'->g (kV z.1) σ H' λ W H2=>tb { D with nx:=Pv od (i+1),ct:=Pv od (i+1),bk:=D.nx } W H2) (hd: ∀od σ H',Pv od kvs.length σ H'->D.nx σ H'):WM (nM g tb D σ) (.ref a) H:=by
 have key: ∀od H1,Sb [a] H H1->H1 a=some (.frz od (.dK kvs))->nM g tb D σ (z8 od a) H1:=by
  intro od H1 sb e1;refine#[λ i m σ H=>m=kvs.length-i/\i<=kvs.length/\Pv od i σ H,#[kvs.length,by simp,Yr _,h0 od H1 sb e1],?_];rintro i m σ H' ⟨rfl,hi,p⟩;have e:=hl od i σ H' p;by_cases O:i<kvs.length
  .refine .inr #[#[kvs,e,O],Pv od (i+1),λ σ' H' Y=>#[kvs.length-(i+1),(),rfl,O,Y],λ x ab y=> ?_];let#[rfl,y2]:=y;let#[k,x',h1,rfl]:=y2 kvs e;show hs od i (k,x') σ _ h1 p
  .have ei:i=kvs.length:=()
   subst ei;show .inl #[#[kvs,e,Zm _],hd od σ H' p]
 rcases ea with e | ⟨od,e⟩
 .refine #[a,kvs,rfl, .inl #[e,λ od=>key od _ ?_ ao]];intro b o nb q;rw [aq (by simpa using nb)];show q
 .exact #[a,kvs,rfl, .inr #[od,e,key od H (λ b o _ q=>q) e]]
section
variable {σ:St} {H:Hp} {Q:VK} {D:Ends} {K:W.Frag} {g:TG} {κ:List (Option Nat)} {tc:TT} {te:TE}
def WP (K:W.Frag) (R:It->Hp->Prop) (vs:List V) (H:Hp):Prop:= ∃a b xs ys,vs=[.ref a, .ref b]/\SqT K H a xs/\SqT K H b ys/\R (LR K a b) H
theorem Jc (h:ta σ H (WP K R)):xQ K ta σ H R:=h
theorem T7 {α β:Type} (c:α->V) (d:β->V) {xs:List α} {ys:List β} (hx:SqT K H a (xs.map c)) (hy:SqT K H b (ys.map d)) (hl:xs.length=ys.length) (hn:xs.length<=1000000) (f:α->β->V)
  (hs: ∀ (i:Nat) x y p H',xs[i]? =some x->ys[i]? =some y->Same H H'->H' p=some (.tup [c x,d y])-> ∀A:VK,(∀H4,Same H' H4->A (f x y) H4)->g (.ref p) (cap κ σ) H' λ ab H2=>oJ (cap κ σ) ab/\te ab H2 A)
  (hd: ∀p H',Same H H'->H' p=some (.lst (List.zipWith f xs ys))->Q (.ref p) H'):WP K (IV κ g gD te σ Q) [.ref a, .ref b] H:=by
 refine#[a,b,_,_,rfl,hx,hy,λ i m zs H'=>m=xs.length-i/\i<=xs.length/\Same H H'/\zs=List.zipWith f (xs.take i) (ys.take i),#[xs.length,by simp,Yr _,Same.refl H,rfl],?_];rintro i m zs H' ⟨rfl,hi,O,rfl⟩;by_cases Y:i<xs.length
 .have ex:xs[i]? =some xs[i]:=Ze Y;have ey:ys[i]? =some (ys[i]'(by rfl')):=Ze ();refine .inr #[#[_,_,c xs[i],d (ys[i]'(by rfl')),O.tup hx,O.tup hy,by rw [Zi,ex];rfl,by rw [Zi,ey];rfl],?_,λ ac W=>Same H W/\ac=List.zipWith f (xs.take (i+1)) (ys.take (i+1)),λ ac W p'=>#[xs.length-(i+1),(),rfl,Y,p'.1,p'.2],λ v W y=> ?_]
  .have:(List.zipWith f (xs.take i) (ys.take i)).length<=i:=by
    rw [List.length_zipWith,Yd];rfl'
   show Yj this (Zx Y (Yl hn (by decide)))
  .obtain ⟨p,x,z,hp,rfl,rfl,q1,q2⟩:=y;have e1:=q1 _ (O.tup hx);have e2:=q2 _ (O.tup hy);rw [Zi,ex] at e1;rw [Zi,ey] at e2
   cases e1
   cases e2;have q:=hs i _ _ p (upd H' p (.tup [c xs[i],d (ys[i]'(by rfl'))])) ex ey (O.new hp) ao (λ y H4=>Same H H4/\List.zipWith f (xs.take i) (ys.take i)++[y]=List.zipWith f (xs.take (i+1)) (ys.take (i+1))) (λ H4 s4=>#[(O.new hp).trans s4,?_])
   .simpa only [gD,if_true] using q
   .rw [Yg,Yg,ex,ey,List.zipWith_append (by rw [Yd,Yd];rfl')];rfl
 .have e:i=xs.length:=()
  subst e;refine .inl #[#[_,_,O.tup hx,O.tup hy, .inl (by simp)],λ p hp=>hd p _ (O.new hp) ?_];rw [ao,Yq,hl,Yq]
end
theorem JR {K:W.Frag} {xs:List V} (e:SqT K H a xs) (h: ∀p H',Same H H'->SqT K H' p (gh xs lo hi)->Q (.ref p) H'):sY K (.ref a) lo hi H Q:=⟨a,xs,rfl,e,λ p H' c O=>h p H' (by
 rcases c with ⟨rfl,rfl,_⟩ | ⟨hn,rfl⟩
 .exact Same.refl _
 .exact aB hn _) O⟩
theorem Dw {K:W.Frag} {xs:List V} (e:H a=some (.tup xs)) (h: ∀p H',Same H H'->H' p=some (.tup (gh xs lo hi))->Q (.ref p) H'):sY K (.ref a) lo hi H Q:=⟨a,xs,rfl,SqT.of e,λ p H' c O=>by
 rcases c with ⟨rfl,rfl,z⟩ | ⟨hn,rfl⟩
 .exact h _ _ (Same.refl _) (by rw [z];show e)
 .exact h _ _ (aB hn _) ao⟩
theorem SGet.of (e:H a=some (bx a kvs)) (hk: ∀p∈kvs,qt H p.1 p.2.1) (hb:qt H b k):SGet H a (.ref b) (cH kvs k):=#[kvs,k,b, .inl e,hk,rfl,hb,rfl]
theorem SPut.of (e:H a=some (bx a kvs)) (hk: ∀p∈kvs,qt H p.1 p.2.1) (hb:qt H b k) (hn:kvs.length<=1000000):SPut H a (.ref b) v (upd H a (bx a (qu kvs b k v))):=#[kvs,k,b,e,hk,rfl,hb,Yj hn (by decide),rfl]
theorem ph:cH kvs k=none↔k∉kvs.map (·.2.1):=by
 unfold cH;rw [Option.map_eq_none_iff,List.find?_eq_none];constructor
 .intro h m;let#[p,O,e]:=Zb.mp m;show h p O (Zz e)
 .intro h p O e;show h (Zb.mpr #[p,O,of_decide_eq_true e])
theorem zx (h:cH kvs k=some v): ∃b,(b,k,v)∈kvs:=by
 unfold cH at h;let#[p,O,rfl]:=Ye.mp h;have W:=List.mem_of_find?_eq_some O;have Y:p.2.1=k:=by
  have:=List.find?_some O;show of_decide_eq_true this
 show#[p.1,by rw [<- Y];show W]
theorem mQ (h:cH kvs k=none):qu kvs b k v=kvs++[(b,k,v)]:=by
 unfold qu;rw [h];rfl
section
variable {σ:St} {H:Hp} {Q:VK} {D:Ends} {K:W.Frag} {g:TG} {tb:TS}
theorem Nm {α:Type} (c:α->V) {xs:List α} (hx:SqL K H a (xs.map c)) (Pv:Nat->St->Hp->Prop) (h0:Pv 0 σ H)
  (hk: ∀i σ H',Pv i σ H'->SqL K H' a (xs.map c))
  (hs: ∀ (i:Nat) x p σ H',xs[i]? =some x->Pv i σ H'->H' p=none->g (.ref p) σ (upd H' p (.tup [.int (i:Int),c x])) λ W H2=>tb { D with nx:=Pv (i+1),ct:=Pv (i+1),bk:=D.nx } W H2)
  (hd: ∀σ H',Pv xs.length σ H'->D.nx σ H'):iE K (nM g tb D σ) [.ref a] H:=by
 refine#[a,_,rfl,hx,λ i m σ H=>m=xs.length-i/\i<=xs.length/\Pv i σ H,#[xs.length,by simp,Yr _,h0],?_];rintro i m σ H ⟨rfl,hi,p⟩;have Y:=hk i σ H p;by_cases O:i<xs.length
 .have e1:(xs.map c)[i]? =some (c xs[i]):=by rw [Zi,Ze O];rfl
  refine .inr #[#[_,_,Y,e1],Pv (i+1),λ σ' H' p'=>#[xs.length-(i+1),(),rfl,O,p'],λ v H' y=> ?_];let#[r,x',hr,rfl,rfl,f1]:=y;have g1:=f1 _ Y;rw [e1] at g1
  cases g1;show hs i _ r σ H (Ze O) p hr
 .have e:i=xs.length:=()
  subst e;show .inl #[#[_,Y,by rw [Qr];show Zm _],hd σ H p]
end
theorem fY {p q:Addr} {xs:List V} {o:HO} (h:H p=some (.tup xs)) (e:H q=some (.lst ys)):upd H q o p=some (.tup xs):=by
 rw [aq λ z=>by rw [z,e] at h;cases h];show h
theorem mR {D:Ends} {c:TT} (Pv:Nat->St->Hp->Prop) (m0:Nat) (h0:Pv m0 σ H)
  (hs: ∀m σ H (N:St->Hp->Prop),Pv m σ H->(∀m' σ' H',m'<m->Pv m' σ' H'->N σ' H')->c σ H λ b H1=>if b=true then tb { D with nx:=N,ct:=N,bk:=D.nx } σ H1 else D.nx σ H1)
  (mono: ∀σ H Q Q',(∀b H1,Q b H1->Q' b H1)->c σ H Q->c σ H Q'):fK c tb D σ H:=by
 classical
 have O: ∀ (P:Nat->Prop),(∃m,P m)-> ∃m,P m/\ ∀k,P k->m<=k:=λ P ⟨m,hm⟩=>by
  induction m using Nat.strongRecOn with
  | ind m ih=>
   by_cases h: ∃k,k<m/\P k
   .obtain ⟨k,Y,pk⟩:=h;show ih k Y pk
   .exact #[m,hm,λ k pk=>Nat.le_of_not_lt λ Y=>h #[k,Y,pk]]
 refine xX (λ σ H=> ∃m,Pv m σ H) (λ σ H=>if h: ∃m,Pv m σ H then (O (λ m=>Pv m σ H) h).choose else 0) #[m0,h0] ?_ mono;intro σ H h;let#[p1,p2]:=(O (λ m=>Pv m σ H) h).choose_spec;refine hs _ σ H _ p1 λ m' σ' H' hm W=>#[#[m',W],?_]
 rw [dif_pos h,dif_pos #[m',W]];show Yj ((O (λ m=>Pv m σ' H') #[m',W]).choose_spec.2 m' W) hm
theorem zy (h:cH kvs k=none):cH (kvs++[(b,k,v)]) k=some v:=by
 unfold cH at h ⊢;rw [List.find?_append,Option.map_eq_none_iff.mp h];simp
theorem Dy (h:k∈kvs.map (·.2.1)): ∃v,cH kvs k=some v:=by
 cases e:cH kvs k with
 | none=>show absurd h (ph.mp e)
 | some v=>show#[v,rfl]
end L2
namespace Mm
section
variable {α:Type}
inductive Rch (bs:List α) (nx:α->List α):α->Prop
 | base {x:α} (h:x∈bs):Rch bs nx x
 | step {x y:α} (h:Rch bs nx x) (m:y∈nx x):Rch bs nx y
theorem Rch.all {bs:List α} {nx:α->List α} {P:α->Prop} (h0: ∀x∈bs,P x) (hs: ∀x y,P x->y∈nx x->P y): ∀ {x},Rch bs nx x->P x:=λ h=>by
 induction h with
 | base h=>show h0 _ h
 | step h m ih=>show hs _ _ ih m
structure Clo (bs:List α) (nx:α->List α) (F W:List α):Prop where
 nd:F.Nodup
 rF: ∀x∈F,Rch bs nx x
 rW: ∀x∈W,Rch bs nx x
 b: ∀x∈bs,x∈F\/x∈W
 c: ∀x∈F,∀y∈nx x,y∈F\/y∈W
theorem Clo.start (bs:List α) (nx:α->List α):Clo bs nx [] bs:=#[List.nodup_nil,λ x m=>(by cases m),λ x m=> .base m,λ x m=> .inr m,λ x m=>(by cases m)]
theorem Clo.skip {bs:List α} {nx:α->List α} {F W:List α} {x:α} (h:Clo bs nx F (W++[x])) (m:x∈F):Clo bs nx F W:=by
 have k: ∀y,y∈F\/y∈W++[x]->y∈F\/y∈W:=λ y O=>by
  rcases O with O | O
  .exact .inl O
  .rcases Zp.mp O with O | O
   .exact .inr O
   .rw [Za.mp O];show .inl m
 show#[h.nd,h.rF,λ y Y=>h.rW y (Ym _ Y),λ y Y=>k y (h.b y Y),λ y Y z mz=>k z (h.c y Y z mz)]
theorem Clo.take {bs:List α} {nx:α->List α} {F W:List α} {x:α} (h:Clo bs nx F (W++[x])) (m:x∉F):Clo bs nx (F++[x]) (W++nx x):=by
 have hx:=h.rW x (Zw _ (Za.mpr rfl));have k: ∀y,y∈F\/y∈W++[x]->y∈F++[x]\/y∈W++nx x:=λ y Y=>by
  rcases Y with Y | Y
  .exact .inl (Ym _ Y)
  .rcases Zp.mp Y with Y | Y
   .exact .inr (Ym _ Y)
   .exact .inl (Zw _ Y)
 refine#[?_,λ y O=> ?_,λ y O=> ?_,λ y O=>k y (h.b y O),λ y O z mz=> ?_]
 .refine Yt.mpr #[h.nd,by simp,λ a ma b mb e=>m ?_];rw [Za.mp mb] at e;rw [<- e];show ma
 .rcases Zp.mp O with O | O
  .exact h.rF y O
  .rw [Za.mp O];show hx
 .rcases Zp.mp O with O | O
  .exact h.rW y (Ym _ O)
  .exact .step hx O
 .rcases Zp.mp O with O | O
  .exact k z (h.c y O z mz)
  .rw [Za.mp O] at mz;show .inr (Zw _ mz)
theorem Clo.fin {bs:List α} {nx:α->List α} {F:List α} (h:Clo bs nx F []) (x:α):x∈F↔Rch bs nx x:=by
 refine#[h.rF x,λ r=> ?_];induction r with
 | base m=>show(h.b _ m).resolve_right (by simp)
 | step r m ih=>show(h.c _ ih _ m).resolve_right (by simp)
end
end Mm
namespace L2
open PySem
variable {H:Hp} {Q:VK} {a:Addr} {td tl:TE} {R:It->Hp->Prop} {us:List (V×PyData)}
def V1 (t:TE):Prop:= ∀σ H (Q Q':VK),(∀v H1,Q v H1->Q' v H1)->t σ H Q->t σ H Q'
def Xd (t:TT):Prop:= ∀σ H (Q Q':Bool->Hp->Prop),(∀v H1,Q v H1->Q' v H1)->t σ H Q->t σ H Q'
def WQ (r:R2):Prop:= ∀x y H (Q Q':VK),(∀v H1,Q v H1->Q' v H1)->r x y H Q->r x y H Q'
theorem T8 {r:R2} {a b:TE} (hr:WQ r) (ha:V1 a) (hb:V1 b):V1 (aK r a b):=λ O H Q W h z=>ha _ _ _ _ (λ x H1 z=>hb _ _ _ _ (λ y H2 z=>hr _ _ _ _ _ h z) z) z
theorem Jd {t:TE} (ht:V1 t):Xd (aZ t):=λ O H Q W h z=>ht _ _ _ _ (λ x H1 ⟨k,e,z⟩=>#[k,e,h _ _ z]) z
theorem Je (K:W.Frag):WQ (rNeD K):=λ x y H Q Q' h ⟨d,e,Y,h2,O,h4,z⟩=>#[d,e,Y,h2,O,h4,h _ _ z]
def V2 (R:It->Hp->Prop):V->Hp->Prop:=λ x H1=> ∃a kvs,x= .ref a/\((H1 a=some (bx a kvs)/\ ∀od,R (vh od a kvs) (upd H1 a (.frz od (bx a kvs))))\/ ∃od,H1 a=some (.frz od (bx a kvs))/\R (vh od a kvs) H1)
def VM (R:It->Hp->Prop):V->Hp->Prop:=λ x H1=> ∃a kvs,x= .ref a/\((H1 a=some (bx a kvs)/\ ∀od,R (vo od a kvs) (upd H1 a (.frz od (bx a kvs))))\/ ∃od,H1 a=some (.frz od (bx a kvs))/\R (vo od a kvs) H1)
section
variable {σ:St} {H:Hp} {Q:VK} {D:Ends} {g:TG} {tb:TS} {κ:List (Option Nat)} {tc:TT} {te:TE} {a:Addr} {kvs:List (Addr×Sk×V)}
theorem tZ (h:tl σ H (V2 R)):qz tl σ H R:=h
theorem pq (h:tl σ H (VM R)):qC tl σ H R:=h
theorem DG {o:HO}:Sb [a] H (upd H a o):=λ b o O q=>by rw [aq (by simpa using O)];show q
theorem JS (ea:Rd H a (bx a kvs)) (h: ∀od H1,Sb [a] H H1->H1 a=some (.frz od (bx a kvs))->R (vh od a kvs) H1):V2 R (.ref a) H:=by
 rcases ea with e | ⟨od,e⟩
 .exact #[a,kvs,rfl, .inl #[e,λ od=>h od _ DG ao]]
 .exact #[a,kvs,rfl, .inr #[od,e,h od H (λ b o _ q=>q) e]]
theorem T9 (ea:Rd H a (bx a kvs)) (h: ∀od H1,Sb [a] H H1->H1 a=some (.frz od (bx a kvs))->R (vo od a kvs) H1):VM R (.ref a) H:=by
 rcases ea with e | ⟨od,e⟩
 .exact #[a,kvs,rfl, .inl #[e,λ od=>h od _ DG ao]]
 .exact #[a,kvs,rfl, .inr #[od,e,h od H (λ b o _ q=>q) e]]
theorem Np (ea:Rd H a (bx a kvs)) (Pv:PySem.Obj->Nat->St->Hp->Prop) (h0: ∀od H1,Sb [a] H H1->H1 a=some (.frz od (bx a kvs))->Pv od 0 σ H1) (hl: ∀od i σ H',Pv od i σ H'->H' a=some (.frz od (bx a kvs)))
  (hs: ∀od (i:Nat) z σ H',kvs[i]? =some z->Pv od i σ H'->g (.ref z.1) σ H' λ W H2=>tb { D with nx:=Pv od (i+1),ct:=Pv od (i+1),bk:=D.nx } W H2) (hd: ∀od σ H',Pv od kvs.length σ H'->D.nx σ H'):V2 (nM g tb D σ) (.ref a) H:=by
 refine JS ea λ od H1 sb e1=>#[λ i m σ H=>m=kvs.length-i/\i<=kvs.length/\Pv od i σ H,#[kvs.length,by simp,Yr _,h0 od H1 sb e1],?_]
 rintro i m σ H' ⟨rfl,hi,p⟩;by_cases O:i<kvs.length
 .refine .inr #[#[hl od i σ H' p,O],Pv od (i+1),λ σ' H' Y=>#[kvs.length-(i+1),(),rfl,O,Y],λ x ab y=> ?_];let#[rfl,z,h1,rfl]:=y;show hs od i z σ _ h1 p
 .have ei:i=kvs.length:=()
  subst ei;show .inl #[#[hl od _ σ H' p,Zm _],hd od σ H' p]
theorem Nq (ea:Rd H a (bx a kvs)) (Pv:PySem.Obj->Nat->St->Hp->Prop) (h0: ∀od H1,Sb [a] H H1->H1 a=some (.frz od (bx a kvs))->Pv od 0 σ H1) (hl: ∀od i σ H',Pv od i σ H'->H' a=some (.frz od (bx a kvs)))
  (hs: ∀od (i:Nat) z p σ H',kvs[i]? =some z->Pv od i σ H'->H' p=none->g (.ref p) σ (upd H' p (.tup [.ref z.1,z.2.2])) λ W H2=>tb { D with nx:=Pv od (i+1),ct:=Pv od (i+1),bk:=D.nx } W H2) (hd: ∀od σ H',Pv od kvs.length σ H'->D.nx σ H'):VM (nM g tb D σ) (.ref a) H:=by
 refine T9 ea λ od H1 sb e1=>#[λ i m σ H=>m=kvs.length-i/\i<=kvs.length/\Pv od i σ H,#[kvs.length,by simp,Yr _,h0 od H1 sb e1],?_]
 rintro i m σ H' ⟨rfl,hi,p⟩;by_cases O:i<kvs.length
 .refine .inr #[#[hl od i σ H' p,O],Pv od (i+1),λ σ' H' Y=>#[kvs.length-(i+1),(),rfl,O,Y],λ x ab y=> ?_];let#[q,z,hn,h1,rfl,rfl]:=y;show hs od i z q σ _ h1 p hn
 .have ei:i=kvs.length:=()
  subst ei;show .inl #[#[hl od _ σ H' p,Zm _],hd od σ H' p]
theorem Tc (ea:Rd H a (bx a kvs)) (hn:kvs.length<=1000000) (f:Addr×Sk×V->Option V)
  (h: ∀od H1,Sb [a] H H1->H1 a=some (.frz od (bx a kvs))->
   (∀ (i:Nat) z,kvs[i]? =some z-> ∀ (A:VK) (B:Hp->Prop),(∀y,f z=some y->A y H1)->(f z=none->B H1)->g (.ref z.1) (cap κ σ) H1 λ W H2=>oJ (cap κ σ) W/\tc W H2 λ b H3=>if b=true then te W H3 A else B H3)/\
   ∀p,H1 p=none->Q (.ref p) (upd H1 p (.lst (kvs.filterMap f)))):V2 (IV κ g tc te σ Q) (.ref a) H:=by
 refine JS ea λ od H1 sb e1=> ?_
 let#[hs,hd]:=h od H1 sb e1;refine#[λ i m ys H'=>m=kvs.length-i/\i<=kvs.length/\H'=H1/\ys=(kvs.take i).filterMap f,#[kvs.length,by simp,Yr _,rfl,rfl],?_];rintro i m ys H' ⟨rfl,hi,rfl,rfl⟩;by_cases Y:i<kvs.length
 .have ez:kvs[i]? =some kvs[i]:=Ze Y;have et:kvs.take (i+1)=kvs.take i++[kvs[i]]:=by rw [Yg,ez];rfl
  have ac:((kvs.take i).filterMap f).length<=1000000:=Yl (List.length_filterMap_le _ _) (by rw [Yd];rfl');refine .inr #[#[e1,Y],Yj ac (by decide),λ ab O=>O=H'/\ab=(kvs.take (i+1)).filterMap f,λ ab O p'=>#[kvs.length-(i+1),(),rfl,Y,p'.1,p'.2],λ v O y=> ?_];let#[rfl,z,h1,rfl]:=y;rw [ez] at h1;have hk:kvs[i]=z:=Yi h1;show hs i z (by rw [ez,hk]) (λ y H4=>H4=O/\(kvs.take i).filterMap f++[y]=(kvs.take (i+1)).filterMap f) (λ H4=>H4=O/\(kvs.take i).filterMap f=(kvs.take (i+1)).filterMap f)
   (λ y e=>#[rfl,by rw [et,Mm.gJ,hk,e];rfl]) (λ e=>#[rfl,by rw [et,Mm.gJ,hk,e];simp])
 .have ei:i=kvs.length:=()
  subst ei;refine .inl #[#[e1,Zm _],λ p hp=> ?_];rw [Yq];show hd p hp
theorem DK {ty:TE} (h:td σ H λ x H1=> ∃a,x= .ref a/\Lj H1 a/\ty σ H1 λ y H2=> ∃kvs k b v,H2 a=some (.dT kvs)/\y= .ref b/\H2 b=some (.tup (k.map kV))/\bA kvs k=some v/\Q v (upd H2 a (.dT (cL kvs k)))):CJ td ty σ H Q:=h
theorem DN {ty tx:TE} (h:td σ H λ x H1=> ∃a,x= .ref a/\Lj H1 a/\ty σ H1 λ y H2=>tx σ H2 λ z H3=> ∃kvs k b,H3 a=some (.dT kvs)/\y= .ref b/\H3 b=some (.tup (k.map kV))/\kvs.length<sizeLine/\
 (∀v,bA kvs k=some v->Q v H3)/\(bA kvs k=none->Q z (upd H3 a (.dT (kvs++[(k,z)]))))):CK td ty tx σ H Q:=h
theorem Nr {kvs:List (List Int×V)} (e:H a=some (.dT (kvs.map λ p=>(p.1.map Sum.inl,p.2)))) (hne:kvs≠[]) (h: ∀b k,H b=some (.tup (k.map V.int))->k∈kvs.map (·.1)->(∀O∈kvs.map (·.1),HT.lexLt O k=false)->Q (.ref b) H):CP [.ref a] H Q:=#[a,kvs,rfl,e,hne,h]
theorem SGet.ofR {b:Addr} {k:Sk} (e:Rd H a (bx a kvs)) (hk: ∀p∈kvs,qt H p.1 p.2.1) (hb:qt H b k):SGet H a (.ref b) (cH kvs k):=#[kvs,k,b,e,hk,rfl,hb,rfl]
end
theorem Jf {K:W.Frag} (f:PyData->Int) (e:SqL K H a (us.map (·.1))) (hn:us≠[]) (hd: ∀u∈us,Dp K H u.1 u.2/\u.2.canLay0=true/\u.2.depth<=8) (hc: ∀u∈us,∀v∈us,Nk.CmpD u.2 v.2/\(Nk.qD u.2 v.2=true->f u.2<=f v.2)/\(Nk.qD u.2 v.2=false->f v.2<=f u.2)) (h: ∀u∈us,(∀v∈us,f u.2<=f v.2)->Q u.1 H):qG K [.ref a] H Q:=#[a,us,f,rfl,e,hn,hd,hc,h]
theorem DP {K:W.Frag} {ss:List Str} (e:SqT K H a (ss.map V.str)) (hn:ss≠[]) (h: ∀s∈ss,Q (.str s) H):mO K [.ref a] H Q:=#[a,ss,rfl,e,hn,h]
theorem Jg {σ:St} {ty:TE} (h:td σ H λ x H1=> ∃a kvs,x= .ref a/\Rd H1 a (bx a kvs)/\ty σ H1 λ y H2=> ∃o,SGet H2 a y o/\Q (o.getD .non) H2):vy td ty σ H Q:=h
end L2
end
set_option Elab.async false
set_option linter.all false
set_option maxRecDepth 100000
open L2
local macro_rules | `(tactic| walk_at "si") => `(tactic| first | assumption | (with_reducible exact Mm.big_pos) | (with_reducible exact Int.pow_pos (by decide)) | rfl' | (dsimp only; rfl') | exact ⟨by rfl', by rfl'⟩ | exact Or.inr ⟨by rfl', by rfl'⟩ | exact Or.inl ⟨by rfl', by rfl'⟩ | exact ⟨by rfl', by rfl', by rfl'⟩ | exact ⟨by rfl', by rfl', by decide⟩ | (dsimp only; decide) | exact Mm.Iu _ | exact Mm.big_pos | exact Int.pow_pos (by decide))
local macro_rules | `(tactic| walk_at "gp") => `(tactic| repeat (first | walk_at "st" | (with_reducible (refine s_lenA (xs := ?xs) ?e ?_; case e => assumption))))
local macro_rules | `(tactic| symm) => `(tactic| repeat walk_at "st")
local macro_rules | `(tactic| walk_at "gq") => `(tactic| (intro R h; (with_unfolding_all walk_at "gp"); exact h))
local macro_rules | `(tactic| walk_at "sx") => `(tactic| with_reducible first|refine Rq ?_|refine Rr ?_|refine Mj ?_|refine Rt ?_|refine Vt ?_| (refine Ru (v:= ?v) ?e ?_;case e=>with_unfolding_all exact rfl)|refine X7 ?_|refine Iz ?_|refine s_call ?_|refine Iv ?_|refine Mq ?_|refine Rv ?_|refine RG ?_| (refine VB ?_ ?_;(with_unfolding_all walk_at "si"))|refine RJ ?_|refine RK ?_|refine Mr ?_|refine VJ ?_|refine Sw ?_|refine Ds ?_|refine MT ?_|refine SM ?_|refine SJ ?_|refine Dk ?_|refine N5 ?_|refine N6 ?_|refine Dm ?_|refine Vw ?_|refine Ry ?_|refine Rw ?_|refine Rx ?_|refine Rz ?_|refine Vx ?_|refine Ms ?_|refine RB ?_|refine Mt ?_|refine Vy ?_|refine RC ?_|refine Aq ?_|refine Ao ?_|refine Rk ?_|refine Rm ?_|refine Rp ?_|refine Vv ?_|refine Vu ?_|refine VD ?_| (refine De (b:= ?b) (c:= ?c) (x:= ?x) (y:= ?y) (z:= ?z) ?h1 ?h2 ?h3 ?h4 ?h5 ?_;(case h1=>walk_at "gq");(case h2=>walk_at "gq");(case h3=>walk_at "gq");(case h4=>walk_at "gq");(case h5=>walk_at "gq"))|refine Iw ?_|refine Mp ?_|refine Sv ?_|refine J7 ?_|refine IK ?_|refine Mu ?_|refine Mv ?_| (refine RD (x:= ?v) ?e ?_;case e=>with_unfolding_all exact rfl)|refine Vz ?_| (refine RL ?_ ?_;with_unfolding_all exact rfl)|refine RZ ?_|refine Sq ?_|refine J3 ?_|refine J6 ?_|refine J4 ?_|refine J5 ?_|refine Jg ?_|refine DK ?_|refine DN ?_|refine tZ ?_|refine pq ?_|refine RM ?_|refine RN ?_| (refine RQ ?_ ?_;(with_unfolding_all first | decide|(simp;rfl') | simp))|refine VF ?_|refine CZ ?_|refine Mw ?_|refine Mx ?_|refine VG ?_|refine RT ?_|refine RV ?_|refine VH ?_|refine IW ?_|refine My ?_|refine J0 ?_|refine J1 ?_|refine Jc ?_|refine J8 ?_|refine Nh ?_|refine Dv ?_|refine MN ?_|refine MK ?_|refine MP ?_| (refine RP ?_ ?_;(with_unfolding_all first | exact Vs | exact ext2 | exact ext3)))
local macro_rules | `(tactic| walk_at "st") => `(tactic| first | with_reducible refine JM ?_ | walk_at "sx")
local macro_rules | `(tactic| walk_at "sj") => `(tactic| first | walk_at "sx")
local macro_rules | `(tactic| walk_at "gj") => `(tactic| repeat walk_at "sj")
local macro_rules | `(tactic| walk_at "hp") => `(tactic| first
 | assumption
 | exact ao
 | (refine SqL.of ?_;walk_at "hp")
 | (refine SqT.of ?_;walk_at "hp")
 | (refine ig (by assumption) ?_;walk_at "hp")
 | (refine xV (by assumption) ?_;walk_at "hp")
 | (refine bf (by assumption) ?_;walk_at "hp")
 | (refine Same.seq (by assumption) ?_;walk_at "hp")
 | (refine Same.tup (by assumption) ?_;walk_at "hp")
 | (refine Same.get (by assumption) ?_;walk_at "hp"))
local macro_rules | `(tactic| walk_at "sm") => `(tactic| first | assumption | exact Same.refl _ | (refine Same.new ?_ (by assumption);walk_at "sm") | (refine Same.trans ?_ (by assumption);walk_at "sm"))
local macro_rules | `(tactic| walk_at "ns") => `(tactic| try dsimp only [L2.start, List.map, List.length, Nat.reduceAdd, Nat.reduceSub, List.reduceReplicate, List.cons_append, List.nil_append, List.set])
namespace Pg
open PySem L2
variable {v:V} {Q:VK} {ds:L2S} {H H':Hp} {ys:List V} {b ba p:Addr} {k r:Nat×Nat} {o':Option Nat} {i j m mo n:Nat} {row:Addr×List Dz} {es' ms rs:List Int} {w:Str×List Nat×Int} {st:Int×Int×List Nat} {os os':List (Option Nat)} {wss:List (List (Str×List Nat×Int))}
def Nt:Addr:=52
def V3:Addr:=65
def JT:Addr:=77
def jl:Addr:=89
def bu:Addr:=244
variable {K:W.Frag} {vs:List V} {H:Hp} {Q:VK} {E:XK}
theorem gm {a:Addr} {xs:List V} (e:H a=some (.tup (v::xs))) (h:Q v H):aV K (.ref a) (.int 0) H Q:=iI (SqT.of e) (aP (j:=0) (v:=v) rfl) h
theorem dR {a:Addr} {v0:V} {xs:List V} (e:H a=some (.tup (v0::v::xs))) (h:Q v H):aV K (.ref a) (.int 1) H Q:=iI (SqT.of e) (aP (j:=1) (v:=v) rfl) h
theorem jG {a:Addr} {v0 v1:V} {xs:List V} (e:H a=some (.tup (v0::v1::v::xs))) (h:Q v H):aV K (.ref a) (.int 2) H Q:=iI (SqT.of e) (aP (j:=2) (v:=v) rfl) h
inductive sp_f26 (K:W.Frag) (vs:List V) (H:Hp) (Q:VK) (E:XK):Prop
 | mk (x:V) (h0:vs=[x]) (h1:Thing H x) (h2:Q (.bl (isI x)) H):sp_f26 K vs H Q E
def vH (K:W.Frag) (E:XK) (Eh:XK):TS:=
  (bh (lD (cG (dZ K) (aa (aj 0) (aa (tC (V.ty "int")) az))) (wY (cG (dZ K) (aa (aj 0) (aa (tC (V.ty "bool")) az))))))
theorem Nu (h:sp_f26 K vs H Q E): ∃O,vH K E O { nx:=λ _ H'=>Q .non H',rt:=Q } (start ["thing"] vs) H:=by
 let#[x,rfl,W,q]:=h;refine#[E0,?_];unfold vH;symm;rcases W.ty (K:=K) with ⟨b,rfl⟩ | ⟨i,rfl⟩ | ⟨s,rfl,_⟩ | ⟨n,ty,hn,e,_⟩
 .refine d7 (.bl b) (b:=true) rfl ?_;symm;refine d7 (.bl b) (b:=true) rfl ?_;symm;show q
 .refine d7 (.int i) (b:=true) rfl ?_;symm;refine d7 (.int i) (b:=false) rfl ?_;symm;show q
 .refine d7 (.str s) (b:=false) rfl ?_;symm;show q
 .rw [e] at q;refine d7 ty (b:=false) (by rcases hn with rfl | rfl | rfl | rfl<;>rfl) ?_;symm;show q
def sgn:V->Bool
 | .str s=>decide (s.length=1)&&(!decide (s.cps.toList<(Str.ofString " ").cps.toList)&&(!decide ((Str.ofString "~").cps.toList<s.cps.toList)&& !decide (((s.cps.getD 0 0:Nat):Int)=37)))
 | _=>false
theorem Nv {s:Str} (h:Hs.Sg s):sgn (.str s)=true:=by
 let#[n,rfl]:=h;have: ∀c∈Hs.Gy.cps.toList,sgn (.str (tx [c]))=true:=by ac_nf
 have Y:Hs.Gy.cps.toList.length=94:=by ac_nf
 have O:0<=n%94:=Int.emod_nonneg _ (by decide);have W:n%94<94:=Int.emod_lt_of_pos _ (by decide);refine this _ ?_;unfold Hs.yc;rw [Zr,Ze ()];show List.getElem_mem _
inductive sp_f31 (K:W.Frag) (vs:List V) (H:Hp) (Q:VK) (E:XK):Prop
 | mk (x:V) (h0:vs=[x]) (h1:Thing H x) (h2:Q (.bl (sgn x)) H):sp_f31 K vs H Q E
def vI (K:W.Frag) (E:XK) (Eh:XK):TS:=
  (aG (cF (Ke (lB (lV K (cG (dZ K) (aa (aj 0) (aa (tC (V.ty "str")) az))))) (aZ (aK KH (cG (bT K) (aa (aj 0) az)) (tC (V.int 1))))) (bh (tC (V.bl false))) bF)
  (bh (lD (fM lX lX (tC (V.str (Str.ofString " "))) (aj 0) (tC (V.str (Str.ofString "~")))) (aK KH (cG JC (aa (aj 0) az)) (tC (V.int 37))))))
theorem Ny (h:sp_f31 K vs H Q E): ∃W,vI K E W { nx:=λ _ H'=>Q .non H',rt:=Q } (start ["thing"] vs) H:=by
 let#[x,rfl,Y,q]:=h;refine#[E0,?_];unfold vI;symm;rcases Y.ty (K:=K) with ⟨b,rfl⟩ | ⟨i,rfl⟩ | ⟨s,rfl,hl⟩ | ⟨n,ty,hn,_,e⟩
 .refine d7 (.bl b) (b:=false) rfl ?_;symm;show q
 .refine d7 (.int i) (b:=false) rfl ?_;symm;show q
 .refine d7 (.str s) (b:=true) rfl ?_;symm;refine jE () ?_;symm;refine xU (λ c=> ?_) λ c=> ?_
  .have e:sgn (.str s)=false:=by
    change(decide (s.length=1)&&_)=false;rw [Zv (),Bool.false_and]
   rw [e] at q;symm;show q
  .have O:s.length=1:=()
   have e:sgn (.str s)=(!decide (s.cps.toList<(Str.ofString " ").cps.toList)&&(!decide ((Str.ofString "~").cps.toList<s.cps.toList)&& !decide (((s.cps.getD 0 0:Nat):Int)=37))):=by
    change(decide (s.length=1)&&_)=_;rw [Zz O,Bool.true_and]
   rw [e,<- Bool.and_assoc] at q;symm;refine Ro (λ d=> ?_) λ d=> ?_
   .rw [d,Bool.true_and] at q;symm;refine S7 O ?_;symm;show q
   .rw [d,Bool.false_and] at q;symm;show q
 .have e':sgn x=false:=by
   cases x with
   | str s=>show absurd rfl (e s)
   | _=>rfl
  rw [e'] at q;refine d7 ty (b:=false) (by rcases hn with rfl | rfl | rfl | rfl<;>rfl) ?_;symm;show q
inductive sp_f39 (K:W.Frag) (vs:List V) (H:Hp) (Q:VK) (E:XK):Prop
 | mk (n:Nat) (h0:vs=[.int n]) (h1:Q (.int (Bm.pop n)) H):sp_f39 K vs H Q E
def vJ (K:W.Frag) (E:XK) (Eh:XK):TS:=
  (aG (aM (tC (V.int 0)) (aA 1))
  (aG (fK (aZ (aK uJ (aj 0) (tC (V.int 0)))) (aG (aM (aK QW (aj 0) (aK lW (aj 0) (tC (V.int 1)))) (aA 0))
  (Ko 1 (tC (V.int 1)) Hy)))
  (bh (aj 1))))
theorem Nz (h:sp_f39 K vs H Q E): ∃Y,vJ K E Y { nx:=λ _ H'=>Q .non H',rt:=Q } (start ["column","dots"] vs) H:=by
 let#[n,rfl,q]:=h;refine#[E0,?_];unfold vJ;refine JM ?_;symm;refine rG (λ O H'=> ∃m d:Nat,O=[some (.int (m:Int)),some (.int (d:Int))]/\H'=H/\d+Bm.pop m=Bm.pop n) (λ O _=>match O with | some (.int m)::_=>m.toNat | _=>0) ⟨n,0,rfl,rfl,()⟩ ?_ ?_
 .rintro _ _ ⟨m,d,rfl,rfl,e⟩;symm;refine fW (λ c=> ?_) (λ c=> ?_)
  .have W:0<m:=()
   have ex:Builtin.bitAnd (m:Int) ((m:Int)-1)=((m&&& (m-1):Nat):Int):=by
    rw [show(m:Int)-1=((m-1:Nat):Int) by rfl',Bx.iV]
   symm;rw [ex];have lt:=Bm.Ln m W;have pl:=Bm.Hr m W;refine#[#[m&&& (m-1),d+1,rfl,rfl,()],?_];change((m&&& (m-1):Nat):Int).toNat<(m:Int).toNat;rfl'
  .have W:m=0:=()
   subst W;rw [Bm.rR] at e;symm;rw [show d=Bm.pop n by rfl'];show q
 .rintro O H Q Q' hq ⟨v,hv,i,j,e1,e2,k,e3,z⟩;show#[v,hv,i,j,e1,e2,k,e3,hq _ _ z]
inductive sp_f37 (K:W.Frag) (vs:List V) (H:Hp) (Q:VK) (E:XK):Prop
 | mk (a b:Nat) (h0:vs=[.int a, .int b]) (h1:Q (.int (Bm.pop (a^^^b):Nat)) H):sp_f37 K vs H Q E
def vK (K:W.Frag) (E:XK) (Eh:XK):TS:=
  (bh (aH (sp_f39 K) [] E0 (aa (aK QX (aj 0) (aj 1)) az)))
theorem NB (h:sp_f37 K vs H Q E): ∃O,vK K E O { nx:=λ _ H'=>Q .non H',rt:=Q } (start ["one","other"] vs) H:=by
 let#[a,b,rfl,q]:=h;refine#[E0,?_];unfold vK;symm;rw [Bx.uH];show#[_,rfl,q]
inductive sp_f7 (K:W.Frag) (vs:List V) (H:Hp) (Q:VK) (E:XK):Prop
 | mk (p q:Addr) (xs ys:List V) (h0:vs=[.ref p, .ref q]) (h1:SqT K H p xs) (h2:SqT K H q ys) (h3:xs.length=ys.length) (h4:Q .non H):sp_f7 K vs H Q E
def DQ (K:W.Frag) (E:XK) (Eh:XK):TS:=
  (cF (aZ (aK KH (cG (bT K) (aa (aj 0) az)) (cG (bT K) (aa (aj 1) az)))) zM bF)
theorem Td (h:sp_f7 K vs H Q E): ∃O,DQ K E O { nx:=λ _ H'=>Q .non H',rt:=Q } (start ["one","other"] vs) H:=by
 let#[p1,p2,xs,ys,rfl,W,Y,hl,q]:=h;refine#[E0,?_];unfold DQ;symm;refine c7 W ?_;symm;refine c7 Y ?_;symm;refine CW (by rw [hl]) ?_;symm;show q
inductive sp_f44 (K:W.Frag) (vs:List V) (H:Hp) (Q:VK) (E:XK):Prop
 | mk (p q:Addr) (xs ys:List Nat) (h0:vs=[.ref p, .ref q]) (h1:SqT K H p (nv xs)) (h2:SqT K H q (nv ys)) (h3:xs.length=ys.length) (h4:xs.length<=1000) (h5: ∀H',Same H H'->Q (.int (Mm.vB xs ys:Nat)) H'):sp_f44 K vs H Q E
def vL (K:W.Frag) (E:XK) (Eh:XK):TS:=
  (aG (cC (aH (sp_f7 K) [] E0 (aa (aj 0) (aa (aj 1) az))))
  (bh (cG (Ls K) (aa (uf [none,none] (xQ K (aa (aj 0) (aa (aj 1) az))) (j5 K 2 (bO (aA 0) (bO (aA 1) jn))) gD (aH (sp_f37 K) [] E0 (aa (aj 0) (aa (aj 1) az)))) az))))
theorem NK (h:sp_f44 K vs H Q E): ∃Eh,vL K E Eh { nx:=λ _ H'=>Q .non H',rt:=Q } (start ["one","other"] vs) H:=by
 let#[p1,p2,xs,ys,rfl,Y,h2,W,hn,q]:=h;refine#[E0,?_];unfold vL;symm;refine#[_,_,_,_,rfl,Y,h2,by rw [Qr,Qr,W],?_];symm;refine T7 (λ i:Nat=>V.int (i:Int)) (λ i:Nat=>V.int (i:Int)) Y h2 W () (λ x y=>V.int ((Bm.pop (x^^^y):Nat):Int)) ?_ ?_
 .intro i x y p H' hx hy sH O A kA;refine dO (SqT.of O) rfl ?_;symm;show#[x,y,rfl,kA _ (Same.refl _)]
 .intro p H' sH O;symm;refine S8 (ns:=List.zipWith (λ x y=>((Bm.pop (x^^^y):Nat):Int)) xs ys) (SqL.of ?_) ?_
  .rw [O,List.map_zipWith]
  .rw [Mm.tQ];show q _ sH
abbrev Wz:=Addr×Str×List Nat×Int
def WyT (H:Hp) (z:Wz):Prop:= ∃ca,H z.1=some (.tup [.str z.2.1, .ref ca, .int z.2.2.2])/\H ca=some (.tup (nv z.2.2.1))
theorem WyT.same {z:Wz} (h:WyT H z) (s:Same H H'):WyT H' z:=by
 let#[W,Y,O]:=h;show#[W,s.get Y,s.get O]
def LdT (H:Hp) (p:Addr) (ws:List (Str×List Nat×Int)):Prop:= ∃zs:List Wz,zs.map (·.2)=ws/\H p=some (.lst (zs.map λ z:Wz=>V.ref z.1))/\ ∀z∈zs,WyT H z
theorem LdT.same {ws:List (Str×List Nat×Int)} (h:LdT H p ws) (s:Same H H'):LdT H' p ws:=by
 let#[zs,W,Y,O]:=h;show#[zs,W,s.get Y,λ z mz=>(O z mz).same s]
def b7 (ls:List (Str×List Nat)) (ps:L1S):List (Str×List Nat×Int):=ps.filterMap λ p=>(Fo.lk ls p.1).map λ co=>(p.1,co,p.2)
theorem pA (ls:List (Str×List Nat)) (ps:L1S) (p:Str×Int):b7 ls (ps++[p])=b7 ls ps++(match Fo.lk ls p.1 with | none=>[] | some co=>[(p.1,co,p.2)]):=by
 unfold b7;rw [List.filterMap_append];congr 1;rw [List.filterMap_cons,List.filterMap_nil]
 cases Fo.lk ls p.1<;>rfl
inductive sp_f24 (K:W.Frag) (vs:List V) (H:Hp) (Q:VK) (E:XK):Prop
 | mk (tb da:Addr) (zs:List Lz) (ps:L1S) (h0:vs=[.ref tb, .ref da]) (h1:H tb=some (.dK (zs.map λ z:Lz=>((Sum.inr z.2.1:Key),V.ref z.2.2.1)))) (h2:(∀z∈zs,H z.2.2.1=some (.tup (nv z.2.2.2)))) (h3:DrG K H da ps) (h4:ps.length<=1000) (h5: ∀p H',Same H H'->H p=none->LdT H' p (b7 (zs.map λ z:Lz=>(z.2.1,z.2.2.2)) ps)->Q (.ref p) H'):sp_f24 K vs H Q E
def vM (K:W.Frag) (E:XK) (Eh:XK):TS:=
  (bh (uf [none,none,some 0] (rD K (aj 1)) (j5 K 2 (bO (aA 0) (bO (aA 1) jn))) (tB (Aw (aj 0) (aj 2))) (dW (aa (aj 0) (aa (iC (aj 2) (aj 0)) (aa (aj 1) az))))))
theorem NP (h:sp_f24 K vs H Q E): ∃Eh,vM K E Eh { nx:=λ _ H'=>Q .non H',rt:=Q } (start ["letters","doors"] vs) H:=by
 let#[tb,da,zs,ps,rfl,ad,hz,#[dz,ab,h2,h3],ag,q]:=h;refine#[E0,?_];unfold vM;have af:dz.length=ps.length:=by rw [<- ab,Qr]
 symm;refine SQ (λ z:Addr×Str×Int=>V.ref z.1) (zs:=dz) h2 () (λ i ys H'=> ∃W:List Wz,ys=W.map (λ z:Wz=>V.ref z.1)/\W.map (·.2)=b7 (zs.map λ z:Lz=>(z.2.1,z.2.2.2)) (ps.take i)/\W.length<=i/\Same H H'/\ ∀z∈W,WyT H' z) #[[],rfl,rfl,by simp,Same.refl _,by simp] ?_ ?_ ?_ ?_
 .rintro i ys H' ⟨W,rfl,_,_,s',_⟩;show s'.tup h2
 .rintro i ys H' ⟨W,rfl,_,hl,_⟩;rw [Qr];show hl
 .rintro i ⟨b,s,O⟩ ys H' hi ⟨W,rfl,Y,hl,s',hw⟩;have ae:ps[i]? =some (s,O):=by rw [<- ab,Zi,hi];rfl
  have ac:ps.take (i+1)=ps.take i++[(s,O)]:=by rw [Yg,ae];rfl
  have tz:=s'.get (h3 _ (Zf hi));dsimp only at tz;refine dO (SqT.of tz) rfl ?_;symm;refine#[tb,_,rfl,DGet.k (k:=Sum.inr s) (s'.get ad),?_]
  cases hlk:Fo.lk (zs.map λ z:Lz=>(z.2.1,z.2.2.2)) s with
  | none=>
   have hv:bA (zs.map λ z:Lz=>((Sum.inr z.2.1:Key),V.ref z.2.2.1)) (Sum.inr s)=none:=fC (f:=λ z:Lz=>(Sum.inr z.2.1:Key)) (g:=λ z:Lz=>V.ref z.2.2.1) λ m=>by
    let#[z,mz,e]:=Zb.mp m;let#[c,ec]:=Fo.Do (ls:=zs.map λ z:Lz=>(z.2.1,z.2.2.2)) (s:=s) (by rw [Zn];show Zb.mpr #[z,mz,Sum.inr.inj e]);rw [hlk] at ec
    cases ec
   rw [hv];symm;change if false=true then _ else _
   symm;show#[W,rfl,by rw [ac,pA,Y];change _=_++(match Fo.lk (zs.map λ z:Lz=>(z.2.1,z.2.2.2)) s with | none=>[] | some co=>[(s,co,O)]);rw [hlk,List.append_nil],(),s',hw]
  | some co=>
   let#[z,mz,e1,e2]:=Dr hlk;rw [e2];symm;change if true=true then _ else _
   symm;refine#[tb, .ref z.2.2.1,rfl,by rw [<- e2];show DGet.k (k:=Sum.inr s) (s'.get ad),?_];symm;intro t ht;refine#[W++[(t,s,co,O)],by simp,?_,by simp;rfl',s'.new ht,λ y my=> ?_]
   .rw [ac,pA,Zg,Y];change _=_++(match Fo.lk (zs.map λ z:Lz=>(z.2.1,z.2.2.2)) s with | none=>[] | some co=>[(s,co,O)]);rw [hlk];rfl
   .rcases Zp.mp my with my | my
    .exact (hw y my).same (aB ht _)
    .rw [Za.mp my];show#[z.2.2.1,ao,by rw [<- e1];show bf ht (s'.get (hz z mz))]
 .rintro ys H' ⟨W,rfl,Y,hl,s',hw⟩ p hp;rw [Yu ()] at Y;show q p _ (s'.new hp) (s'.free hp) #[W,Y,ao,λ z mz=>(hw z mz).same (aB hp _)]
def WsT (H:Hp) (p:Addr) (wss:List (List (Str×List Nat×Int))):Prop:= ∃rs:List (Addr×List (Str×List Nat×Int)),rs.map (·.2)=wss/\H p=some (.lst (rs.map λ r=>V.ref r.1))/\ ∀r∈rs,LdT H r.1 r.2
theorem WsT.same (h:WsT H p wss) (s:Same H H'):WsT H' p wss:=by
 let#[rs,W,h2,O]:=h;show#[rs,W,s.get h2,λ r Y=>(O r Y).same s]
inductive sp_f30 (K:W.Frag) (vs:List V) (H:Hp) (Q:VK) (E:XK):Prop
 | mk (f ha:Addr) (h:Nat) (ls:List (Str×List Nat)) (ds:L2S) (es:List Int) (h0:vs=[.ref f, .ref ha]) (h1:FnF K H f h ls) (h2:Fo.Wf h ls) (h3:HsG K H ha ds es) (h4:ds.length<=1000) (h5:(∀ps∈ds,ps.length<=1000)) (h6: ∀p H',Same H H'->H p=none->WsT H' p (ds.map (b7 ls))->Q (.ref p) H'):sp_f30 K vs H Q E
def vN (K:W.Frag) (E:XK) (Eh:XK):TS:=
  (aG (aM (cG (je K) (aa (aK (aV K) (aj 0) (tC (V.int 1))) az)) (aA 2))
  (bh (uf [none,some 2] (rD K (aK (aV K) (aj 1) (tC (V.int 0)))) (aA 0) gD (aH (sp_f24 K) [] E0 (aa (aj 1) (aa (aj 0) az))))))
theorem NQ (h:sp_f30 K vs H Q E): ∃Eh,vN K E Eh { nx:=λ _ H'=>Q .non H',rt:=Q } (start ["font","house","letters"] vs) H:=by
 let#[f,ha,h,ls,ds,es,rfl,hF,wf,#[d,e,rs,a1,a2,a3,a4,a5],ah,ae,q]:=h;refine#[E0,?_];unfold vN;let#[l,ob,zs,h1,ez,af,h3,h4]:=id hF;have hl:zs.length=ls.length:=by rw [<- ez,Qr]
 have ai:rs.length=ds.length:=by rw [<- a2,Qr]
 have ag:(zs.map (·.2.1)).Nodup:=by
  have:=tY wf.up;rw [<- ez,Zn] at this;show this
 symm;refine dR h1 ?_;symm;refine tX (zs:=zs.map λ z:Lz=>(z.1,z.2.1,V.ref z.2.2.1)) af (by rw [Zn];show h3) (λ z m=> ?_) (by rw [Zn];show ag) (by rw [Qr];have:=wf.le;rfl') λ tb ad=> ?_
 .obtain ⟨y,my,rfl⟩:=Zb.mp m;show SqT.of (h4 y my).1
 rw [Zn];have Y:Same H (upd H tb (HO.dK (zs.map ((λ z:Addr×Str×V=>((Sum.inr z.2.1:Key),z.2.2))∘λ z:Lz=>(z.1,z.2.1,V.ref z.2.2.1))))):=aB ad _;have ac:upd H tb (HO.dK (zs.map ((λ z:Addr×Str×V=>((Sum.inr z.2.1:Key),z.2.2))∘λ z:Lz=>(z.1,z.2.1,V.ref z.2.2.1)))) tb=some (.dK (zs.map λ z:Lz=>((Sum.inr z.2.1:Key),V.ref z.2.2.1))):=ao;generalize upd H tb (HO.dK (zs.map ((λ z:Addr×Str×V=>((Sum.inr z.2.1:Key),z.2.2))∘λ z:Lz=>(z.1,z.2.1,V.ref z.2.2.1))))=H1 at Y ac;symm;refine gm (Y.get a1) ?_;refine SQ (λ r:Addr×L1S=>V.ref r.1) (zs:=rs) (Y.tup a3) () (λ i ys H'=> ∃O:List (Addr×List (Str×List Nat×Int)),ys=O.map (λ r=>V.ref r.1)/\O.map (·.2)=(ds.take i).map (b7 ls)/\Same H1 H'/\ ∀r∈O,LdT H' r.1 r.2) #[[],rfl,rfl,Same.refl _,by simp] ?_ ?_ ?_ ?_
 .rintro i ys H' ⟨O,rfl,_,s',_⟩;show s'.tup (Y.tup a3)
 .rintro i ys H' ⟨O,rfl,ew,_⟩;have:=Yc List.length ew;rw [Qr,Qr,Yd] at this;rw [Qr];rfl'
 .rintro i ⟨ra,ps⟩ ys H' hi ⟨O,rfl,ew,s',hw⟩;have ab:ds[i]? =some ps:=by rw [<- a2,Zi,hi];rfl
  have S':=Y.trans s';symm;refine#[tb,ra,zs,ps,rfl,s'.get ac,λ z mz=>S'.get (h4 z mz).2,(a4 _ (Zf hi)).same S',ae ps (Zf ab),λ p H2 s2 hp hL=> ?_];symm;rw [ez] at hL;refine#[O++[(p,b7 ls ps)],by simp,by rw [Zg,ew,Yg,ab,Zg];rfl,s'.trans s2,λ r W=> ?_];rcases Zp.mp W with W | W
  .exact (hw r W).same s2
  .rw [Za.mp W];show hL
 .rintro ys H' ⟨O,rfl,ew,s',hw⟩ p hp;rw [Yu ()] at ew;show q p _ ((Y.trans s').new hp) ((Y.trans s').free hp) #[O,ew,ao,λ r W=>(hw r W).same (aB hp _)]
def cst (ys co:List Nat):Nat:=Mm.vB (co.take (min co.length ys.length)) (ys.take (min co.length ys.length))
def yd (ys:List Nat) (ls:List (Str×List Nat)):List (Str×Nat):=ls.map λ p=>(p.1,cst ys p.2)
def ye (cs:List (Str×Nat)):List (Key×V):=cs.map λ p=>(Sum.inr p.1,V.int (p.2:Nat))
theorem vO {ys:List Nat} {s:Str} {co:List Nat}: ∀ {ls:List (Str×List Nat)},Fo.lk ls s=some co->bA (ye (yd ys ls)) (Sum.inr s)=some (V.int (cst ys co:Nat))
 | [],h=>by cases h
 | p::r,h=>by
  rw [Fo.jk] at h;change bA ((Sum.inr p.1,V.int (cst ys p.2:Nat))::ye (yd ys r)) (Sum.inr s)=_;by_cases e:p.1=s
  .rw [if_pos e] at h
   cases h;rw [bQ (by change Sum.inr _=Sum.inr _;rw [e])]
  .rw [if_neg e] at h;rw [bI (by intro z;show e (Sum.inr.inj z))];show vO h
inductive sp_f14 (K:W.Frag) (vs:List V) (H:Hp) (Q:VK) (E:XK):Prop
 | mk (f o:Addr) (h:Nat) (ls:List (Str×List Nat)) (ys:List Nat) (h0:vs=[.ref f, .ref o]) (h1:WK K H f h ls) (h2:Fo.Wf h ls) (h3:SqT K H o (nv ys)) (h4:ys.length<=1000) (h5: ∀r H',Same H H'->H r=none->H' r=some (.dK (ye (yd ys ls)))->Q (.ref r) H'):sp_f14 K vs H Q E
abbrev DR (K:W.Frag):TS:=
  (aG (aM (cG Bk (aa (cG (bT K) (aa (aj 4) az)) (aa (cG (bT K) (aa (aj 1) az)) az))) (aA 5))
  (jR (aj 2) (aj 3) (aH (sp_f44 K) [] E0 (aa (yH (sY K) (aj 4) cj (f9 (aj 5))) (aa (yH (sY K) (aj 1) cj (f9 (aj 5))) az)))))
def vP (K:W.Frag) (E:XK) (Eh:XK):TS:=
  (aG (aM jy (aA 2))
  (aG (dF (rD K (aK (aV K) (aj 0) (tC (V.int 1)))) (j5 K 2 (bO (aA 3) (bO (aA 4) jn))) (DR K))
  (bh (aj 2))))
theorem NT (h:sp_f14 K vs H Q E): ∃Eh,vP K E Eh { nx:=λ _ H'=>Q .non H',rt:=Q } (start ["font","over","costs","sign","columns","wide"] vs) H:=by
 let#[f,o,h,ls,ys,rfl,hF,wf,hO,am,q]:=h;refine#[E0,?_];unfold vP;have ah:(ls.map (·.1)).Nodup:=wf.up.imp λ af e=>by subst e;show List.lt_irrefl _ af
 let#[l,zs,t1,Y,t3,t4]:=id hF;have ag:zs.length=ls.length:=by rw [<- Y,Qr]
 have ai:=wf.le;symm;intro r hr;symm;refine dR (bf hr t1) ?_;have W: ∀p'∈[r],H p'=none:=λ p' ad=>by rw [Za.mp ad];show hr
 walk_at "ns";refine Dc (λ z:Lz=>V.ref z.1) ((aB hr _).tup t3) (λ i σ H'=>Sb [r] H H'/\H' r=some (.dK (ye (yd ys (ls.take i))))/\ ∃o1 o2 o3,σ=[some (.ref f),some (.ref o),some (.ref r),o1,o2,o3]) #[Sb.of (aB hr _),ao,_,_,_,rfl] ?_ ?_ ?_
 .rintro i σ H' ⟨sb,_⟩;show(sb.off W).tup t3
 .rintro i ⟨za,s,ca,co⟩ σ H' hi ⟨sb,er,o1,o2,o3,rfl⟩;have S:=sb.off W;have mz:=Zf hi;let#[u1,u2]:=t4 _ mz;dsimp only at u1 u2;have O:ls[i]? =some (s,co):=by rw [<- Y,Zi,hi];rfl
  have c1:=wf.c1 _ (Zf O);dsimp only at c1;have al:i<ls.length:=(Zj.mp O).1;have ab:ls.take (i+1)=ls.take i++[(s,co)]:=by rw [Yg,O];rfl
  have ac:s∉(ls.take i).map (·.1):=by
   have h1:((ls.take (i+1)).map (·.1)).Nodup:=List.Nodup.sublist ((List.take_sublist _ _).map _) ah;rw [ab,Zg,Yt] at h1;show λ m=>h1.2.2 s m s (by simp) rfl
  refine dO (SqT.of (S.get u1)) rfl ?_;symm;refine c7 (SqT.of (S.get u2)) ?_;rw [Qr];symm;refine c7 (S.tup hO) ?_;rw [Qr];symm;rw [show(if (ys.length:Int)<(co.length:Int) then (ys.length:Int) else (co.length:Int))=((min co.length ys.length:Nat):Int) by split<;>rfl'];walk_at "ns";refine JR (SqT.of (S.get u2)) λ p1 H1 s1 e1=> ?_
  rw [qH (),Yk,nv,<- List.map_take] at e1;symm;refine JR ((S.trans s1).tup hO) λ p2 H2 s2 e2=> ?_
  rw [qH (),Yk,nv,<- List.map_take] at e2;symm;refine#[p1,p2,_,_,rfl,s2.tup e1,e2,by rw [Yd,Yd];rfl',by rw [Yd];rfl',λ H3 s3=> ?_];have T3:=(s1.trans s2).trans s3;have ae:=T3.get er;have hv:bA (ye (yd ys (ls.take i))) (Sum.inr s)=none:=fC (f:=λ p:Str×Nat=>(Sum.inr p.1:Key)) (g:=λ p:Str×Nat=>V.int (p.2:Nat)) λ m=>by
   let#[p,mp,e]:=Zb.mp m;let#[y,my,rfl]:=Zb.mp mp;show ac (Zb.mpr #[y,my,Sum.inr.inj e])
  symm;refine#[r,_,rfl,DPut.k (k:=Sum.inr s) ae (Yj (by unfold ye yd;rw [Qr,Qr,Yd];rfl':_<=40) (by decide)),?_];rw [dM _ hv];symm;refine#[(sb.same T3).set (by simp),?_,_,_,_,rfl];rw [ao,ab];unfold yd ye;rw [Zg,Zg];rfl
 .rintro σ H' ⟨sb,er,o1,o2,o3,rfl⟩;rw [ag,Yq] at er;symm;show q r H' (sb.off W) hr er
section
variable {α:Type} [DecidableEq α]
def iz (L qs:List α):List α:=qs.foldl (λ L q=>if q∈L then L else L++[q]) L
theorem u5 (L:List α):iz L []=L:=rfl
theorem zA (L qs:List α) (q:α):iz L (qs++[q])=if q∈iz L qs then iz L qs else iz L qs++[q]:=by
 unfold iz;rw [List.foldl_append];rfl
theorem gM: ∀ {qs L:List α} {x:α},x∈iz L qs↔x∈L\/x∈qs
 | [],L,x=>by rw [u5];simp
 | q :: qs, L, x => by
  change x∈iz (if q∈L then L else L++[q]) qs↔_;rw [gM];split
  .rename_i h;constructor
   .rintro (m | m)
    .exact .inl m
    .exact .inr (Zs _ m)
   .rintro (m | m)
    .exact .inl m
    .rcases Zk.mp m with rfl | m
     .exact .inl h
     .exact .inr m
  .rw [Zp,Za,Zk,or_assoc]
theorem lg: ∀ {qs L:List α},L.Nodup->(iz L qs).Nodup
 | [],L,h=>h
 | q::qs,L,h=>by
  change(iz (if q∈L then L else L++[q]) qs).Nodup;split
  .exact lg h
  .rename_i O;refine lg (Yt.mpr #[h,by simp,λ a m b W e=>O ?_]);rw [Za.mp W] at e;rw [<- e];show m
def dI (nx:α->List α) (st:α):Nat->List α
 | 0=>[st]
 | k+1=>match (dI nx st k)[k]? with
  | none=>dI nx st k
  | some p=>iz (dI nx st k) (nx p)
theorem jH {nx:α->List α} {st:α} {k:Nat} {p:α} (h:(dI nx st k)[k]? =some p):dI nx st (k+1)=iz (dI nx st k) (nx p):=by
 rw [dI,h]
theorem DW {nx:α->List α} {st:α} {k:Nat} (h:(dI nx st k).length<=k):dI nx st (k+1)=dI nx st k:=by
 rw [dI,List.getElem?_eq_none h]
theorem eG (nx:α->List α) (st:α): ∀k,(dI nx st k).Nodup
 | 0=>by rw [dI];simp
 | k+1=>by
  cases h:(dI nx st k)[k]? with
  | none=>rw [dI,h];show eG nx st k
  | some p=>rw [jH h];show lg (eG nx st k)
theorem jJ {nx:α->List α} {st:α} {k:Nat} (h:(dI nx st k).length<=k): ∀j,dI nx st (k+j)=dI nx st k
 | 0=>rfl
 | j+1=>by
  have e:=jJ h j;rw [<- Nat.add_assoc,DW (by rw [e];rfl'),e]
theorem dj {nx:α->List α} {st:α} {P:α->Prop} (h0:P st) (hs: ∀p q,P p->q∈nx p->P q): ∀k,∀p∈dI nx st k,P p
 | 0,p,m=>by rw [dI,Za] at m;rw [m];show h0
 | k+1,p,m=>by
  cases h:(dI nx st k)[k]? with
  | none=>rw [dI,h] at m;show dj h0 hs k p m
  | some p'=>
   rw [jH h] at m;rcases gM.mp m with m | m
   .exact dj h0 hs k p m
   .exact hs p' p (dj h0 hs k p' (Zf h)) m
end
theorem gO (a b:Str):(a++b).length=a.length+b.length:=by
 change(Str.append a b).length=_;simp [Str.append,Str.length]
theorem dw {α:Type} [DecidableEq α]: ∀ {l m:List α},l.Nodup->(∀x∈l,x∈m)->l.length<=m.length
 | [],m,_,_=>Yr _
 | x::l,m,hn,hs=>by
  have W:=hs x Zt;let#[n1,Y]:=List.nodup_cons.mp hn;have:=dw (l:=l) (m:=m.erase x) Y λ y O=>(List.mem_erase_of_ne (λ (e:y=x)=>n1 (by rw [<- e];show O))).mpr (hs y (Zs _ O))
  rw [List.length_erase_of_mem W] at this;have:=List.length_pos_of_mem W;rw [Wp];rfl'
def bU (wss:List (List (Str×List Nat×Int))) (k:Nat):List Int:=dI (λ r=>(wss.getD r.toNat []).map (·.2.2)) 0 k
theorem qM: ∀ {ps:List (Int×Str)} {r:Int},r∈ps.map (·.1)-> ∃t,(r,t)∈ps/\bA (ps.map λ p=>((Sum.inl p.1:Key),V.str p.2)) (Sum.inl r)=some (V.str t)
 | p::ps,r,m=>by
  rw [Zl];by_cases e:p.1=r
  .exact #[p.2,by rw [<- e];show Zt,by rw [bQ (by rw [e])]]
  .obtain ⟨t,O,W⟩:=qM (ps:=ps) (r:=r) (by rcases Zk.mp m with z | z;show absurd z.symm e;show z);show#[t,Zs _ O,by rw [bI (by intro z;show e (Sum.inl.inj z))];show W]
theorem Jh {ps:List (Int×Str)} {r:Int} (h:r∉ps.map (·.1)):bA (ps.map λ p=>((Sum.inl p.1:Key),V.str p.2)) (Sum.inl r)=none:=fC (f:=λ p:Int×Str=>(Sum.inl p.1:Key)) (g:=λ p=>V.str p.2) λ m=>by
 let#[p,O,e]:=Zb.mp m;show h (Zb.mpr #[p,O,Sum.inl.inj e])
inductive sp_f0 (K:W.Frag) (vs:List V) (H:Hp) (Q:VK) (E:XK):Prop
 | mk (wa:Addr) (wss:List (List (Str×List Nat×Int))) (h0:vs=[.ref wa]) (h1:WsT H wa wss) (h2:0<wss.length) (h3:wss.length<=100) (h4:(∀ws∈wss,ws.length<=1000/\ ∀w∈ws,w.1.length<=1/\0<=w.2.2/\w.2.2<wss.length)) (h5: ∀r H' (N:Nat) (ps:List (Int×Str)),Same H H'->H r=none->ps.map (·.1)=bU wss N->H' r=some (.dK (ps.map λ p=>((Sum.inl p.1:Key),V.str p.2)))->(bU wss N).length<=N->(∀p∈ps,p.2.length<=ps.length)->Q (.ref r) H'):sp_f0 K vs H Q E
abbrev Ji (K:W.Frag):TS:=
  (aG (aM (uz K "list" uB (aj 2) (aa (tC (V.int 0)) az)) (aA 3))
  (dF (dC K (aK (cY K) (aj 0) (aj 3))) (j5 K 3 (bO (aA 4) (bO (aA 5) (bO (aA 6) jn)))) (cF (tB (kJ (aj 6) (aj 1))) (aG (jR (aj 1) (aj 6) (aK cB (iC (aj 1) (aj 3)) (aj 4)))
  (cC (uz K "list" cT (aj 2) (aa (aj 6) az)))) bF)))
def DX (K:W.Frag) (E:XK) (Eh:XK):TS:=
  (aG (aM (Ay [((tC (V.int 0)),(tC (V.str (Str.ofString ""))))]) (aA 1))
  (aG (aM (ir (aa (tC (V.int 0)) az)) (aA 2))
  (aG (fK (aZ (aK uJ (cG (bT K) (aa (aj 2) az)) (tC (V.int 0)))) (Ji K))
  (bh (aj 1)))))
theorem Te (h:sp_f0 K vs H Q E): ∃Eh,DX K E Eh { nx:=λ _ H'=>Q .non H',rt:=Q } (start ["ways","texts","waiting","here","sign","columns","room"] vs) H:=by
 let#[wa,O,rfl,hW,b5,cc,bc,q]:=h;refine#[E0,?_];unfold DX;have a3: ∀k,∀r∈bU O k,0<=r/\r<O.length:=λ k=>dj (P:=λ r:Int=>0<=r/\r<O.length) #[by decide,()] (λ p q' hp hq=>by
  let#[w,mw,rfl]:=Zb.mp hq;have:O.getD p.toNat []∈O:=by rw [Zr,Ze ()];show List.getElem_mem _
  show((bc _ this).2 w mw).2) k
 have aw: ∀k,(bU O k).length<=O.length:=λ k=>by
  have:=dw (l:=bU O k) (m:=(List.range O.length).map λ i:Nat=>(i:Int)) (eG _ _ k) λ r mr=>by
   let#[h0,h1]:=a3 k r mr;show Zb.mpr #[r.toNat,Yy.mpr (),()]
  rw [Qr,List.length_range] at this;show this
 let#[rs,bb,bq,bg]:=id hW;have b6:rs.length=O.length:=by rw [<- bb,Qr]
 symm;intro te am;symm;refine#[ao,[(Sum.inl 0,V.str (Str.ofString ""))],rfl,by simp,?_];have ax:Sb [te] H (upd (upd H te (HO.dK [])) te (HO.dK (fQ [] [(Sum.inl 0,V.str (Str.ofString ""))]))):=(Sb.of (aB am _)).set (by simp);have ag:upd (upd H te (HO.dK [])) te (HO.dK (fQ [] [(Sum.inl 0,V.str (Str.ofString ""))])) te=some (.dK ([((0:Int),(Str.ofString ""))].map λ p=>((Sum.inl p.1:Key),V.str p.2))):=by rw [ao];rfl
 generalize upd (upd H te (HO.dK [])) te (HO.dK (fQ [] [(Sum.inl 0,V.str (Str.ofString ""))]))=H0 at ax ag;symm;intro wl ah;have n1:te≠wl:=λ e=>by rw [<- e,ag] at ah;cases ah
 have a2:H wl=none:=(ax.off λ p hp=>by rw [Za.mp hp];show am).free ah;have ai: ∀p∈[te,wl],H p=none:=λ p hp=>by
  simp only [Zk,Yn,or_false] at hp;rcases hp with rfl | rfl
  .exact am
  .exact a2
 symm;walk_at "ns";refine xX (λ σ H'=>Sb [te,wl] H H'/\ ∃ (k:Nat) (ps:List (Int×Str)) (o1 o2 o3 o4:Option V),k<=(bU O k).length/\ps.map (·.1)=bU O k/\(∀p∈ps,p.2.length<=ps.length)/\H' te=some (.dK (ps.map λ p=>((Sum.inl p.1:Key),V.str p.2)))/\H' wl=some (.lst (((bU O k).drop k).map V.int))/\σ=[some (.ref wa),some (.ref te),some (.ref wl),o1,o2,o3,o4]) (λ _ H'=>match H' wl with | some (.lst l)=>(match H' te with | some (.dK m)=>1000-(m.length-l.length) | _=>0) | _=>0) ⟨(Sb.more ax (by simp)).new ah,0,[(0,Str.ofString "")],_,_,_,_,Yr _,rfl,λ p mp=>by rw [Za.mp mp];decide,bf ah ag,ao,rfl⟩ ?_ ?_
 .rintro σ H' ⟨sb,k,ps,o1,o2,o3,o4,hk,al,a6,av,af,rfl⟩;have S':=sb.off ai;have b2:ps.length=(bU O k).length:=by rw [<- al,Qr]
  have cb:=aw k;symm;refine eX (SqL.of af) ?_;rw [Qr,List.length_drop];symm;refine fW (λ c1=> ?_) λ c1=> ?_
  .have a7:k<(bU O k).length:=()
   let#[r,hr]: ∃r,(bU O k)[k]? =some r:=#[_,Ze a7];have bo:(bU O k).drop k=r::(bU O k).drop (k+1):=by rw [List.drop_eq_getElem_cons a7,(Zj.mp hr).2]
   have mr:=Zf hr;let#[r0,r1]:=a3 k r mr;let#[j,rfl]: ∃j:Nat,r=(j:Int):=#[r.toNat,()];let#[rz,a1]: ∃rz,rs[j]? =some rz:=#[_,Ze ()];have a8:O[j]? =some rz.2:=by rw [<- bb,Zi,a1];rfl
   have br:O.getD j []=rz.2:=by rw [Zr,a8];rfl
   have a5:bU O (k+1)=iz (bU O k) (rz.2.map (·.2.2)):=by
    have:=jH hr;change dI _ _ (k+1)=_;rw [this];change iz _ ((O.getD ((j:Int)).toNat []).map _)=_;rw [Yk,br];rfl
   let#[bd,bp]:=bc rz.2 (Zf a8);let#[zs,ez,a4,hz]:=bg rz (Zf a1);have b9:zs.length=rz.2.length:=by rw [<- ez,Qr]
   symm;refine eF (SqL.of af) ?_;symm;rw [bo,Zl] at af;refine Ng af ?_;symm;have n2:wl≠te:=n1.symm;have ap:upd H' wl (HO.lst (((bU O k).drop (k+1)).map V.int)) te=some (.dK (ps.map λ p=>((Sum.inl p.1:Key),V.str p.2))):=by rw [aq n1];show av
   have ay:=sb.set (p:=wl) (o:=HO.lst (((bU O k).drop (k+1)).map V.int)) (by simp);have S1:=ay.off ai;have ar:upd H' wl (HO.lst (((bU O k).drop (k+1)).map V.int)) wl=some (.lst (((bU O k).drop (k+1)).map V.int)):=ao;generalize upd H' wl (HO.lst (((bU O k).drop (k+1)).map V.int))=H1 at ay S1 ap ar;refine cD (SqL.of (S1.get bq)) (aP (j:=j) (v:= .ref rz.1) (by rw [Zi,a1];rfl)) ?_;walk_at "ns";refine jV (λ z:Wz=>V.ref z.1) (zs:=zs) (SqL.of (S1.get a4)) (λ i σ H2=>Sb [te,wl] H H2/\ ∃ (W:List (Int×Str)) (E:List Int) (o2 o3 o4:Option V),W.map (·.1)=iz (bU O k) ((rz.2.map (·.2.2)).take i)/\W.map (·.1)=bU O k++E/\(∀p∈W,p.2.length<=W.length)/\H2 te=some (.dK (W.map λ p=>((Sum.inl p.1:Key),V.str p.2)))/\H2 wl=some (.lst (((bU O k).drop (k+1)++E).map V.int))/\σ=[some (.ref wa),some (.ref te),some (.ref wl),some (.int (j:Nat)),o2,o3,o4]) #[ay,ps,[],_,_,_,by rw [List.take_zero,u5];show al,by rw [List.append_nil];show al,a6,ap,by rw [List.append_nil];show ar,rfl] ?_ ?_ ?_
   .rintro i σ H2 ⟨ae,_⟩;show SqL.of ((ae.off ai).get a4)
   .rintro i ⟨za,s,co,Y⟩ σ H2 hi ⟨ae,W,E,o2,o3,o4,ea,eE,ad,ab,ac,rfl⟩;have S2:=ae.off ai;let#[ca,v1,v2]:=hz _ (Zf hi);dsimp only at v1 v2;have a9:rz.2[i]? =some (s,co,Y):=by rw [<- ez,Zi,hi];rfl
    have bv:=(bp _ (Zf a9)).1;dsimp only at bv;have bn:(rz.2.map (·.2.2)).take (i+1)=(rz.2.map (·.2.2)).take i++[Y]:=by rw [Yg,Zi,a9];rfl
    have b3:W.length<=100:=by
     have h1:=dw (l:=W.map (·.1)) (m:=bU O (k+1)) (by rw [ea];show lg (eG _ _ k)) λ x mx=>by
      rw [ea] at mx;rw [a5];rcases gM.mp mx with m | m
      .exact gM.mpr (.inl m)
      .exact gM.mpr (.inr (List.mem_of_mem_take m))
     have h2:=aw (k+1);rw [Qr] at h1;rfl'
    rw [bn,zA];refine dO (SqT.of (S2.get v1)) rfl ?_;symm;refine#[te,_,rfl,DGet.k (k:=Sum.inl Y) ab,?_];by_cases m:Y∈iz (bU O k) ((rz.2.map (·.2.2)).take i)
    .obtain ⟨tt,_,ev⟩:=qM (ps:=W) (r:=Y) (by rw [ea];show m);rw [ev,if_pos m];symm;change if (!true)=true then _ else _
     symm;show#[ae,W,E,_,_,_,ea,eE,ad,ab,ac,rfl]
    .have ev:=Jh (ps:=W) (r:=Y) (by rw [ea];show m);rw [ev,if_neg m];let#[tj,b0,be]:=qM (ps:=W) (r:=(j:Int)) (by rw [eE];show Ym _ mr);have b1:=ad _ b0;dsimp only at b1;symm;change if (!false)=true then _ else _
     symm;refine#[te,V.str tj,rfl,by rw [<- be];show DGet.k (k:=Sum.inl (j:Int)) ab,?_];symm;refine gK () ?_;symm;refine#[te,_,rfl,DPut.k (k:=Sum.inl Y) ab (Yj (by rw [Qr];rfl':_<=2000) (by decide)),?_];rw [dM _ ev];symm;have as: ∀w,upd H2 te w wl=some (.lst (((bU O k).drop (k+1)++E).map V.int)):=λ w=>by rw [aq n2];show ac
     refine eF (SqL.of (as _)) ?_;symm;refine iJ (as _) (by rw [Qr,Zq,List.length_drop];have:=Yc List.length eE;rw [Qr,Zq] at this;rfl') ?_;symm;refine#[(ae.set (by simp)).set (by simp),W++[(Y,tj++s)],E++[Y],_,_,_,by rw [Zg,ea];rfl,by rw [Zg,eE,List.append_assoc];rfl,λ p mp=> ?_,by rw [aq n1,ao,Zg];rfl,by rw [ao,<- List.append_assoc,Zg (l₂:=[Y])];rfl,rfl];rw [Zq,Yf];rcases Zp.mp mp with mp | mp
     .have:=ad p mp;rfl'
     .rw [Za.mp mp];change(tj++s).length<=_;rw [show(tj++s).length=tj.length+s.length from gO _ _];rfl'
   .rintro σ H2 ⟨ae,W,E,o2,o3,o4,ea,eE,ad,ab,ac,rfl⟩;rw [Yu (by rw [Qr];rfl'),<- a5] at ea;have eD:(bU O k).drop (k+1)++E=(bU O (k+1)).drop (k+1):=by
     rw [<- ea,eE,List.drop_append_of_le_length ()]
    rw [eD] at ac;have bl:W.length=(bU O (k+1)).length:=by rw [<- ea,Qr]
    have bi:k+1<=(bU O (k+1)).length:=by
     rw [<- bl];have:=Yc List.length eE;rw [Qr,Zq] at this;rfl'
    have b4:=aw (k+1);refine#[#[ae,k+1,W,_,_,_,_,bi,ea,ad,ab,ac,rfl],?_];change(match H2 wl with | some (.lst l)=>(match H2 te with | some (.dK m)=>1000-(m.length-l.length) | _=>0) | _=>0)<(match H' wl with | some (.lst l)=>(match H' te with | some (.dK m)=>1000-(m.length-l.length) | _=>0) | _=>0);rw [ac,ab,af,av];dsimp only;simp only [Qr,Wp,List.length_drop];rw [show W.length-((bU O (k+1)).length-(k+1))=k+1 by rfl',show ps.length-((bU O k).length-(k+1)+1)=k by rfl'];show Nat.sub_lt_sub_left () (Nat.lt_succ_self k)
  .symm;show q te H' k ps S' am al av () a6
 .rintro σ H Q Q' hq ⟨v,hv,x,n,e,hl,i,j,e1,e2,k,e3,z⟩;show#[v,hv,x,n,e,hl,i,j,e1,e2,k,e3,hq _ _ z]
def DY (w:Str×List Nat×Int) (ah:Int) (ys:List Nat):Int×Int×List Nat:=if w.2.1.length<=ys.length then (w.2.2,ah,ys.drop w.2.1.length) else (ah,w.2.2,w.2.1.drop ys.length)
def StT (K:W.Frag) (H:Hp) (a:Addr) (st:Int×Int×List Nat):Prop:= ∃c,H a=some (.tup [.int st.1, .int st.2.1, .ref c])/\H c=some (.tup (nv st.2.2))
theorem StT.same {K:W.Frag} {a:Addr} (h:StT K H a st) (s:Same H H'):StT K H' a st:=by
 let#[c,Y,O]:=h;show#[c,s.get Y,s.get O]
inductive sp_f6 (K:W.Frag) (vs:List V) (H:Hp) (Q:VK) (E:XK):Prop
 | mk (wa o:Addr) (w:Str×List Nat×Int) (ah:Int) (ys:List Nat) (h0:vs=[.ref wa, .int ah, .ref o]) (h1:WyT H (wa,w)) (h2:H o=some (.tup (nv ys))) (h3: ∀r H',Same H H'->H r=none->StT K H' r (DY w ah ys)->Q (.ref r) H'):sp_f6 K vs H Q E
abbrev Jj (K:W.Frag):TS:=
  (aG (cF (aZ (aK su (aj 3) (cG (bT K) (aa (aj 2) az)))) (bh (dW (aa (aK (aV K) (aj 0) (tC (V.int 2))) (aa (aj 1) (aa (yH (sY K) (aj 2) (f9 (aj 3)) cj) az))))) bF)
  (bh (dW (aa (aj 1) (aa (aK (aV K) (aj 0) (tC (V.int 2))) (aa (yH (sY K) (aK (aV K) (aj 0) (tC (V.int 1))) (f9 (cG (bT K) (aa (aj 2) az))) cj) az))))))
def Ea (K:W.Frag) (E:XK) (Eh:XK):TS:=
  (aG (aM (cG (bT K) (aa (aK (aV K) (aj 0) (tC (V.int 1))) az)) (aA 3))
  (Jj K))
theorem Tf (h:sp_f6 K vs H Q E): ∃Eh,Ea K E Eh { nx:=λ _ H'=>Q .non H',rt:=Q } (start ["way","ahead","over","wide"] vs) H:=by
 let#[wa,o,#[s,co,ab],ah,ys,rfl,#[ca,w1,w2],hO,q]:=h;refine#[E0,?_];unfold Ea;dsimp only at w1 w2;symm;refine dR w1 ?_;symm;refine c7 (SqT.of w2) ?_;rw [Qr];symm;refine c7 (SqT.of hO) ?_;rw [Qr];symm;refine fW (λ c=> ?_) λ c=> ?_
 .symm;refine jG w1 ?_;symm;refine Dw hO λ p1 H1 Y W=> ?_
  rw [tR (),Yk,nv,<- List.map_drop] at W;symm;intro r O;refine q r _ (Y.new O) (Y.free O) ?_;unfold DY;rw [if_pos (show co.length<=ys.length by rfl')];show#[p1,ao,bf O W]
 .symm;refine jG w1 ?_;symm;refine dR w1 ?_;symm;refine c7 (SqT.of hO) ?_;rw [Qr];symm;refine Dw w2 λ p1 H1 Y W=> ?_
  rw [tR (),Yk,nv,<- List.map_drop] at W;symm;intro r O;refine q r _ (Y.new O) (Y.free O) ?_;unfold DY;rw [if_neg (show ¬co.length<=ys.length by rfl')];show#[p1,ao,bf O W]
def Tg (wss:List (List (Str×List Nat×Int))) (r:Int):List ((Str×List Nat×Int)×(Str×List Nat×Int)×Int):=(List.range (wss.getD r.toNat []).length).flatMap λ j=>(List.range j).map λ k=>((wss.getD r.toNat []).getD k default,(wss.getD r.toNat []).getD j default,r)
def qN (wss:List (List (Str×List Nat×Int))) (rs:List Int):List ((Str×List Nat×Int)×(Str×List Nat×Int)×Int):=rs.flatMap (Tg wss)
abbrev Fz:=Addr×Addr×Addr×Addr×((Str×List Nat×Int)×(Str×List Nat×Int)×Int)
def FkA (K:W.Frag) (H:Hp) (z:Fz):Prop:=H z.1=some (.tup [.int (cst z.2.2.2.2.2.1.2.1 z.2.2.2.2.1.2.1:Nat), .ref z.2.1, .int z.2.2.2.2.2.2, .ref z.2.2.1, .ref z.2.2.2.1])/\StT K H z.2.1 (DY z.2.2.2.2.1 z.2.2.2.2.2.1.2.2 z.2.2.2.2.2.1.2.1)/\WyT H (z.2.2.1,z.2.2.2.2.1)/\WyT H (z.2.2.2.1,z.2.2.2.2.2.1)
theorem FkA.same {K:W.Frag} {z:Fz} (h:FkA K H z) (s:Same H H'):FkA K H' z:=#[s.get h.1,h.2.1.same s,h.2.2.1.same s,h.2.2.2.same s]
theorem FkA.app {K:W.Frag} {z:Fz} {q:Addr} {o:HO} (h:FkA K H z) (e:H q=some (.lst ys)):FkA K (upd H q o) z:=by
 let#[Y,#[c,h2,O],#[d,h4,h5],#[f,h6,h7]]:=h;show#[fY Y e,#[c,fY h2 e,fY O e],#[d,fY h4 e,fY h5 e],#[f,fY h6 e,fY h7 e]]
theorem NZ {ws:List (Str×List Nat×Int)} (h:wss[j]? =some ws):Tg wss (j:Int)=(List.range ws.length).flatMap λ b=>(List.range b).map λ a=>(ws.getD a default,ws.getD b default,(j:Int)):=by
 unfold Tg;rw [Yk,Zr,h];rfl
def Qy (K:W.Frag) (H:Hp) (a:Addr) (fs:List ((Str×List Nat×Int)×(Str×List Nat×Int)×Int)):Prop:= ∃zs:List Fz,zs.map (λ z:Fz=>z.2.2.2.2)=fs/\H a=some (.lst (zs.map λ z:Fz=>V.ref z.1))/\ ∀z∈zs,FkA K H z
inductive sp_f38 (K:W.Frag) (vs:List V) (H:Hp) (Q:VK) (E:XK):Prop
 | mk (f wa:Addr) (h:Nat) (ls:List (Str×List Nat)) (wss:List (List (Str×List Nat×Int))) (h0:vs=[.ref f, .ref wa]) (h1:FnF K H f h ls) (h2:Fo.Wf h ls) (h3:WsT H wa wss) (h4:0<wss.length) (h5:wss.length<=100) (h6:(∀ws∈wss,ws.length<=100/\ ∀w∈ws,Fo.lk ls w.1=some w.2.1/\0<=w.2.2/\w.2.2<wss.length)) (h7: ∀p H' N,Same H H'->H p=none->(bU wss N).length<=N->Qy K H' p (qN wss (bU wss N))->Q (.ref p) H'):sp_f38 K vs H Q E
abbrev Ec (K:W.Frag):TS:=
  (aG (aM (aH (sp_f6 K) [] E0 (aa (aj 9) (aa (aK (aV K) (aj 8) (tC (V.int 2))) (aa (aK (aV K) (aj 8) (tC (V.int 1))) az)))) (aA 10))
  (cC (uz K "list" cT (aj 5) (aa (dW (aa (iC (iC (aj 2) (aK (aV K) (aj 8) (tC (V.int 0)))) (aK (aV K) (aj 9) (tC (V.int 0)))) (aa (aj 10) (aa (aj 6) (aa (aj 9) (aa (aj 8) az)))))) az))))
abbrev Ed (K:W.Frag):TS:=
  (aG (dF (uT (aH (sp_f0 K) [] E0 (aa (aj 1) az))) (aA 6) (dF (xM K (aa (aK (cY K) (aj 1) (aj 6)) az)) (j5 K 2 (bO (aA 7) (bO (aA 8) jn))) (dF (dC K (yH (Ai K) (aK (cY K) (aj 1) (aj 6)) cj (f9 (aj 7)))) (aA 9) (Ec K))))
  (bh (aj 5)))
def vQ (K:W.Frag) (E:XK) (Eh:XK):TS:=
  (aG (aM jy (aA 2))
  (aG (dF (rD K (aK (aV K) (aj 0) (tC (V.int 1)))) (j5 K 2 (bO (aA 3) (bO (aA 4) jn))) (jR (aj 2) (aj 3) (aH (sp_f14 K) [] E0 (aa (aj 0) (aa (aj 4) az)))))
  (aG (aM (ir az) (aA 5))
  (Ed K))))
theorem O1 (h:sp_f38 K vs H Q E): ∃Eh,vQ K E Eh { nx:=λ _ H'=>Q .non H',rt:=Q } (start ["font","ways","costs","sign","columns","found","room","place","later","way","stand"] vs) H:=by
 let#[f,wa,h,ls,O,rfl,hF,wf,hW,c3,dk,ar,q]:=h;refine#[E0,?_];unfold vQ;have dg:(ls.map (·.1)).Nodup:=wf.up.imp λ c4 e=>by subst e;show List.lt_irrefl _ c4
 let#[l,zs,t1,b9,t3,t4]:=id hF.t;have c9:zs.length=ls.length:=by rw [<- b9,Qr]
 have d2:=wf.le;have b5: ∀k,∀r∈bU O k,0<=r/\r<O.length:=λ k=>dj (P:=λ r:Int=>0<=r/\r<O.length) #[by decide,()] (λ p q' hp hq=>by
  let#[w,mw,rfl]:=Zb.mp hq;have:O.getD p.toNat []∈O:=by rw [Zr,Ze ()];show List.getElem_mem _
  show((ar _ this).2 w mw).2) k
 have c6: ∀k,(bU O k).length<=O.length:=λ k=>by
  have:=dw (l:=bU O k) (m:=(List.range O.length).map λ i:Nat=>(i:Int)) (eG _ _ k) λ r mr=>by
   let#[h0,h1]:=b5 k r mr;show Zb.mpr #[r.toNat,Yy.mpr (),()]
  rw [Qr,List.length_range] at this;show this
 symm;intro ca a2;symm;refine dR (bf a2 t1) ?_;have bd: ∀p'∈[ca],H p'=none:=λ p' av=>by rw [Za.mp av];show a2
 walk_at "ns";refine Dc (λ z:Lz=>V.ref z.1) ((aB a2 _).tup t3) (λ i σ H'=>Sb [ca] H H'/\ ∃ (ks:List (Str×Addr×List Nat)) (o3 o4:Option V),ks.map (λ k=>(k.1,k.2.2))=ls.take i/\H' ca=some (.dK (ks.map λ k=>((Sum.inr k.1:Key),V.ref k.2.1)))/\(∀k∈ks,k.2.1≠ca/\H' k.2.1=some (.dK (ye (yd k.2.2 ls))))/\σ=[some (.ref f),some (.ref wa),some (.ref ca),o3,o4,none,none,none,none,none,none]) #[Sb.of (aB a2 _),[],_,_,rfl,ao,λ k mk=>(by cases mk),rfl] ?_ ?_ ?_
 .rintro i σ H' ⟨sb,_⟩;show(sb.off bd).tup t3
 .rintro i ⟨za,s,cz,co⟩ σ H' hi ⟨sb,ks,o3,o4,ad,am,ah,rfl⟩;have S:=sb.off bd;let#[u1,u2]:=t4 _ (Zf hi);dsimp only at u1 u2;have bo:ls[i]? =some (s,co):=by rw [<- b9,Zi,hi];rfl
  have c1:=wf.c1 _ (Zf bo);dsimp only at c1;have c2:i<ls.length:=(Zj.mp bo).1;have ax:ls.take (i+1)=ls.take i++[(s,co)]:=by rw [Yg,bo];rfl
  have b3:s∉(ls.take i).map (·.1):=by
   have h1:((ls.take (i+1)).map (·.1)).Nodup:=List.Nodup.sublist ((List.take_sublist _ _).map _) dg;rw [ax,Zg,Yt] at h1;show λ m=>h1.2.2 s m s (by simp) rfl
  have db:ks.length<=94:=by
   have:=Yc List.length ad;rw [Qr,Yd] at this;rfl'
  refine dO (SqT.of (S.get u1)) rfl ?_;symm;refine#[f,cz,h,ls,co,rfl,(hF.same S).t,wf,SqT.of (S.get u2),(),λ r H2 s2 hr er=> ?_];have cv:r≠ca:=λ e=>by rw [e,am] at hr;cases hr
  have hv:bA (ks.map λ k=>((Sum.inr k.1:Key),V.ref k.2.1)) (Sum.inr s)=none:=fC (f:=λ k:Str×Addr×List Nat=>(Sum.inr k.1:Key)) (g:=λ k:Str×Addr×List Nat=>V.ref k.2.1) λ m=>by
   let#[k,mk,e]:=Zb.mp m;show b3 (by rw [<- ad,Zn];show Zb.mpr #[k,mk,Sum.inr.inj e])
  symm;refine#[ca,_,rfl,DPut.k (k:=Sum.inr s) (s2.get am) (Yj (by rw [Qr];show db:_<=94) (by decide)),?_];rw [dM _ hv];symm;refine#[(sb.same s2).set (by simp),ks++[(s,r,co)],_,_,by rw [Zg,ad,ax];rfl,by rw [ao,Zg];rfl,λ k mk=> ?_,rfl];rcases Zp.mp mk with mk | mk
  .exact #[(ah k mk).1,by rw [aq (ah k mk).1];show s2.get (ah k mk).2]
  .rw [Za.mp mk];show#[cv,by rw [aq cv];show er]
 .rintro σ Hc ⟨sb,ks,o3,o4,ad,am,a5,rfl⟩;rw [c9,Yq] at ad;have ah: ∀k∈ks,Hc k.2.1=some (.dK (ye (yd k.2.2 ls))):=λ k mk=>(a5 k mk).2
  have SH:=sb.off bd;have b6:=hW.same SH;have bi: ∀ {s co},Fo.lk ls s=some co-> ∃k∈ks,k.2.2=co/\bA (ks.map λ k=>((Sum.inr k.1:Key),V.ref k.2.1)) (Sum.inr s)=some (V.ref k.2.1):=by
   rw [<- ad];clear am ah a5 ad;induction ks with
   | nil=>intro s co h;cases h
   | cons k ks ih=>
    intro s co h;rw [Zl,Fo.jk] at h;rw [Zl];by_cases e:k.1=s
    .rw [if_pos e] at h
     cases h;show#[k,Zt,rfl,by rw [bQ (by rw [e])]]
    .rw [if_neg e] at h;let#[k',m',e1,e2]:=ih h;show#[k',Zs _ m',e1,by rw [bI (by intro z;show e (Sum.inr.inj z))];show e2]
  symm;intro fo bn;symm;walk_at "ns";have S0:Same Hc (upd Hc fo (HO.lst [])):=aB bn _;refine#[wa,O,rfl,b6.same S0,c3,dk,λ ws bp=>#[by have:=(ar ws bp).1;rfl',λ w mw=>#[?_,((ar ws bp).2 w mw).2]],λ td H1 N ps s1 bl ci c5 hN _=> ?_]
  .obtain ⟨n,en⟩:=wf.sg _ (Fo.vD ((ar ws bp).2 w mw).1);dsimp only at en;rw [en];show Zm 1
  have cp:Hc td=none:=S0.free bl;have cr:fo≠td:=λ e=>by rw [<- e,ao] at bl;cases bl
  have cx:H1 fo=some (.lst []):=s1.get ao;have S1:Same Hc H1:=S0.trans s1;have ac: ∀p'∈[fo,td],Hc p'=none:=λ p' av=>by
   simp only [Zk,Yn,or_false] at av;rcases av with rfl | rfl
   .exact bn
   .exact cp
  have dy:ps.length=(bU O N).length:=by rw [<- ci,Qr]
  have d3:=c6 N;refine Ni (.inl c5) (λ od i σ H'=>Sb [fo,td] Hc H'/\H' td=some (.frz od (.dK (ps.map λ p=>((Sum.inl p.1:Key),V.str p.2))))/\Qy K H' fo (qN O ((bU O N).take i))/\(qN O ((bU O N).take i)).length<=i*10000/\ ∃o6 o7 o8 o9 Y:Option V,σ=[some (.ref f),some (.ref wa),some (.ref ca),o3,o4,some (.ref fo),o6,o7,o8,o9,Y]) (λ od H2 ab e2=>#[λ b o n q'=>ab b o (λ z=>n (by simp only [Za] at z;rw [z];simp)) (S1 b o q'),e2,#[[],rfl,ab.get (by simpa using cr) cx,λ z m=>(by cases m)],Yr _,_,_,_,_,_,rfl]) (λ od i σ H' h=>by let#[_,h,_]:=h;show h) ?_ ?_
  .rintro od i z σ H' hz ⟨a3,a8,hT,c0,o6,o7,o8,o9,Y,rfl⟩;let#[p,hp,rfl]: ∃p,ps[i]? =some p/\z=((Sum.inl p.1:Key),V.str p.2):=by
    rw [Zi] at hz;let#[p,hp,e]:=Ye.mp hz;show#[p,hp,e.symm]
   have be:(bU O N)[i]? =some p.1:=by rw [<- ci,Zi,hp];rfl
   let#[r0,r1]:=b5 N p.1 (Zf be);let#[j,hj]: ∃j:Nat,p.1=(j:Int):=#[p.1.toNat,()];have c2:i<(bU O N).length:=(Zj.mp be).1;let#[rs,w1,w2,w3]:=id b6;have d5:rs.length=O.length:=by rw [<- w1,Qr]
   let#[W,a1]: ∃W,rs[j]? =some W:=#[_,Ze ()];have cm:O[j]? =some W.2:=by rw [<- w1,Zi,a1];rfl
   let#[wz,bq,z1,z2]:=w3 W (Zf a1);let#[dc,b0]:=ar W.2 (Zf cm);have dl:wz.length=W.2.length:=by rw [<- bq,Qr]
   have ax:qN O ((bU O N).take (i+1))=qN O ((bU O N).take i)++(List.range W.2.length).flatMap λ b=>(List.range b).map λ a=>(W.2.getD a default,W.2.getD b default,(j:Int)):=by
    rw [Yg,be];unfold qN;rw [List.flatMap_append];congr 1;change [p.1].flatMap _=_;rw [List.flatMap_singleton,hj,NZ cm]
   rw [ax];generalize hA:qN O ((bU O N).take i)=A at hT c0 ⊢;change aA 6 (V.int p.1) _ _ _;rw [hj];symm;have S':=a3.off ac;refine cD (SqL.of (S'.get w2)) (aP (j:=j) (v:= .ref W.1) (by rw [Zi,a1];rfl)) ?_;walk_at "ns";refine Nm (λ z:Wz=>V.ref z.1) (xs:=wz) (SqL.of (S'.get z1)) (λ b σ H2=>Sb [fo,td] Hc H2/\H2 td=some (.frz od (.dK (ps.map λ p=>((Sum.inl p.1:Key),V.str p.2))))/\Qy K H2 fo (A++(List.range b).flatMap λ b=>(List.range b).map λ a=>(W.2.getD a default,W.2.getD b default,(j:Int)))/\(A++(List.range b).flatMap λ b=>(List.range b).map λ a=>(W.2.getD a default,W.2.getD b default,(j:Int))).length<=i*10000+b*100/\ ∃o7 o8 o9 Y:Option V,σ=[some (.ref f),some (.ref wa),some (.ref ca),o3,o4,some (.ref fo),some (.int (j:Nat)),o7,o8,o9,Y]) #[a3,a8,by rw [List.range_zero,List.flatMap_nil,List.append_nil];show hT,by rw [List.range_zero,List.flatMap_nil,List.append_nil];rfl',_,_,_,_,rfl] ?_ ?_ ?_
   .rintro b σ H2 ⟨ab,_⟩;show SqL.of ((ab.off ac).get z1)
   .rintro b ⟨wb,sw,cw,ag⟩ tp σ H2 hb ⟨ab,af,aw,as,o7,o8,o9,Y,rfl⟩ ai;have bc:W.2[b]? =some (sw,cw,ag):=by rw [<- bq,Zi,hb];rfl
    have d1:b<W.2.length:=(Zj.mp bc).1;have dm:W.2.getD b default=(sw,cw,ag):=by rw [Zr,bc];rfl
    have cn:=z2 _ (Zf hb);let#[cb,b1,b2]:=id cn;dsimp only at b1 b2;have cs:=((b0 _ (Zf bc)).1);dsimp only at cs;let#[kb,de,c8,df]:=bi cs;have dp:tp≠td:=λ e=>by rw [e,af] at ai;cases ai
    have bb:=ab.new (o:= .tup [.int (b:Int), .ref wb]) ai;refine dO (SqT.of ao) rfl ?_;symm;have al:upd H2 tp (.tup [.int (b:Int), .ref wb]) td=some (.frz od (.dK (ps.map λ p=>((Sum.inl p.1:Key),V.str p.2)))):=by rw [aq dp.symm];show af
    have a4:Qy K (upd H2 tp (.tup [.int (b:Int), .ref wb])) fo (A++(List.range b).flatMap λ b=>(List.range b).map λ a=>(W.2.getD a default,W.2.getD b default,(j:Int))):=by
     let#[us,u1,u2,u3]:=aw;show#[us,u1,bf ai u2,λ z mz=>(u3 z mz).same (aB ai _)]
    generalize upd H2 tp (.tup [.int (b:Int), .ref wb])=H3 at bb al a4 ⊢;rw [List.range_succ,List.flatMap_append,List.flatMap_singleton,<- List.append_assoc,dm];generalize hB:A++(List.range b).flatMap (λ b=>(List.range b).map λ a=>(W.2.getD a default,W.2.getD b default,(j:Int)))=B at a4 as ⊢;have S3:=bb.off ac;refine cD (SqL.of (S3.get w2)) (aP (j:=j) (v:= .ref W.1) (by rw [Zi,a1];rfl)) ?_;symm;refine JQ (SqL.of (S3.get z1)) λ sl ae=> ?_
    rw [qH (),Yk,<- List.map_take];walk_at "ns";have S4:Same H3 (upd H3 sl (HO.lst ((wz.take b).map λ z:Wz=>V.ref z.1))):=aB ae _;have d4:sl≠td:=λ e=>by rw [e,al] at ae;cases ae
    have b4:sl≠fo:=λ e=>by let#[us,u1,u2,u3]:=a4;rw [e,u2] at ae;cases ae
    have dt:Hc sl=none:=S3.free ae;have dz: ∀p'∈[fo,td],upd H3 sl (HO.lst ((wz.take b).map λ z:Wz=>V.ref z.1)) p'≠none->True:=λ _ _ _=>trivial
    have cf:=bb.new (o:=HO.lst ((wz.take b).map λ z:Wz=>V.ref z.1)) ae;have a9:upd H3 sl (HO.lst ((wz.take b).map λ z:Wz=>V.ref z.1)) sl=some (.lst ((wz.take b).map λ z:Wz=>V.ref z.1)):=ao;have a6:=S4.get al;have ce:Qy K (upd H3 sl (HO.lst ((wz.take b).map λ z:Wz=>V.ref z.1))) fo B:=by
     let#[us,u1,u2,u3]:=a4;show#[us,u1,S4.get u2,λ z mz=>(u3 z mz).same S4]
    generalize upd H3 sl (HO.lst ((wz.take b).map λ z:Wz=>V.ref z.1))=H4 at S4 cf a9 a6 ce ⊢;refine jV (λ z:Wz=>V.ref z.1) (zs:=wz.take b) (SqL.of a9) (λ a σ H5=>Sb [fo,td] Hc H5/\H5 sl=some (.lst ((wz.take b).map λ z:Wz=>V.ref z.1))/\H5 td=some (.frz od (.dK (ps.map λ p=>((Sum.inl p.1:Key),V.str p.2))))/\Qy K H5 fo (B++(List.range a).map λ a=>(W.2.getD a default,(sw,cw,ag),(j:Int)))/\ ∃o9 Y:Option V,σ=[some (.ref f),some (.ref wa),some (.ref ca),o3,o4,some (.ref fo),some (.int (j:Nat)),some (.int (b:Nat)),some (.ref wb),o9,Y]) #[cf,a9,a6,by rw [List.range_zero,List.map_nil,List.append_nil];show ce,_,_,rfl] ?_ ?_ ?_
    .rintro a σ H5 ⟨_,h,_⟩;show SqL.of h
    .rintro a ⟨wq,sq,cq,rq⟩ σ H5 ha ⟨ay,a7,ap,⟨us,u1,u2,u3⟩,o9,Y,rfl⟩;have da:a<b:=by
      have:=(Zj.mp ha).1;rw [Yd] at this;rfl'
     have bv:wz[a]? =some (wq,sq,cq,rq):=by rw [List.getElem?_take,if_pos da] at ha;show ha
     have br:W.2[a]? =some (sq,cq,rq):=by rw [<- bq,Zi,bv];rfl
     have dn:W.2.getD a default=(sq,cq,rq):=by rw [Zr,br];rfl
     have bg:=z2 _ (Zf bv);let#[cc,q1,q2]:=id bg;dsimp only at q1 q2;have cy:=((b0 _ (Zf br)).1);dsimp only at cy;have S5:=ay.off ac;have d6:us.length<=1000000:=by
      have:=Yc List.length u1;rw [Qr,Zq,Qr,List.length_range] at this;rfl'
     symm;refine jG (S5.get b1) ?_;symm;refine dR (S5.get b1) ?_;symm;refine#[wq,cb,(sq,cq,rq),ag,cw,rfl,bg.same S5,S5.get b2,λ st H6 s6 d0 hS=> ?_];have S6:=S5.trans s6;symm;refine eF (SqL.of (s6.get u2)) ?_;symm;refine gm (S6.get b1) ?_;symm;refine#[ca, .ref kb.2.1,rfl,by rw [<- df];show DGet.k (k:=Sum.inr sw) (S6.get am),?_];symm;refine gm (S6.get q1) ?_;symm;refine#[kb.2.1,V.int (cst cw cq:Nat),rfl,by have:=DGet.k (k:=Sum.inr sq) (S6.get (ah kb de));rw [c8,vO cy] at this;show this,?_];symm;intro tq dq;have s7:Same H6 (upd H6 tq (HO.tup [.int (cst cw cq:Nat), .ref st, .int (j:Nat), .ref wq, .ref wb])):=aB dq _;have e7:upd H6 tq (HO.tup [.int (cst cw cq:Nat), .ref st, .int (j:Nat), .ref wq, .ref wb]) tq=some (.tup [.int (cst cw cq:Nat), .ref st, .int (j:Nat), .ref wq, .ref wb]):=ao;generalize upd H6 tq (HO.tup [.int (cst cw cq:Nat), .ref st, .int (j:Nat), .ref wq, .ref wb])=H7 at s7 e7 ⊢;have u7:=s7.get (s6.get u2);symm;refine iJ u7 (by rw [Qr];rfl') ?_;symm;have hz:FkA K H7 (tq,st,wq,wb,((sq,cq,rq),(sw,cw,ag),(j:Int))):=#[e7,hS.same s7,(bg.same S6).same s7,(cn.same S6).same s7];refine#[((ay.same s6).same s7).set (by simp),by rw [aq b4];show s7.get (s6.get a7),by rw [aq cr.symm];show s7.get (s6.get ap),#[us++[(tq,st,wq,wb,((sq,cq,rq),(sw,cw,ag),(j:Int)))],by rw [Zg,u1,List.range_succ,Zg,<- List.append_assoc,List.map_singleton,List.map_singleton,dn],by rw [ao,Zg];rfl,λ z mz=> ?_],_,_,rfl];rcases Zp.mp mz with mz | mz
     .exact (((u3 z mz).same s6).same s7).app u7
     .rw [Za.mp mz];show hz.app u7
    .rintro σ H5 ⟨ay,a7,ap,ct,o9,Y,rfl⟩;have eb:(wz.take b).length=b:=by rw [Yd];rfl'
     rw [eb] at ct;show#[ay,ap,ct,by rw [Zq,Qr,List.length_range];rfl',_,_,_,_,rfl]
   .rintro σ H2 ⟨ab,af,aw,as,o7,o8,o9,Y,rfl⟩;rw [dl] at aw as;show#[ab,af,aw,(),_,_,_,_,_,rfl]
  .rintro od σ H' ⟨a3,a8,hT,_,o6,o7,o8,o9,Y,rfl⟩;rw [Yu (by rw [Qr];rfl')] at hT;symm;refine q fo H' N (SH.trans (a3.off ac)) (SH.free bn) hN hT
def Ef (ls:List (Str×List Nat)) (st:Int×Int×List Nat) (w:Str×List Nat×Int):Str×Nat×(Int×Int×List Nat):=(w.1,cst st.2.2 w.2.1,DY w st.2.1 st.2.2)
def SpT (K:W.Frag) (H:Hp) (a:Addr) (x:Str×Nat×(Int×Int×List Nat)):Prop:= ∃c,H a=some (.tup [.str x.1, .int (x.2.1:Nat), .ref c])/\StT K H c x.2.2
theorem SpT.same {K:W.Frag} {a:Addr} {x:Str×Nat×(Int×Int×List Nat)} (h:SpT K H a x) (s:Same H H'):SpT K H' a x:=by
 let#[c,Y,O]:=h;show#[c,s.get Y,O.same s]
def SsT (K:W.Frag) (H:Hp) (a:Addr) (xs:List (Str×Nat×(Int×Int×List Nat))):Prop:= ∃zs:List (Addr×Str×Nat×(Int×Int×List Nat)),zs.map (·.2)=xs/\H a=some (.lst (zs.map λ z=>V.ref z.1))/\ ∀z∈zs,SpT K H z.1 z.2
inductive sp_f27 (K:W.Frag) (vs:List V) (H:Hp) (Q:VK) (E:XK):Prop
 | mk (wa ca sa:Addr) (ls:List (Str×List Nat)) (wss:List (List (Str×List Nat×Int))) (st:Int×Int×List Nat) (ws:List (Str×List Nat×Int)) (r:Nat) (h0:vs=[.ref wa, .ref ca, .ref sa]) (h1:WsT H wa wss) (h2:H ca=some (.dK (ye (yd st.2.2 ls)))) (h3:StT K H sa st) (h4:st.1=(r:Int)) (h5:wss[r]? =some ws) (h6:(∀w∈ws,Fo.lk ls w.1=some w.2.1)) (h7:ws.length<=1000) (h8: ∀p H',Same H H'->H p=none->SsT K H' p (ws.map (Ef ls st))->Q (.ref p) H'):sp_f27 K vs H Q E
def vR (K:W.Frag) (E:XK) (Eh:XK):TS:=
  (bh (uf [none,some 1,some 2] (dC K (aK (cY K) (aj 0) (aK (aV K) (aj 2) (tC (V.int 0))))) (aA 0) gD (dW (aa (aK (aV K) (aj 0) (tC (V.int 0))) (aa (iC (aj 1) (aK (aV K) (aj 0) (tC (V.int 0)))) (aa (aH (sp_f6 K) [] E0 (aa (aj 0) (aa (aK (aV K) (aj 2) (tC (V.int 1))) (aa (aK (aV K) (aj 2) (tC (V.int 2))) az)))) az))))))
theorem O2 (h:sp_f27 K vs H Q E): ∃Eh,vR K E Eh { nx:=λ _ H'=>Q .non H',rt:=Q } (start ["ways","costs","stand"] vs) H:=by
 let#[wa,ca,sa,ls,ap,#[s0,s1,ys],ws,r,rfl,#[rs,w1,w2,w3],ad,#[sc,e1,e2],hr,ac,ai,ar,q]:=h;refine#[E0,?_];unfold vR;dsimp only at e1 e2 hr ad;subst hr;let#[rz,ab]: ∃rz,rs[r]? =some rz:=#[_,Ze (by have:=(Zj.mp ac).1;rw [<- w1,Qr] at this;show this)];have af:rz.2=ws:=by
  have:(rs.map (·.2))[r]? =some rz.2:=by rw [Zi,ab];rfl
  rw [w1,ac] at this;show(Yi this).symm
 let#[zs,Y,z1,z2]:=w3 rz (Zf ab);rw [af] at Y;have am:zs.length=ws.length:=by rw [<- Y,Qr]
 symm;refine gm e1 ?_;symm;refine cD (SqL.of w2) (aP (j:=r) (v:= .ref rz.1) (by rw [Zi,ab];rfl)) ?_;refine J2 (λ z:Wz=>V.ref z.1) (zs:=zs) (SqL.of z1) () (λ i vs H'=>Same H H'/\ ∃us:List (Addr×Str×Nat×(Int×Int×List Nat)),vs=us.map (λ z=>V.ref z.1)/\us.map (·.2)=(ws.take i).map (Ef ls ((r:Int),s1,ys))/\ ∀z∈us,SpT K H' z.1 z.2) #[Same.refl _,[],rfl,rfl,λ z m=>(by cases m)] ?_ ?_ ?_ ?_
 .rintro i vs H' ⟨s',_⟩;show SqL.of (s'.get z1)
 .rintro i vs H' ⟨_,us,rfl,eu,_⟩;have:=Yc List.length eu;rw [Qr,Qr,Yd] at this;rw [Qr];rfl'
 .rintro i ⟨za,s,co,O⟩ vs H' hi ⟨s',us,rfl,eu,hu⟩;have ae:ws[i]? =some (s,co,O):=by rw [<- Y,Zi,hi];rfl
  have ag:ws.take (i+1)=ws.take i++[(s,co,O)]:=by rw [Yg,ae];rfl
  have hW:=z2 _ (Zf hi);let#[cc,v1,v2]:=id hW;dsimp only at v1 v2;have hl:=ai _ (Zf ae);dsimp only at hl;symm;refine gm (s'.get v1) ?_;symm;refine gm (s'.get v1) ?_;symm;refine#[ca,V.int (cst ys co:Nat),rfl,by have:=DGet.k (k:=Sum.inr s) (s'.get ad);rw [vO hl] at this;show this,?_];symm;refine dR (s'.get e1) ?_;symm;refine jG (s'.get e1) ?_;symm;refine#[za,sc,(s,co,O),s1,ys,rfl,#[cc,s'.get v1,s'.get v2],s'.get e2,λ sb H2 s2 al ah=> ?_];symm;intro tp W;refine#[(s'.trans s2).new W,us++[(tp,Ef ls ((r:Int),s1,ys) (s,co,O))],by rw [Zg];rfl,by rw [Zg,eu,ag,Zg];rfl,λ z mz=> ?_];rcases Zp.mp mz with mz | mz
  .exact (hu z mz).same (s2.new W)
  .rw [Za.mp mz];show#[sb,ao,ah.same (aB W _)]
 .rintro vs H' ⟨s',us,rfl,eu,hu⟩ p hp;rw [Yu ()] at eu;refine q p _ (s'.new hp) (s'.free hp) #[us,eu,ao,λ z mz=>(hu z mz).same (aB hp _)]
abbrev Sd:=Int×Int×List Nat
variable {x:Sd} {ev:Sd->Prop} {F':Sd->Nat×Nat->Prop} {W':Nat×Nat->Sd->Prop} {B' P':Nat->Sd->Sd->Prop}
def fD (x:Sd):Sk:=(x.1,x.2.1,x.2.2.map λ n:Nat=>(n:Int))
theorem u6: ∀ {c d:List Nat},(c.map λ n:Nat=>(n:Int))=(d.map λ n:Nat=>(n:Int))->c=d
 | [],[],_=>rfl
 | [],_::_,h=>by cases h
 | _::_,[],h=>by cases h
 | x::c,y::d,h=>by
  rw [Zl,Zl] at h;injection h with h1 h2
  rw [u6 h2,show x=y by rfl']
theorem qO {y:Sd} (h:fD x=fD y):x=y:=by
 let#[a,b,c]:=x;let#[O,b',Y]:=y;have h1:a=O:=Yc (λ z:Sk=>z.1) h;have h2:b=b':=Yc (λ z:Sk=>z.2.1) h;have W:c=Y:=u6 (Yc (λ z:Sk=>z.2.2) h);rw [h1,h2,W]
theorem StT.a {K:W.Frag} {a:Addr} {st:Sd} (h:StT K H a st):qt H a (fD st):=by
 let#[c,Y,O]:=h;show#[c,Y,by rw [O];unfold nv fD;rw [Zn];rfl]
theorem StT.keep {K:W.Frag} {k:Sd} {o o':HO} (h:StT K H b k) (e:H p=some o) (ht: ∀l,o≠ .tup l):StT K (upd H p o') b k:=by
 let#[c,O,Y]:=h;show#[c,by rw [aq (bw O e λ z=>ht _ z.symm)];show O,by rw [aq (bw Y e λ z=>ht _ z.symm)];show Y]
theorem SsT.same {K:W.Frag} {a:Addr} {xs:List (Str×Nat×Sd)} (h:SsT K H a xs) (s:Same H H'):SsT K H' a xs:=by
 let#[zs,Y,h2,O]:=h;show#[zs,Y,s.get h2,λ z mz=>(O z mz).same s]
theorem SsT.keep {K:W.Frag} {a:Addr} {xs:List (Str×Nat×Sd)} {o o':HO} (h:SsT K H a xs) (e:H p=some o) (ht: ∀l,o≠ .tup l) (n:a≠p):SsT K (upd H p o') a xs:=by
 let#[zs,h1,h2,Y]:=h;refine#[zs,h1,by rw [aq n];show h2,λ z mz=> ?_];let#[c,O,c2]:=Y z mz;show#[c,by rw [aq (bw O e λ z=>ht _ z.symm)];show O,c2.keep e ht]
def qX (ys:List Nat):List Key:=ys.map λ n:Nat=>(Sum.inl (n:Int):Key)
theorem vU (ys:List Nat):(qX ys).map kV=nv ys:=by unfold qX nv;rw [Zn];rfl
theorem qP: ∀ {c d:List Nat},qX c=qX d->c=d
 | [],[],_=>rfl
 | [],_::_,h=>by cases h
 | _::_,[],h=>by cases h
 | x::c,y::d,h=>by
  unfold qX at h;rw [Zl,Zl] at h;injection h with O h2
  have O:=Sum.inl.inj O;rw [qP h2,show x=y by rfl']
theorem Eg {ys:List Nat}: ∀ {cs:List (List Nat×Addr)},ys∈cs.map (·.1)-> ∃O,(ys,O)∈cs/\bA (cs.map λ c=>(qX c.1,V.ref c.2)) (qX ys)=some (V.ref O)
 | c::cs,m=>by
  rw [Zl];by_cases e:c.1=ys
  .exact #[c.2,by rw [<- e];show Zt,by rw [bQ (by rw [e])]]
  .obtain ⟨O,W,Y⟩:=Eg (cs:=cs) (by rcases Zk.mp m with z | z;show absurd z.symm e;show z);show⟨O,Zs _ W,by rw [bI (λ z=>e (qP z))];show Y⟩
theorem yf {ys:List Nat}: ∀ {cs:List (List Nat×Addr)},ys∉cs.map (·.1)->bA (cs.map λ c=>(qX c.1,V.ref c.2)) (qX ys)=none
 | [],_=>rfl
 | c::cs,m=>by
  rw [Zl,bI (λ z=>m (by rw [Zl,qP z];show Zt))];show yf λ z=>m (Zs _ z)
abbrev Uz:=(Addr×Str×Nat×Sd)×Addr
theorem vV {K:W.Frag} {H:Hp}: ∀ {us:List (Addr×Str×Nat×Sd)},(∀z∈us,SpT K H z.1 z.2)-> ∃ps:List Uz,ps.map (·.1)=us/\ ∀p∈ps,H p.1.1=some (.tup [.str p.1.2.1, .int (p.1.2.2.1:Nat), .ref p.2])/\StT K H p.2 p.1.2.2.2
 | [],_=>#[[],rfl,λ p m=>(by cases m)]
 | u::us,h=>by
  let#[ps,h1,h2]:=vV λ z mz=>h z (Zs _ mz)
  let#[c,Y,c2]:=h u Zt;refine#[(u,c)::ps,by rw [Zl,h1],λ p O=> ?_];rcases Zk.mp O with rfl | O
  .exact #[Y,c2]
  .exact h2 p O
def O3 (wss:List (List (Str×List Nat×Int))) (st:Sd):List Sd:=(wss.getD st.1.toNat []).map λ w=>DY w st.2.1 st.2.2
def mU (z:(Str×List Nat×Int)×(Str×List Nat×Int)×Int):Sd:=DY z.1 z.2.1.2.2 z.2.1.2.1
def Ei (wss:List (List (Str×List Nat×Int))) (N:Nat):List Sd:=(qN wss (bU wss N)).map mU
def InU (n:Nat) (ls:List (Str×List Nat)) (x:Sd):Prop:=(0<=x.1/\x.1<n)/\(0<=x.2.1/\x.2.1<n)/\ ∃p∈ls,∃d,d<9/\x.2.2=p.2.drop d
def UL (n:Nat) (ls:List (Str×List Nat)):List Sd:=(List.range n).flatMap λ a:Nat=>(List.range n).flatMap λ b:Nat=>ls.flatMap λ p=>(List.range 9).map λ d:Nat=>((a:Int),(b:Int),p.2.drop d)
theorem qQ {α β:Type} (f:α->List β) (k:Nat) (h: ∀x,(f x).length=k): ∀l:List α,(l.flatMap f).length=l.length*k
 | []=>by simp
 | x::l=>by rw [List.flatMap_cons,Zq,h,qQ f k h l,Wp,Nat.add_mul,Nat.one_mul,Nat.add_comm]
theorem Ej (n:Nat) (ls:List (Str×List Nat)):(UL n ls).length=n*n*(ls.length*9):=by
 unfold UL;rw [qQ _ (n*(ls.length*9)) λ a=>by rw [qQ _ (ls.length*9) λ b=>by rw [qQ _ 9 λ p=>by rw [Qr,List.length_range]],List.length_range],List.length_range,Nat.mul_assoc]
theorem InU.mem {ls:List (Str×List Nat)} (h:InU n ls x):x∈UL n ls:=by
 let#[#[a1,a2],#[Y,b2],p,W,d,O,e]:=h;refine List.mem_flatMap.mpr #[x.1.toNat,Yy.mpr (),List.mem_flatMap.mpr #[x.2.1.toNat,Yy.mpr (),List.mem_flatMap.mpr #[p,W,Zb.mpr #[d,Yy.mpr O,?_]]]];rw [<- e,Int.toNat_of_nonneg a1,Int.toNat_of_nonneg Y]
def WOk (ls:List (Str×List Nat)) (n:Nat) (wss:List (List (Str×List Nat×Int))):Prop:= ∀ws∈wss,∀w∈ws,((w.1,w.2.1)∈ls/\1<=w.2.1.length/\w.2.1.length<=8)/\0<=w.2.2/\w.2.2<n
theorem WOk.at {ls:List (Str×List Nat)} {n:Nat} {wss:List (List (Str×List Nat×Int))} (h:WOk ls n wss) {r:Nat} {w:Str×List Nat×Int} (m:w∈wss.getD r []):((w.1,w.2.1)∈ls/\1<=w.2.1.length/\w.2.1.length<=8)/\0<=w.2.2/\w.2.2<n:=by
 by_cases c:r<wss.length
 .rw [Zr,Ze c] at m;show h _ (List.getElem_mem c) w m
 .rw [Zr,List.getElem?_eq_none ()] at m
  cases m
theorem Ek {ls:List (Str×List Nat)} (hw:((w.1,w.2.1)∈ls/\1<=w.2.1.length/\w.2.1.length<=8)/\0<=w.2.2/\w.2.2<n) {ah:Int} {ys:List Nat} (ha:0<=ah/\ah<n) (hy: ∃p∈ls,p.2.length<=8/\ ∃d,ys=p.2.drop d):InU n ls (DY w ah ys):=by
 let#[#[m,Y,l2],r]:=hw;let#[p,O,W,d,rfl]:=hy;unfold DY;split
 .rename_i c;rw [List.length_drop] at c;show#[r,ha,p,O,d+w.2.1.length,(),by change(p.2.drop d).drop _=_;rw [List.drop_drop]]
 .rename_i c;show#[ha,r,_,m,(p.2.drop d).length,(),rfl]
theorem O4 {ls:List (Str×List Nat)} (hl: ∀p∈ls,p.2.length<=8) (h:WOk ls n wss) (x y:Sd) (hx:InU n ls x) (m:y∈O3 wss x):InU n ls y:=by
 let#[w,W,rfl]:=Zb.mp m;let#[_,Y,p,O,d,_,e]:=hx;show Ek (h.at W) Y #[p,O,hl p O,d,e]
theorem O5 {ls:List (Str×List Nat)} (h:WOk ls n wss) (N:Nat) (x:Sd) (m:x∈Ei wss N):InU n ls x:=by
 let#[z,mz,rfl]:=Zb.mp m;let#[r,_,mr]:=List.mem_flatMap.mp mz;let#[b,mb,ma]:=List.mem_flatMap.mp mr;let#[a,W,rfl]:=Zb.mp ma;have hb:=Yy.mp mb;have W:=Yy.mp W;have g: ∀k,k<(wss.getD r.toNat []).length->(wss.getD r.toNat []).getD k default∈wss.getD r.toNat []:=by
  generalize wss.getD r.toNat []=l;intro k Y;rw [Zr,Ze Y];show List.getElem_mem Y
 have h1:=h.at (g a ());have O:=h.at (g b hb);show Ek h1 O.2 #[_,O.1.1,O.1.2.2,0,rfl]
def Th (ls:List (Str×List Nat)) (ds:L2S):Prop:=0<ds.length/\ds.length<=50/\(∀ps∈ds,ps.length<=18/\ ∀p∈ps,0<=p.2/\p.2<ds.length)/\ds.length*ds.length*(ls.length*9)<=50000
theorem yg {h:Nat} {ls:List (Str×List Nat)} (wf:Fo.Wf h ls) (sz:Th ls ds):WOk ls ds.length (ds.map (b7 ls)):=λ ws W w mw=>by
 let#[ps,O,rfl]:=Zb.mp W;let#[p,mp,ep]:=List.mem_filterMap.mp (show w∈ps.filterMap _ from mw);let#[co,Y,rfl]:=Ye.mp ep;have:=Fo.vD Y;show#[#[this,wf.c1 _ this],(sz.2.2.1 ps O).2 p mp]
abbrev Gz:=Addr×Sd×Addr
variable {bz gz zs:List Gz}
def bR (zs:List Gz):List (Addr×Sk×V):=zs.map λ z:Gz=>(z.1,fD z.2.1,V.ref z.2.2)
def GzT (K:W.Frag) (H:Hp) (ls:List (Str×List Nat)) (wss:List (List (Str×List Nat×Int))) (z:Gz):Prop:=StT K H z.1 z.2.1/\SsT K H z.2.2 ((wss.getD z.2.1.1.toNat []).map (Ef ls z.2.1))
theorem GzT.same {K:W.Frag} {ls:List (Str×List Nat)} {z:Gz} (h:GzT K H ls wss z) (s:Same H H'):GzT K H' ls wss z:=#[h.1.same s,h.2.same s]
theorem vW {K:W.Frag} {ls:List (Str×List Nat)} (h: ∀z∈zs,GzT K H ls wss z): ∀p∈bR zs,qt H p.1 p.2.1:=λ p O=>by
 let#[z,Y,rfl]:=Zb.mp O;show(h z Y).1.a
theorem gP (h:x∉zs.map (·.2.1)):cH (bR zs) (fD x)=none:=ph.mpr λ m=>by
 unfold bR at m;rw [Zn] at m;let#[z,O,e]:=Zb.mp m;show h (Zb.mpr #[z,O,qO e])
theorem mV (h:x∈zs.map (·.2.1)): ∃v,cH (bR zs) (fD x)=some v:=Dy (by
 unfold bR;rw [Zn];let#[z,O,e]:=Zb.mp h;show Zb.mpr #[z,O,by rw [<- e];rfl])
theorem qR {wss:List (List (Str×List Nat×Int))} (hw: ∀W∈wss,W.length<=18): ∀rs:List Int,(qN wss rs).length<=rs.length*324
 | []=>by simp [qN]
 | r :: rs => by
  have O:=qR hw rs;unfold qN at O ⊢;rw [List.flatMap_cons,Zq,Wp];have h1:(Tg wss r).length<=324:=by
   unfold Tg;have hl:(wss.getD r.toNat []).length<=18:=by
    by_cases c:r.toNat<wss.length
    .rw [Zr,Ze c];show hw _ (List.getElem_mem c)
    .rw [Zr,List.getElem?_eq_none ()];simp
   have Y: ∀ (m:Nat) (g:Nat->Nat->(Str×List Nat×Int)×(Str×List Nat×Int)×Int),m<=18->((List.range m).flatMap λ j=>(List.range j).map λ k=>g j k).length<=m*18:=by
    intro m g hm;induction m with
    | zero=>simp
    | succ m O=>
     rw [List.range_succ,List.flatMap_append,Zq,List.flatMap_singleton,Qr,List.length_range];have:=O ();rfl'
   have:=Y _ (λ j k=>((wss.getD r.toNat []).getD k default,(wss.getD r.toNat []).getD j default,r)) hl;rfl'
  rfl'
inductive sp_f22 (K:W.Frag) (vs:List V) (H:Hp) (Q:VK) (E:XK):Prop
 | mk (f ha:Addr) (h:Nat) (ls:List (Str×List Nat)) (ds:L2S) (es:List Int) (h0:vs=[.ref f, .ref ha]) (h1:FnF K H f h ls) (h2:Fo.Wf h ls) (h3:HsG K H ha ds es) (h4:Th ls ds) (h5: ∀r H' N (zs:List Gz),Same H H'->H r=none->(bU (ds.map (b7 ls)) N).length<=N->H' r=some (bx r (bR zs))->(∀z∈zs,GzT K H' ls (ds.map (b7 ls)) z)->zs.length<=50000->(zs.map (·.2.1)).Nodup->(∀x,x∈zs.map (·.2.1)↔Mm.Rch (Ei (ds.map (b7 ls)) N) (O3 (ds.map (b7 ls))) x)->Q (.ref r) H'):sp_f22 K vs H Q E
abbrev El (K:W.Frag):TS:=
  (aG (tG (aj 4) (aj 6) (aH (sp_f27 K) [] E0 (aa (aj 2) (aa (iC (aj 3) (aK (aV K) (aj 6) (tC (V.int 2)))) (aa (aj 6) az)))))
  (cC (uz K "list" kI (aj 5) (aa (uf [none] (dC K (jj (aj 4) (aj 6))) (aA 0) gD (aK (aV K) (aj 0) (tC (V.int 2)))) az))))
abbrev Em (K:W.Frag):TS:=
  (aG (aM (Hk K "list" Lg (aj 5)) (aA 6))
  (cF (tB (kW (aj 6) (aj 4))) (aG (cF (tB (kJ (aK (aV K) (aj 6) (tC (V.int 2))) (aj 3))) (jR (aj 3) (aK (aV K) (aj 6) (tC (V.int 2))) (aH (sp_f14 K) [] E0 (aa (aj 0) (aa (aK (aV K) (aj 6) (tC (V.int 2))) az)))) bF)
  (El K)) bF))
abbrev En (K:W.Frag):TS:=
  (aG (aM tE (aA 4))
  (aG (aM (uf [none] (dC K (aH (sp_f38 K) [] E0 (aa (aj 0) (aa (aj 2) az)))) (aA 0) gD (aK (aV K) (aj 0) (tC (V.int 1)))) (aA 5))
  (aG (fK (aZ (aK uJ (cG (bT K) (aa (aj 5) az)) (tC (V.int 0)))) (Em K))
  (bh (aj 4)))))
def vX (K:W.Frag) (E:XK) (Eh:XK):TS:=
  (aG (aM (aH (sp_f30 K) [] E0 (aa (aj 0) (aa (aj 1) az))) (aA 2))
  (aG (aM uE (aA 3))
  (En K)))
theorem O6 (h:sp_f22 K vs H Q E): ∃Eh,vX K E Eh { nx:=λ _ H'=>Q .non H',rt:=Q } (start ["font","house","ways","costs","found","waiting","stand"] vs) H:=by
 let#[f,ha,h,ls,ds,es,rfl,hF,wf,hH,sz,q]:=h;refine#[E0,?_];unfold vX;have aw:=yg wf sz;have da: ∀p∈ls,p.2.length<=8:=λ p mp=>(wf.c1 p mp).2
 let#[c3,cr,cw,d1]:=id sz;have ap: ∀ws∈ds.map (b7 ls),ws.length<=18:=λ ws am=>by
  let#[ps,bd,rfl]:=Zb.mp am;show Yl (List.length_filterMap_le ..) (cw ps bd).1
 have cb: ∀ws∈ds.map (b7 ls),∀w∈ws,Fo.lk ls w.1=some w.2.1:=λ ws am w mw=>by
  let#[ps,bd,rfl]:=Zb.mp am;let#[p,mp,ep]:=List.mem_filterMap.mp (show w∈ps.filterMap _ from mw);let#[co,bb,rfl]:=Ye.mp ep;show bb
 symm;refine#[f,ha,h,ls,ds,es,rfl,hF,wf,hH,(),λ ps bd=>by have:=(cw ps bd).1;rfl',λ wa H1 s1 d5 hW=> ?_];have c8:(ds.map (b7 ls)).length=ds.length:=Qr _;generalize ds.map (b7 ls)=wss at aw ap hW q c8 cb;rw [<- c8] at aw c3 cr d1;symm;intro co b9;symm;intro O b4;have S1:Same H1 (upd (upd H1 co (HO.dT [])) O (bx O [])):=(aB b9 _).new b4;have ae:upd (upd H1 co (HO.dT [])) O (bx O []) co=some (.dT []):=bf b4 ao;have ac:upd (upd H1 co (HO.dT [])) O (bx O []) O=some (bx O []):=ao;have bl:H1 O=none:=(aB b9 _).free b4;generalize upd (upd H1 co (HO.dT [])) O (bx O [])=H2 at S1 ae ac;symm;refine#[f,wa,h,ls,wss,rfl,(hF.same s1).same S1,wf,hW.same S1,c3,(),λ ws am=>#[by have:=ap ws am;rfl',λ w mw=>#[cb ws am w mw,(aw ws am w mw).2]],λ fk H3 N s3 eb hN hT=> ?_];let#[fz,c6,d0,c2]:=hT;have dm:(bU wss N).length<=wss.length:=by
  have dn: ∀k,∀r∈bU wss k,0<=r/\r<wss.length:=λ k=>dj (P:=λ r:Int=>0<=r/\r<wss.length) #[by decide,()] (λ p q' hp hq=>by
   let#[w,mw,rfl]:=Zb.mp hq;show(aw.at mw).2) k
  have:=dw (l:=bU wss N) (m:=(List.range wss.length).map λ i:Nat=>(i:Int)) (eG _ _ N) λ r mr=>by
   let#[h0,h1]:=dn N r mr;show Zb.mpr #[r.toNat,Yy.mpr (),()]
  rw [Qr,List.length_range] at this;show this
 have d3:fz.length<=16200:=by
  have h1:=qR ap (bU wss N);rw [<- c6,Qr] at h1;have:=Nat.mul_le_mul_right 324 (Yl dm cr);rfl'
 refine JN (λ z:Fz=>V.ref z.1) (zs:=fz) (SqL.of d0) () (λ z:Fz=>V.ref z.2.1) ?_ λ wt a1=> ?_
 .rintro i z hi A hA;let#[z1,_]:=c2 z (Zf hi);symm;show iI (SqT.of z1) (aP (j:=1) (v:= .ref z.2.1) rfl) hA
 have S3:=(S1.trans s3).new (o:=HO.lst (fz.map λ z:Fz=>V.ref z.2.1)) a1;have bo:upd H3 wt (HO.lst (fz.map λ z:Fz=>V.ref z.2.1)) co=some (.dT []):=bf a1 (s3.get ae);have bq:upd H3 wt (HO.lst (fz.map λ z:Fz=>V.ref z.2.1)) O=some (bx O []):=bf a1 (s3.get ac);have a2:upd H3 wt (HO.lst (fz.map λ z:Fz=>V.ref z.2.1)) wt=some (.lst ((fz.map λ z:Fz=>(z.2.1,mU z.2.2.2.2)).map λ z:Addr×Sd=>V.ref z.1)):=by rw [ao,Zn];rfl
 have bc: ∀z∈fz.map λ z:Fz=>(z.2.1,mU z.2.2.2.2),StT K (upd H3 wt (HO.lst (fz.map λ z:Fz=>V.ref z.2.1))) z.1 z.2:=λ z W=>by
  let#[y,my,rfl]:=Zb.mp W;show(c2 y my).2.1.same (aB a1 _)
 have db:H1 wt=none:=(S1.trans s3).free a1;generalize upd H3 wt (HO.lst (fz.map λ z:Fz=>V.ref z.2.1))=H4 at S3 bo bq a2 bc;have ct:(fz.map λ z:Fz=>(z.2.1,mU z.2.2.2.2)).map (·.2)=Ei wss N:=by rw [Zn];unfold Ei;rw [<- c6,Zn];rfl
 have dp:(fz.map λ z:Fz=>(z.2.1,mU z.2.2.2.2)).length<=16200:=by rw [Qr];show d3
 generalize fz.map (λ z:Fz=>(z.2.1,mU z.2.2.2.2))=fs at a2 bc ct dp;symm;walk_at "ns";have b2: ∀p∈[co,O,wt],H1 p=none:=λ p hp=>by
  simp only [Zk,Yn,or_false] at hp;rcases hp with rfl | rfl | rfl
  .exact b9
  .exact bl
  .exact db
 have SH:=s1;refine mR (λ m σ H'=>Sb [co,O,wt] H1 H'/\ ∃ (zs:List Gz) (fs:List (Addr×Sd)) (cs:List (List Nat×Addr)) (o6:Option V),H' O=some (bx O (bR zs))/\(∀z∈zs,z.2.2≠wt/\GzT K H' ls wss z)/\H' wt=some (.lst (fs.map λ z:Addr×Sd=>V.ref z.1))/\(∀z∈fs,StT K H' z.1 z.2)/\H' co=some (.dT (cs.map λ c=>(qX c.1,V.ref c.2)))/\(∀c∈cs,H' c.2=some (.dK (ye (yd c.1 ls))))/\Mm.Clo (Ei wss N) (O3 wss) (zs.map (·.2.1)) (fs.map (·.2))/\cs.length<=zs.length/\fs.length<=16200+18*zs.length/\m=(50000-zs.length)*19+fs.length/\σ=[some (.ref f),some (.ref ha),some (.ref wa),some (.ref co),some (.ref O),some (.ref wt),o6]) _ #[Sb.of S3,[],fs,[],none,bq,λ z m=>(by cases m),a2,bc,bo,λ c m=>(by cases m),by rw [ct];show Mm.Clo.start _ _,Zm _,(),rfl,rfl] ?_ ?_
 .rintro m σ H' Nx ⟨sb,zs,fs,cs,o6,bg,ax,ag,cf,bb,cx,hC,d2,cp,rfl,rfl⟩ b3;have S':=sb.off b2;have cc: ∀x,Mm.Rch (Ei wss N) (O3 wss) x->InU wss.length ls x:=λ x hx=>Mm.Rch.all (O5 aw N) (O4 da aw) hx
  have dq:zs.length<=50000:=by
   have:=dw hC.nd λ x mx=>(cc x (hC.rF x mx)).mem
   rw [Ej,Qr] at this;rfl'
  symm;refine eX (SqL.of ag) ?_;rw [Qr];symm;refine fW (λ c1=> ?_) λ c1=> ?_
  .obtain ⟨gs,⟨sa,st⟩,rfl⟩: ∃ (gs:List (Addr×Sd)) (y:Addr×Sd),fs=gs++[y]:=#[fs.dropLast,fs.getLast (λ e=>by rw [e] at c1;simp at c1),(List.dropLast_concat_getLast _).symm];rw [Zg] at hC ag;rw [Zq,Yf] at cp b3 c1;have ci:=cf _ (Zw _ (Za.mpr rfl));have dy: ∀z∈gs,StT K H' z.1 z.2:=λ z W=>cf z (Ym _ W)
   dsimp only at ci;have bp:=cc st (hC.rW st (Zw _ (Za.mpr rfl)));symm;refine eF (SqL.of ag) ?_;symm;refine s_pop ag ?_;symm;have n1:O≠wt:=bw bg ag (by intro z;cases z);have n2:co≠wt:=bw bb ag (by intro z;cases z);have n3:co≠O:=bw bb bg (by intro z;cases z);have a5:=sb.set (p:=wt) (o:=HO.lst (gs.map λ z:Addr×Sd=>V.ref z.1)) (by simp);have ac:upd H' wt (HO.lst (gs.map λ z:Addr×Sd=>V.ref z.1)) O=some (bx O (bR zs)):=by rw [aq n1];show bg
   have ae:upd H' wt (HO.lst (gs.map λ z:Addr×Sd=>V.ref z.1)) co=some (.dT (cs.map λ c=>(qX c.1,V.ref c.2))):=by rw [aq n2];show bb
   have as:upd H' wt (HO.lst (gs.map λ z:Addr×Sd=>V.ref z.1)) wt=some (.lst (gs.map λ z:Addr×Sd=>V.ref z.1)):=ao;have nt: ∀ {xs:List V} l,HO.lst xs≠ .tup l:=λ l z=>by cases z
   have ab: ∀z∈zs,z.2.2≠wt/\GzT K (upd H' wt (HO.lst (gs.map λ z:Addr×Sd=>V.ref z.1))) ls wss z:=λ z W=>#[(ax z W).1,(ax z W).2.1.keep ag nt,(ax z W).2.2.keep ag nt (ax z W).1]
   have ai:StT K (upd H' wt (HO.lst (gs.map λ z:Addr×Sd=>V.ref z.1))) sa st:=ci.keep ag nt;have ar: ∀z∈gs,StT K (upd H' wt (HO.lst (gs.map λ z:Addr×Sd=>V.ref z.1))) z.1 z.2:=λ z W=>(dy z W).keep ag nt
   have av: ∀c∈cs,upd H' wt (HO.lst (gs.map λ z:Addr×Sd=>V.ref z.1)) c.2=some (.dK (ye (yd c.1 ls))):=λ c mc=>by rw [aq (bw (cx c mc) ag (by intro z;cases z))];show cx c mc
   generalize upd H' wt (HO.lst (gs.map λ z:Addr×Sd=>V.ref z.1))=H5 at a5 ac ae as ab ai ar av ⊢;have S5:=a5.off b2;refine#[O,_,rfl,SGet.of ac (vW λ z W=>(ab z W).2) ai.a,?_];by_cases m:st∈zs.map (·.2.1)
   .obtain ⟨v,ev⟩:=mV m;rw [ev];symm;change if (!true)=true then _ else _
    symm;show b3 _ _ _ () #[a5,zs,gs,cs,_,ac,ab,as,ar,ae,av,hC.skip m,d2,(),rfl,rfl]
   .have ev:=gP m;rw [ev];symm;change if (!false)=true then _ else _
    rw [if_pos (show(!false)=true from rfl)];have ea:st.2.2.length<=8:=by
     let#[_,_,p,mp,d,_,e]:=bp;rw [e,List.length_drop];have:=da p mp;rfl'
    walk_at "ns";with_reducible refine jF (λ σ H6=>Sb [co,O,wt] H1 H6/\ ∃ (cs:List (List Nat×Addr)) (ca:Addr),H6 O=some (bx O (bR zs))/\(∀z∈zs,z.2.2≠wt/\GzT K H6 ls wss z)/\H6 wt=some (.lst (gs.map λ z:Addr×Sd=>V.ref z.1))/\(∀z∈gs,StT K H6 z.1 z.2)/\StT K H6 sa st/\H6 co=some (.dT (cs.map λ c=>(qX c.1,V.ref c.2)))/\(∀c∈cs,H6 c.2=some (.dK (ye (yd c.1 ls))))/\cs.length<=zs.length+1/\(st.2.2,ca)∈cs/\bA (cs.map λ c=>(qX c.1,V.ref c.2)) (qX st.2.2)=some (V.ref ca)/\σ=[some (.ref f),some (.ref ha),some (.ref wa),some (.ref co),some (.ref O),some (.ref wt),some (.ref sa)]) ?_ ?_
    .rintro σ H6 ⟨dk,ce,ca,c9,ay,b0,df,a3,Y,br,c0,b6,al,rfl⟩;have S6:=dk.off b2;let#[sc,e1,e2]:=id a3;let#[#[i1,i2],_,_]:=id bp;let#[r,hr]: ∃r:Nat,st.1=(r:Int):=#[st.1.toNat,()];have cy:wss[r]? =some (wss.getD st.1.toNat []):=by
      rw [hr,Yk,Zr,Ze ()];rfl
     have cn:=Zf cy;have d4:=ap _ cn;symm;refine jG e1 ?_;symm;refine#[co, .ref ca,rfl,by rw [<- al];show DGet.t (k:=qX st.2.2) Y (by rw [vU];show e2),?_];symm;refine#[wa,ca,sa,ls,wss,st,_,r,rfl,hW.same S6,br _ b6,a3,hr,cy,cb _ cn,(),λ sp H7 s7 dc cm=> ?_];symm;have ad:=s7.get c9;have cz:=s7.get b0;have de:=s7.get Y;have b1:=a3.same s7;have dt:sp≠wt:=λ e=>by rw [e,b0] at dc;cases dc
     refine#[O,_,rfl,SPut.of ad (vW λ z W=>(ay z W).2.same s7) b1.a (by unfold bR;rw [Qr];rfl'),?_];rw [mQ ev];have a9: ∀ {P:PySem.Heap->Prop} l,HO.ext P≠ .tup l:=λ l z=>by cases z
     have c5:bR zs++[(sa,fD st,V.ref sp)]=bR (zs++[(sa,st,sp)]):=by unfold bR;rw [Zg];rfl
     have c4:=(dk.same s7).set (p:=O) (o:=bx O (bR zs++[(sa,fD st,V.ref sp)])) (by simp);have a6:upd H7 O (bx O (bR zs++[(sa,fD st,V.ref sp)])) O=some (bx O (bR zs++[(sa,fD st,V.ref sp)])):=ao;have a8:upd H7 O (bx O (bR zs++[(sa,fD st,V.ref sp)])) wt=some (.lst (gs.map λ z:Addr×Sd=>V.ref z.1)):=by rw [aq n1.symm];show cz
     have bn:upd H7 O (bx O (bR zs++[(sa,fD st,V.ref sp)])) co=some (.dT (ce.map λ c=>(qX c.1,V.ref c.2))):=by rw [aq n3];show de
     have a4:StT K (upd H7 O (bx O (bR zs++[(sa,fD st,V.ref sp)]))) sa st:=b1.keep ad a9;have bv: ∀z∈gs,StT K (upd H7 O (bx O (bR zs++[(sa,fD st,V.ref sp)]))) z.1 z.2:=λ z W=>((df z W).same s7).keep ad a9
     have bi: ∀c∈ce,upd H7 O (bx O (bR zs++[(sa,fD st,V.ref sp)])) c.2=some (.dK (ye (yd c.1 ls))):=λ c mc=>by
      have:=s7.get (br c mc);rw [aq (bw this ad (by intro z;cases z))];show this
     have dg: ∀ {a xs},SsT K H7 a xs->a≠O:=λ h=>by
      let#[us,_,u2,_]:=h;show bw u2 ad (by intro z;cases z)
     have af: ∀z∈zs++[(sa,st,sp)],z.2.2≠wt/\GzT K (upd H7 O (bx O (bR zs++[(sa,fD st,V.ref sp)]))) ls wss z:=λ z W=>by
      rcases Zp.mp W with W | W
      .have h7:=(ay z W).2.same s7;show#[(ay z W).1,h7.1.keep ad a9,h7.2.keep ad a9 (dg h7.2)]
      .rw [Za.mp W];show#[dt,a4,cm.keep ad a9 (dg cm)]
     generalize upd H7 O (bx O (bR zs++[(sa,fD st,V.ref sp)]))=H8 at c4 a6 a8 bn a4 bv bi af ⊢;symm;refine eF (SqL.of a8) ?_;symm;refine#[O, .ref sp,rfl,by rw [<- zy (b:=sa) (v:=V.ref sp) ev];show SGet.of a6 (by rw [c5];show vW λ z W=>(af z W).2) a4.a,?_];symm;let#[us,u1,u2,u3]:=(af _ (Zw _ (Za.mpr rfl))).2.2;dsimp only at u1 u2;have d8:us.length=(wss.getD st.1.toNat []).length:=by
      have:=Yc List.length u1;rw [Qr,Qr] at this;show this
     let#[ps,ep,cv]:=vV u3;have d6:ps.length=us.length:=by rw [<- ep,Qr]
     refine JN (λ p:Uz=>V.ref p.1.1) (zs:=ps) (SqL.of (by rw [u2,<- ep,Zn];rfl)) () (λ p:Uz=>V.ref p.2) ?_ λ nl dl=> ?_
     .rintro i p hi A hA;symm;show iI (SqT.of (cv p (Zf hi)).1) (aP (j:=2) (v:= .ref p.2) rfl) hA
     have s9:Same H8 (upd H8 nl (HO.lst (ps.map λ p:Uz=>V.ref p.2))):=aB dl _;have e9:upd H8 nl (HO.lst (ps.map λ p:Uz=>V.ref p.2)) nl=some (.lst (ps.map λ p:Uz=>V.ref p.2)):=ao;generalize upd H8 nl (HO.lst (ps.map λ p:Uz=>V.ref p.2))=H9 at s9 e9 ⊢;have ah:=s9.get a8;symm;refine tW ah e9 (by rw [Qr,Qr];rfl') ?_;symm;have dz:(ps.map λ p:Uz=>(p.2,p.1.2.2.2)).map (·.2)=O3 wss st:=by
      rw [Zn];have:ps.map ((λ x:Addr×Sd=>x.2)∘λ p:Uz=>(p.2,p.1.2.2.2))=(ps.map (·.1)).map (λ u:Addr×Str×Nat×Sd=>u.2.2.2):=by rw [Zn];rfl
      rw [this,ep];have:=Yc (List.map λ x:Str×Nat×Sd=>x.2.2) u1;rw [Zn,Zn] at this;show this
     refine b3 ((50000-(zs++[(sa,st,sp)]).length)*19+(gs++ps.map λ p:Uz=>(p.2,p.1.2.2.2)).length) _ _ ?_ #[(c4.same s9).set (by simp),zs++[(sa,st,sp)],gs++ps.map (λ p:Uz=>(p.2,p.1.2.2.2)),ce,_,by rw [aq n1,<- c5];show s9.get a6,λ z W=>#[(af z W).1,((af z W).2.1.same s9).keep ah nt,((af z W).2.2.same s9).keep ah nt (af z W).1],by rw [ao,Zg,Zn];rfl,λ z W=> ?_,by rw [aq n2];show s9.get bn,λ c mc=>by have:=s9.get (bi c mc);rw [aq (bw this ah (by intro z;cases z))];show this,?_,by rw [Zq,Yf];show c0,?_,rfl,rfl]
     .rw [Zq,Yf,Zq,Qr];have:zs.length<50000:=by
       have h1:=dw (hC.take m).nd λ x mx=>(cc x ((hC.take m).rF x mx)).mem
       rw [Ej,Zq,Yf,Qr] at h1;rfl'
      rfl'
     .rcases Zp.mp W with W | W
      .exact ((bv z W).same s9).keep ah nt
      .obtain ⟨p,mp,rfl⟩:=Zb.mp W;show((cv p mp).2.same s9).keep ah nt
     .rw [Zg,Zg,dz];show hC.take m
     .rw [Zq,Qr,Zq,Yf];rfl'
    .intro Nj hJ;let#[sc,e1,e2]:=id ai;symm;refine jG e1 ?_;symm;refine#[co,_,rfl,DGet.t (k:=qX st.2.2) ae (by rw [vU];show e2),?_];by_cases mc:st.2.2∈cs.map (·.1)
     .obtain ⟨ca,b6,al⟩:=Eg mc;rw [al];symm;change if (!true)=true then _ else _
      symm;show hJ _ _ #[a5,cs,ca,ac,ab,as,ar,ai,ae,av,(),b6,al,rfl]
     .have b5:=yf mc;rw [b5];symm;change if (!false)=true then _ else _
      symm;refine jG e1 ?_;symm;refine#[f,sc,h,ls,st.2.2,rfl,((hF.same s1).same S5).t,wf,SqT.of e2,(),λ ca H6 s6 ec al=> ?_];symm;refine jG (s6.get e1) ?_;symm;have Y:=s6.get ae;have be: ∀ {xs:List (List Key×V)} l,HO.dT xs≠ .tup l:=λ l z=>by cases z
      refine#[co,_,rfl,DPut.t (k:=qX st.2.2) Y (by rw [vU];show s6.get e2) (Yj (by rw [Qr];rfl':_<=50000) (by decide)),?_];rw [dM _ b5];symm;refine hJ _ _ #[(a5.same s6).set (by simp),cs++[(st.2.2,ca)],ca,by rw [aq n3.symm];show s6.get ac,λ z W=>#[(ab z W).1,((ab z W).2.1.same s6).keep Y be,((ab z W).2.2.same s6).keep Y be ?_],by rw [aq n2.symm];show s6.get as,λ z W=>((ar z W).same s6).keep Y be,(ai.same s6).keep Y be,by rw [ao,Zg];rfl,λ c a7=> ?_,by rw [Zq,Yf];rfl',by simp,by rw [Zg];show(ou _ _ _ _ b5).trans (if_pos rfl),rfl]
      .obtain ⟨us,_,u2,_⟩:=(ab z W).2.2;show bw (s6.get u2) Y (by intro z;cases z)
      .rcases Zp.mp a7 with a7 | a7
       .have:=s6.get (av c a7);rw [aq (bw this Y (by intro z;cases z))];show this
       .rw [Za.mp a7];rw [aq (bw al Y (by intro z;cases z))];show al
  .have e0:fs=[]:=List.eq_nil_of_length_eq_zero ();subst e0;symm;show q O H' N zs (s1.trans S') (s1.free bl) hN bg (λ z W=>(ax z W).2) dq hC.nd hC.fin
 .rintro σ H Q Q' hq ⟨v,hv,x,n,e,hl,i,j,e1,e2,k,e3,z⟩;show#[v,hv,x,n,e,hl,i,j,e1,e2,k,e3,hq _ _ z]
abbrev Jk (st:Sd->List (Str×Nat×Sd)) (xs:List Sd) (c:Nat) (x y:Sd):Prop:=x∈xs/\ ∃s,(s,c,y)∈st x
abbrev QB (ls:List (Str×List Nat)) (wss:List (List (Str×List Nat×Int))) (x:Sd):List (Str×Nat×Sd):=(wss.getD x.1.toNat []).map (Ef ls x)
abbrev Bq:=Addr×Nat×Addr×Sd
variable {u:Bq} {U:Addr->List Bq}
def BqT (K:W.Frag) (H:Hp) (b:Bq):Prop:=H b.1=some (.tup [.int (b.2.1:Nat), .ref b.2.2.1])/\StT K H b.2.2.1 b.2.2.2
theorem dU {α β:Type} {f:α->β}: ∀ {l:List α} {x y:α},(l.map f).Nodup->x∈l->y∈l->f x=f y->x=y
 | z::l,x,y,h,mx,my,e=>by
  rw [Zl,List.nodup_cons] at h;rcases Zk.mp mx with ex | mx<;>rcases Zk.mp my with ey | my
  .rw [ex,ey]
  .exact absurd (Zb.mpr #[y,my,by rw [<- e,ex]]) h.1
  .exact absurd (Zb.mpr #[x,mx,by rw [e,ey]]) h.1
  .exact dU h.2 mx my e
theorem dB {ps:List Addr} {H1:Hp} {o:HO} (s:Sb ps H H1) (h:p∈ps\/H p=none):Sb ps H (upd H1 p o):=λ b u O e=>by
 rw [aq (λ z=>by
  rcases h with h | h
  .exact O (z▸h)
  .rw [z,h] at e;cases e)]
 show s b u O e
structure BkC (K:W.Frag) (H H':Hp) (ba:Addr) (gz bz:List Gz) (U:Addr->List Bq) (P:Nat->Sd->Sd->Prop) (m:Nat):Prop where
 d:H' ba=some (bx ba (bR bz))
 k:bz.map (λ b=>(b.1,b.2.1))=gz.map (λ z=>(z.1,z.2.1))
 n:(bz.map (·.2.2)).Nodup
 f: ∀b∈bz,H b.2.2=none/\b.2.2≠ba
 c: ∀b∈bz,H' b.2.2=some (.lst ((U b.2.2).map λ u=>V.ref u.1))/\(∀u∈U b.2.2,BqT K H' u)/\ ∀c x,(c,x)∈(U b.2.2).map (λ u=>(u.2.1,u.2.2.2))↔P c x b.2.1
 s:(bz.map λ b=>(U b.2.2).length).sum<=m
theorem BqT.same {K:W.Frag} (h:BqT K H u) (s:Same H H'):BqT K H' u:=#[s.get h.1,h.2.same s]
theorem BqT.keep {K:W.Frag} {o o':HO} (h:BqT K H u) (e:H p=some o) (ht: ∀l,o≠ .tup l):BqT K (upd H p o') u:=
 #[by rw [aq (λ z=>by have:=h.1;rw [z,e] at this;show ht _ (Yi this))];show h.1,h.2.keep e ht]
theorem BkC.same {K:W.Frag} {H1 H2:Hp} {P:Nat->Sd->Sd->Prop} (h:BkC K H H1 ba gz bz U P m) (s:Same H1 H2):BkC K H H2 ba gz bz U P m:=
 ⟨s.get h.d,h.k,h.n,h.f,λ b mb=>by
  let#[e1,Y,e3]:=h.c b mb;show⟨s.get e1,λ u O=>(Y u O).same s,e3⟩,h.s⟩
theorem BkC.imp {K:W.Frag} {H1:Hp} {P:Nat->Sd->Sd->Prop} {m':Nat} (h:BkC K H H1 ba gz bz U P m) (hp: ∀c x,∀b∈bz,P c x b.2.1↔P' c x b.2.1) (hm:m<=m'):BkC K H H1 ba gz bz U P' m':=
 ⟨h.d,h.k,h.n,h.f,λ b O=>by
  let#[e1,Y,e3]:=h.c b O;show⟨e1,Y,λ c x=>(e3 c x).trans (hp c x b O)⟩,Yl h.s hm⟩
theorem Eo {α:Type} {f:α->Nat}: ∀ {l:List α} {x:α},x∈l->f x<=(l.map f).sum
 | z::l,x,m=>by
  rw [Zl,List.sum_cons];rcases Zk.mp m with e | m
  .rw [e];rfl'
  .have:=Eo (f:=f) m;rfl'
theorem yh {β:Type} {U:Addr->List β} {u:β} {a:Addr}: ∀ {bz:List Gz},(bz.map (·.2.2)).Nodup->(bz.map λ b=>(if b.2.2=a then U b.2.2++[u] else U b.2.2).length).sum<=(bz.map λ b=>(U b.2.2).length).sum+1/\(a∉bz.map (·.2.2)->(bz.map λ b=>(if b.2.2=a then U b.2.2++[u] else U b.2.2).length).sum=(bz.map λ b=>(U b.2.2).length).sum)
 | [],_=>#[by simp,λ _=>rfl]
 | v::bz,h=>by
  rw [Zl,List.nodup_cons] at h;let#[W,O]:=yh (U:=U) (u:=u) (a:=a) h.2;simp only [Zl,List.sum_cons];by_cases e:v.2.2=a
  .have:=O (by rw [<- e];show h.1);rw [if_pos e,Zq,Yf];show#[(),λ n=>absurd (Zk.mpr (.inl e.symm)) n]
  .rw [if_neg e];show#[(),λ n=>by rw [O (λ m=>n (Zs _ m))]]
theorem BkC.add {K:W.Frag} {H1:Hp} {P:Nat->Sd->Sd->Prop} (h:BkC K H H1 ba gz bz U P m) (nd:(bz.map (·.2.1)).Nodup) {b:Gz} (mb:b∈bz) (hu:BqT K H1 u):
  BkC K H (upd H1 b.2.2 (.lst (((U b.2.2).map λ u=>V.ref u.1)++[V.ref u.1]))) ba gz bz (λ a=>if a=b.2.2 then U a++[u] else U a) (λ c x y=>P c x y\/(c=u.2.1/\x=u.2.2.2/\y=b.2.1)) (m+1):=by
 let#[Y,e2,e3]:=h.c b mb;refine#[by rw [aq (Ne.symm (h.f b mb).2)];show h.d,h.k,h.n,h.f,λ v mv=> ?_,Yl (yh h.n).1 (Nat.add_le_add_right h.s 1)];by_cases e:v=b
 .subst e;rw [if_pos rfl];refine#[by rw [ao,Zg];rfl,λ w O=> ?_,λ c x=> ?_]
  .rcases Zp.mp O with O | O
   .exact (e2 w O).keep Y (λ l q=>by cases q)
   .rw [Za.mp O];show hu.keep Y (λ l q=>by cases q)
  .rw [Zg,Zp,e3];constructor
   .rintro (h | h)
    .exact .inl h
    .rw [Zl,List.map_nil,Za] at h;show .inr #[congrArg Prod.fst h,Yc Prod.snd h,rfl]
   .rintro (h | ⟨h1,h2,_⟩)
    .exact .inl h
    .exact .inr (by rw [h1,h2];simp)
 .obtain ⟨g1,g2,g3⟩:=h.c v mv;have ne:v.2.2≠b.2.2:=λ z=>e (dU h.n mv mb z)
  rw [if_neg ne];refine#[by rw [aq ne];show g1,λ w O=>(g2 w O).keep Y (λ l q=>by cases q),λ c x=> ?_];rw [g3];show#[.inl,λ h=>h.elim id λ h=>absurd (dU nd mv mb h.2.2) e]
theorem BkC.key {K:W.Frag} {H1:Hp} {P:Nat->Sd->Sd->Prop} (h:BkC K H H1 ba gz bz U P m) {b:Gz} (mb:b∈bz): ∃y∈gz,y.1=b.1/\y.2.1=b.2.1:=by
 have:(b.1,b.2.1)∈gz.map (λ z=>(z.1,z.2.1)):=by rw [<- h.k];show Zb.mpr #[b,mb,rfl]
 let#[y,Y,O]:=Zb.mp this;show#[y,Y,(Prod.mk.inj O).1,(Prod.mk.inj O).2]
theorem BkC.sb {K:W.Frag} {H1 H2:Hp} {o:Addr} {P:Nat->Sd->Sd->Prop} {od:PySem.Obj} {x:HO} (h:BkC K H H1 ba gz bz U P m) (s:Sb [o] H1 H2) (e:H1 o=some (.frz od x)):BkC K H H2 ba gz bz U P m:=by
 have O: ∀ {a:Addr} {u:HO},(∀od x,u≠ .frz od x)->H1 a=some u->H2 a=some u:=λ hu Y=>s.get (λ m=>by
  rw [Za.mp m,e] at Y;show hu _ _ (Yi Y).symm) Y
 refine#[O (λ _ _ z=>by cases z) h.d,h.k,h.n,h.f,λ b mb=> ?_,h.s];let#[e1,e2,e3]:=h.c b mb;refine#[O (λ _ _ z=>by cases z) e1,λ u mu=> ?_,e3];let#[g1,c,g2,g3]:=e2 u mu;show#[O (λ _ _ z=>by cases z) g1,c,O (λ _ _ z=>by cases z) g2,O (λ _ _ z=>by cases z) g3]
theorem vY {z:Addr×Sk×V} (h:(bR zs)[i]? =some z): ∃g,zs[i]? =some g/\z=(g.1,fD g.2.1,V.ref g.2.2):=by
 unfold bR at h;rw [Zi] at h
 cases e:zs[i]? with
 | none=>rw [e] at h;cases h
 | some g=>rw [e] at h;show#[g,rfl,(Yi h).symm]
theorem Ti {y z:Gz} (h:(zs.map (·.2.1)).Nodup) (hi:zs[i]? =some y) (hj:zs[j]? =some z) (e:y.2.1=z.2.1):i=j:=by
 let#[Y,W]:=Zj.mp hi;let#[j1,O]:=Zj.mp hj;have:=(List.nodup_iff_pairwise_ne.mp h);rcases Nat.lt_trichotomy i j with l | l | l
 .exact absurd (by rw [List.getElem_map,List.getElem_map,W,O];show e) (List.pairwise_iff_getElem.mp h i j (by rw [Qr];show Y) (by rw [Qr];show j1) l)
 .exact l
 .exact absurd (by rw [List.getElem_map,List.getElem_map,W,O];show e.symm) (List.pairwise_iff_getElem.mp h j i (by rw [Qr];show j1) (by rw [Qr];show Y) l)
theorem ik {z:Gz} (hn:(zs.map (·.2.1)).Nodup) (mz:z∈zs):cH (bR zs) (fD z.2.1)=some (V.ref z.2.2):=by
 let#[v,O]:=mV (Zb.mpr #[z,mz,rfl]);let#[b,mb]:=zx O;let#[y,Y,W]:=Zb.mp mb;have e1:y=z:=dU hn Y mz (qO (Yc (λ p:Addr×Sk×V=>p.2.1) W));subst e1;rw [O];show Yc some (Yc (λ p:Addr×Sk×V=>p.2.2) W).symm
inductive sp_f18 (K:W.Frag) (vs:List V) (H:Hp) (Q:VK) (E:XK):Prop
 | mk (oa:Addr) (gz:List Gz) (st:Sd->List (Str×Nat×Sd)) (h0:vs=[.ref oa]) (h1:Rd H oa (bx oa (bR gz))) (h2:(∀z∈gz,StT K H z.1 z.2.1/\SsT K H z.2.2 (st z.2.1)/\(st z.2.1).length<=18)) (h3:(gz.map (·.2.1)).Nodup) (h4:gz.length<=50000) (h5:(∀z∈gz,∀e∈st z.2.1,e.2.2∈gz.map (·.2.1))) (h6: ∀od ba H' (bz:List Gz) (U:Addr->List Bq),Sb [oa] H H'->H' oa=some (.frz od (bx oa (bR gz)))->H ba=none->BkC K H H' ba gz bz U (Jk st (gz.map (·.2.1))) 900000->Q (.ref ba) H'):sp_f18 K vs H Q E
abbrev Ep (K:W.Frag):TS:=
  (aG (dF (qC (aj 0)) (j5 K 2 (bO (aA 2) (bO (aA 3) jn))) (dF (dC K (aj 3)) (j5 K 3 (bO (aA 4) (bO (aA 5) (bO (aA 6) jn)))) (cC (uz K "list" cT (jj (aj 1) (aj 6)) (aa (dW (aa (aj 5) (aa (aj 2) az))) az)))))
  (bh (aj 1)))
def vZ (K:W.Frag) (E:XK) (Eh:XK):TS:=
  (aG (aM tE (aA 1))
  (aG (dF (qz (aj 0)) (aA 2) (tG (aj 1) (aj 2) (ir az)))
  (Ep K)))
theorem O7 (h:sp_f18 K vs H Q E): ∃Eh,vZ K E Eh { nx:=λ _ H'=>Q .non H',rt:=Q } (start ["onward","backward","stand","steps","sign","cost","later"] vs) H:=by
 let#[W,Y,st,rfl,hO,hG,hN,hL,hC,q]:=h;refine#[E0,?_];unfold vZ;symm;intro ba af;symm;have S0:Same H (upd H ba (bx ba [])):=aB af _;have be:Rd (upd H ba (bx ba [])) W (bx W (bR Y)):=by
  rcases hO with e | ⟨od,e⟩
  .exact .inl (S0.get e)
  .exact .inr #[od,S0.get e]
 have a9:W≠ba:=λ z=>by
  rcases hO with e | ⟨od,e⟩<;>(rw [z,af] at e;cases e)
 have as: ∀ {H':Hp},Sb [W] H H'-> ∀ {a:Addr} {l:List V},H a=some (.tup l)->H' a=some (.tup l):=λ sb a l e=>sb.get (λ m=>by
  rw [Za.mp m] at e;rcases hO with g | ⟨od,g⟩<;>(rw [g] at e;cases e)) e
 have ae: ∀ {H':Hp},Sb [W] H H'-> ∀ {a:Addr} {x:Sd},StT K H a x->StT K H' a x:=λ sb a x h=>by
  let#[c,e1,e2]:=h;show#[c,as sb e1,as sb e2]
 have ax: ∀ {H':Hp} {o:HO},Sb [W] H H'->H' W=some o-> ∀ {p:Addr},H' p=none->H p=none:=λ {H' o} sb eo {p} hp=>by
  cases e:H p with
  | none=>rfl
  | some u=>
   by_cases z:p=W
   .rw [z,eo] at hp;cases hp
   .rw [sb.get (by simpa using z) e] at hp;cases hp
 refine Np be (λ od i σ H'=> ∃bz:List Gz,BkC K H H' ba (Y.take i) bz (λ _=>[]) (λ _ _ _=>False) 0/\Sb [W] H H'/\H' W=some (.frz od (bx W (bR Y)))/\ ∃o1 o2 o3 o4 o5,σ=[some (.ref W),some (.ref ba),o1,o2,o3,o4,o5]) ?_ ?_ ?_ ?_
 .intro od H1 sb e1;refine#[[],#[?_,rfl,by simp,by simp,by simp,by simp],λ b o nb e=>sb b o nb (S0.get e),e1,_,_,_,_,_,rfl];show sb.get (by simpa using Ne.symm a9) ao
 .rintro od i σ H' ⟨bz,_,_,e,_⟩;show e
 .rintro od i z σ H' hi ⟨bz,hB,sb,eo,o1,o2,o3,o4,o5,rfl⟩;let#[g,hg,rfl]:=vY hi;have mg:=Zf hg;symm;intro p hp;symm;have al:=ax sb eo hp;have S1:Same H' (upd H' p (.lst [])):=aB hp _;have bi:i<Y.length:=(Zj.mp hg).1;have b0:bz.length<=50000:=by
   have:=Yc List.length hB.k;rw [Qr,Qr,Yd] at this;rfl'
  have av: ∀b∈bz,StT K H b.1 b.2.1:=λ b O=>by
   let#[y,my,ey]:=hB.key O;have:=(hG y (List.mem_of_mem_take my)).1;rw [ey.1,ey.2] at this;show this
  have ev:cH (bR bz) (fD g.2.1)=none:=gP λ m=>by
   let#[b,O,eb]:=Zb.mp m;let#[y,my,ey]:=hB.key O;let#[n,hn,br]:=List.mem_take_iff_getElem.mp my;have h1:Y[n]? =some y:=by rw [Ze (),br]
   have:=Ti hN h1 hg (ey.2.trans eb);rfl'
  refine#[ba,_,rfl,SPut.of (S1.get hB.d) (λ q mq=> ?_) ((ae sb (hG g mg).1).same S1).a (by unfold bR;rw [Qr];rfl'),?_]
  .obtain ⟨b,O,rfl⟩:=Zb.mp mq;show((ae sb (av b O)).same S1).a
  rw [mQ ev];have a2:p≠ba:=λ z=>by rw [z,hB.d] at hp;cases hp
  have bq:bR bz++[(g.1,fD g.2.1,V.ref p)]=bR (bz++[(g.1,g.2.1,p)]):=by unfold bR;rw [Zg];rfl
  have aw:Y.take (i+1)=Y.take i++[g]:=by rw [Yg,hg];rfl
  have bv: ∀ {P:PySem.Heap->Prop} l,HO.ext P≠ .tup l:=λ l z=>by cases z
  symm;refine#[bz++[(g.1,g.2.1,p)],#[by rw [ao,bq],?_,?_,λ b O=> ?_,λ b O=> ?_,by rw [Zg,List.sum_append];show Yl (Nat.add_le_add_right hB.s _) (by simp)],dB (dB sb (.inr al)) (.inr af),by rw [aq a9];show S1.get eo,_,_,_,_,_,rfl]
  .rw [aw,Zg,Zg,hB.k];rfl
  .rw [Zg,Yt];refine#[hB.n,by simp,λ a ma c mc e=> ?_];let#[b,O,rfl]:=Zb.mp ma;let#[e1,_]:=hB.c b O;rw [Zl,List.map_nil,Za] at mc;rw [e,mc,hp] at e1;cases e1
  .rcases Zp.mp O with O | O
   .exact hB.f b O
   .rw [Za.mp O];show#[al,a2]
  .rcases Zp.mp O with O | O
   .obtain ⟨e1,e2,e3⟩:=hB.c b O;show#[by rw [aq (hB.f b O).2];show S1.get e1,λ u mu=>((e2 u mu).same S1).keep (S1.get hB.d) bv,e3]
   .rw [Za.mp O];show#[by rw [aq a2,ao];rfl,λ u mu=>(by cases mu),λ c x=>by simp]
 .rintro od σ H' ⟨bz,hB,sb,eo,o1,o2,o3,o4,o5,rfl⟩;symm;have ap:Y.take (bR Y).length=Y:=by unfold bR;rw [Qr];show Yq
  rw [ap] at hB;have hk:=hB.k;have a3:(bz.map (·.2.1)).Nodup:=by
   have:=Yc (List.map Prod.snd) hk;rw [Zn,Zn] at this;rw [show bz.map (·.2.1)=Y.map (·.2.1) from this];show hN
  have av: ∀b∈bz,StT K H b.1 b.2.1:=λ b O=>by
   let#[y,my,ey]:=hB.key O;have:=(hG y my).1;rw [ey.1,ey.2] at this;show this
  refine Nq (.inr #[od,eo]) (λ od i σ H'=> ∃U,BkC K H H' ba Y bz U (Jk st ((Y.take i).map (·.2.1))) (18*i)/\Sb [W] H H'/\H' W=some (.frz od (bx W (bR Y)))/\ ∃o1 o2 o3 o4 o5,σ=[some (.ref W),some (.ref ba),o1,o2,o3,o4,o5]) ?_ ?_ ?_ ?_
  .intro ag H1 ac e1;show#[_,(hB.sb ac eo).imp (λ c x b O=>by simp) (Zm _),λ b o nb e=>ac b o nb (sb b o nb e),e1,_,_,_,_,_,rfl]
  .rintro od i σ H' ⟨_,_,_,e,_⟩;show e
  .rintro ag i z p σ H1 hi ⟨U,ah,ac,ai,o1,o2,o3,o4,o5,rfl⟩ hp;let#[g,hg,rfl]:=vY hi;have mg:=Zf hg;have al:=ax ac ai hp;have S1:Same H1 (upd H1 p (.tup [.ref g.1, .ref g.2.2])):=aB hp _;have a7:=ah.same S1;have ar:Sb [W] H (upd H1 p (.tup [.ref g.1, .ref g.2.2])):=dB ac (.inr al);have a8:=S1.get ai;refine dO (SqT.of ao) rfl ?_;symm;let#[us,u1,u2,u3]:=(hG g mg).2.1;let#[ps,ep,bp]:=vV u3;have ay:ps.map (λ p:Uz=>p.1.2)=st g.2.1:=by
    rw [<- u1,<- ep,Zn];rfl
   have b1:ps.length<=18:=by
    have:=Yc List.length ay;rw [Qr] at this;have:=(hG g mg).2.2;rfl'
   have bn:g.2.2≠W:=λ z=>by
    rw [z] at u2;rcases hO with e | ⟨od,e⟩<;>(rw [e] at u2;cases u2)
   have a1: ∀ {H':Hp},Sb [W] H H'->SqL K H' g.2.2 (ps.map λ p:Uz=>V.ref p.1.1):=λ sb=>SqL.of (by
    rw [sb.get (by simpa using bn) u2,<- ep,Zn];rfl)
   generalize upd H1 p (.tup [.ref g.1, .ref g.2.2])=H2 at a7 ar a8 ⊢;have aw:Y.take (i+1)=Y.take i++[g]:=by rw [Yg,hg];rfl
   refine jV (λ p:Uz=>V.ref p.1.1) (zs:=ps) (a1 ar) (λ j σ H'=> ∃U,BkC K H H' ba Y bz U (λ c x y=>(x∈(Y.take i).map (·.2.1)/\ ∃s,(s,c,y)∈st x)\/(x=g.2.1/\ ∃s,(s,c,y)∈(ps.take j).map (λ p:Uz=>p.1.2))) (18*i+j)/\Sb [W] H H'/\H' W=some (.frz ag (bx W (bR Y)))/\ ∃o1 o2 o3,σ=[some (.ref W),some (.ref ba),some (.ref g.1),some (.ref g.2.2),o1,o2,o3])
    #[_,a7.imp (λ c x b O=>by simp) (Zm _),ar,a8,_,_,_,rfl] ?_ ?_ ?_
   .rintro j σ H3 ⟨_,_,ab,_⟩;show a1 ab
   .rintro j u σ H3 hj ⟨U,ad,ab,am,o1,o2,o3,rfl⟩;let#[p1,p2]:=bp u (Zf hj);refine dO (SqT.of (as ab p1)) rfl ?_;symm;have b2:j<ps.length:=(Zj.mp hj).1;have bi:i<Y.length:=(Zj.mp hg).1;have mu:u.1.2∈st g.2.1:=by rw [<- ay];show Zb.mpr #[u,Zf hj,rfl]
    let#[b,O,eb]: ∃b∈bz,b.2.1=u.1.2.2.2:=by
     have hm:=hC g mg _ mu;have:=Yc (List.map Prod.snd) hk;rw [Zn,Zn] at this;rw [<- show bz.map (·.2.1)=Y.map (·.2.1) from this] at hm;let#[b,O,eb]:=Zb.mp hm;show#[b,O,eb]
    refine⟨ba, .ref b.2.2,rfl,by rw [<- ik a3 O,eb];show SGet.of ad.d (λ q mq=>by
     let#[b',bb,rfl]:=Zb.mp mq;show(ae ab (av b' bb)).a) (ae ab p2).a,?_⟩
    let#[v1,v2,v3]:=ad.c b O;have v4:=Yl (Eo (f:=λ b:Gz=>(U b.2.2).length) O) ad.s;refine eF (SqL.of v1) ?_;symm;intro r hr;have bg:=ax ab am hr;have S4:Same H3 (upd H3 r (.tup [.int (u.1.2.2.1:Nat), .ref g.1])):=aB hr _;have a6:=ad.same S4;have bd:BqT K (upd H3 r (.tup [.int (u.1.2.2.1:Nat), .ref g.1])) (r,u.1.2.2.1,g.1,g.2.1):=#[ao,(ae ab (hG g mg).1).same S4];have a4:=S4.get v1;have a5:Sb [W] H (upd H3 r (.tup [.int (u.1.2.2.1:Nat), .ref g.1])):=dB ab (.inr bg);have bc:=S4.get am;generalize upd H3 r (.tup [.int (u.1.2.2.1:Nat), .ref g.1])=H4 at a6 bd a4 a5 bc ⊢;symm;refine iJ a4 (by rw [Qr];rfl') ?_;symm;have bo:W≠b.2.2:=λ z=>by
     have:=(hB.f b O).1;rw [<- z] at this;rcases hO with e | ⟨od,e⟩<;>(rw [this] at e;cases e)
    have bl:ps.take (j+1)=ps.take j++[u]:=by rw [Yg,hj];rfl
    refine#[_,(a6.add a3 O bd).imp (λ c x b' bb=> ?_) (),dB a5 (.inr (hB.f b O).1),by rw [aq bo];show bc,_,_,_,rfl];rw [bl,Zg,or_assoc];refine or_congr Iff.rfl ?_;simp only [Zp,Zl,List.map_nil,Za];constructor
    .rintro (⟨h1,s,h2⟩ | ⟨h1,h2,h3⟩)
     .exact #[h1,s, .inl h2]
     .exact #[h2,u.1.2.1, .inr (by rw [h1,h3,eb])]
    .rintro ⟨h1,s,h2 | h2⟩
     .exact .inl #[h1,s,h2]
     .have e1:=Yc (λ w:Str×Nat×Sd=>w.2.1) h2;have e2:=Yc (λ w:Str×Nat×Sd=>w.2.2) h2;show .inr #[e1,h1,e2.trans eb.symm]
   .rintro σ H3 ⟨U,ad,ab,am,o1,o2,o3,rfl⟩;symm;refine#[U,ad.imp (λ c x b O=> ?_) (),ab,am,_,_,_,_,_,rfl];change _↔(x∈(Y.take (i+1)).map (·.2.1)/\ ∃s,(s,c,b.2.1)∈st x);rw [Yq,ay,aw,Zg,Zp,Zl,List.map_nil,Za,or_and_right];show or_congr Iff.rfl #[λ h=>#[h.1,by rw [h.1];show h.2],λ h=>#[h.1,by rw [<- h.1];show h.2]]
  .rintro ag σ H1 ⟨U,ah,ac,ai,o1,o2,o3,o4,o5,rfl⟩;symm;rw [ap] at ah;show q ag ba H1 bz U ac ai af (ah.imp (λ _ _ _ _=>Iff.rfl) (by unfold bR;rw [Qr];rfl'))
def nO (es:List Int) (st:Sd):Bool:=decide (st.2.2.length=0)&&(decide (st.1∈es)&&decide (st.2.1∈es))
inductive sp_f33 (K:W.Frag) (vs:List V) (H:Hp) (Q:VK) (E:XK):Prop
 | mk (sa ea:Addr) (st:Sd) (es:List Int) (h0:vs=[.ref sa, .ref ea]) (h1:StT K H sa st) (h2:SqT K H ea (es.map V.int)) (h3:Q (.bl (nO es st)) H):sp_f33 K vs H Q E
def w6 (K:W.Frag) (E:XK) (Eh:XK):TS:=
  (bh (lD (aK zT (cG (bT K) (aa (aK (aV K) (aj 0) (tC (V.int 2))) az)) (tC (V.int 0))) (lD (aK (QQ K false) (aK (aV K) (aj 0) (tC (V.int 0))) (aj 1)) (aK (QQ K false) (aK (aV K) (aj 0) (tC (V.int 1))) (aj 1)))))
theorem O8 (h:sp_f33 K vs H Q E): ∃Eh,w6 K E Eh { nx:=λ _ H'=>Q .non H',rt:=Q } (start ["stand","ends"] vs) H:=by
 let#[sa,ea,st,es,rfl,#[c,Y,h2],hE,q]:=h;refine#[E0,?_];unfold w6;symm;refine jG Y ?_;symm;refine c7 (SqT.of h2) ?_;rw [show(nv st.2.2).length=st.2.2.length from Qr _];symm;by_cases W:st.2.2.length=0
 .refine CT () ?_;symm;refine gm Y ?_;symm;refine SN (.inr hE) rfl (tU _) ?_;rw [xW];by_cases O:st.1∈es
  .rw [Zz O];symm;refine dR Y ?_;symm;refine SN (.inr hE) rfl (tU _) ?_;rw [xW];have:nO es st=decide (st.2.1∈es):=by unfold nO;rw [Zz W,Zz O];rfl
   rw [<- this];show q
  .rw [Zv O];symm;have:nO es st=false:=by unfold nO;rw [Zz W,Zv O];rfl
   rw [<- this];show q
 .refine CV () ?_;have:nO es st=false:=by unfold nO;rw [Zv W];rfl
  rw [<- this];show q
abbrev Qz:=(Nat×Nat)×Addr×List (Addr×Sd)
def gf (k:Nat×Nat):List Key:=[Sum.inl (k.1:Int),Sum.inl (k.2:Int)]
theorem qT {l:Nat×Nat} (h:gf k=gf l):k=l:=by
 let#[a,b]:=k;let#[c,d]:=l;unfold gf at h;injection h with h1 h2
 injection h2 with h3 _
 injection h1 with h1
 injection h3 with h3
 dsimp only at h1 h3;rw [show a=c by rfl',show b=d by rfl']
def jK (ws:List Qz):List (List Key×V):=ws.map λ w=>(gf w.1,V.ref w.2.1)
structure WtT (K:W.Frag) (H:Hp) (wa:Addr) (ws:List Qz):Prop where
 d:H wa=some (.dT (jK ws))
 l: ∀w∈ws,H w.2.1=some (.lst (w.2.2.map λ z=>V.ref z.1))
 n:(ws.map (·.2.1)).Nodup
 k:(ws.map (·.1)).Nodup
 s: ∀w∈ws,∀z∈w.2.2,StT K H z.1 z.2
def Wait (ws:List Qz) (k:Nat×Nat) (x:Sd):Prop:= ∃w∈ws,w.1=k/\x∈w.2.2.map (·.2)
def u9 (ws:List Qz) (k:Nat×Nat) (z:Addr×Sd):List Qz:=ws.map λ w=>if w.1=k then (w.1,w.2.1,w.2.2++[z]) else w
theorem O9 (ws:List Qz) (k:Nat×Nat) (z:Addr×Sd):jK (u9 ws k z)=jK ws:=by
 unfold jK u9;rw [Zn];refine List.map_congr_left λ w _=> ?_
 change(gf (if w.1=k then (w.1,w.2.1,w.2.2++[z]) else w).1,V.ref (if w.1=k then (w.1,w.2.1,w.2.2++[z]) else w).2.1)=_;split<;>rfl
theorem jL (ws:List Qz) (k:Nat×Nat) (z:Addr×Sd):(u9 ws k z).map (·.1)=ws.map (·.1)/\(u9 ws k z).map (·.2.1)=ws.map (·.2.1):=by
 unfold u9;rw [Zn,Zn];show#[List.map_congr_left λ w _=>by change(if w.1=k then (w.1,w.2.1,w.2.2++[z]) else w).1=_;split<;>rfl,List.map_congr_left λ w _=>by change(if w.1=k then (w.1,w.2.1,w.2.2++[z]) else w).2.1=_;split<;>rfl]
theorem zB {ws:List Qz} {z:Addr×Sd} (h:k∈ws.map (·.1)) (l:Nat×Nat) (x:Sd):Wait (u9 ws k z) l x↔Wait ws l x\/(l=k/\x=z.2):=by
 constructor
 .rintro ⟨w,W,rfl,O⟩;let#[v,Y,rfl]:=Zb.mp W;by_cases e:v.1=k
  .rw [if_pos e] at O ⊢;rw [Zg,Zp] at O;rcases O with O | O
   .exact .inl #[v,Y,rfl,O]
   .exact .inr #[e,by simpa using O]
  .rw [if_neg e] at O ⊢;show .inl #[v,Y,rfl,O]
 .rintro (⟨w,W,rfl,O⟩ | ⟨rfl,rfl⟩)
  .refine #[_,Zb.mpr #[w,W,rfl],?_,?_]
   .split<;>rfl
   .split
    .rw [Zg,Zp];show .inl O
    .exact O
  .obtain ⟨w,W,rfl⟩:=Zb.mp h;show#[_,Zb.mpr #[w,W,rfl],by rw [if_pos rfl],by rw [if_pos rfl,Zg];simp]
theorem lq {k:Nat×Nat}: ∀ {O:List Qz} {w:Qz},(O.map (·.1)).Nodup->w∈O->w.1=k->bA (jK O) (gf k)=some (V.ref w.2.1)
 | v::O,w,hn,m,e=>by
  rw [Zl,List.nodup_cons] at hn;change bA ((gf v.1,V.ref v.2.1)::jK O) (gf k)=_;by_cases h:v.1=k
  .rcases Zk.mp m with rfl | m
   .rw [h];simp [bA]
   .exact absurd (Zb.mpr #[w,m,e.trans h.symm]) hn.1
  .rcases Zk.mp m with rfl | m
   .exact absurd e h
   .have:=lq hn.2 m e;rw [<- this];have W:gf v.1≠gf k:=λ z=>h (qT z)
    simp [bA,W]
theorem uc {k:Nat×Nat}: ∀ {O:List Qz},k∉O.map (·.1)->bA (jK O) (gf k)=none
 | [],_=>rfl
 | v::O,h=>by
  rw [Zl,Zk,not_or] at h;change bA ((gf v.1,V.ref v.2.1)::jK O) (gf k)=_;have:=uc h.2;rw [<- this];have W:gf v.1≠gf k:=λ z=>h.1 (qT z).symm
  simp [bA,W]
inductive sp_f28 (K:W.Frag) (vs:List V) (H:Hp) (Q:VK) (E:XK):Prop
 | mk (wa ra ba:Addr) (ws:List Qz) (r:Nat×Nat) (bs:List Bq) (h0:vs=[.ref wa, .ref ra, .ref ba]) (h1:WtT K H wa ws) (h2:H ra=some (.tup [.int (r.1:Nat), .int (r.2:Nat)])) (h3:H ba=some (.lst (bs.map λ b=>V.ref b.1))) (h4:ba∉ws.map (·.2.1)) (h5:(∀b∈bs,BqT K H b)) (h6:ws.length+bs.length<=1000000) (h7:(∀w∈ws,w.2.2.length+bs.length<=1000000)) (h8: ∀H' (ws':List Qz),WtT K H' wa ws'->Sb (wa::ws.map (·.2.1)) H H'->(∀w∈ws',w.2.1∈ws.map (·.2.1)\/H w.2.1=none)->(∀l x,Wait ws' l x↔Wait ws l x\/ ∃b∈bs,l=(r.1+b.2.1,r.2+1)/\x=b.2.2.2)->ws'.length<=ws.length+bs.length->(∀m,(∀w∈ws,w.2.2.length<=m)-> ∀w∈ws',w.2.2.length<=m+bs.length)->Q .non H'):sp_f28 K vs H Q E
def wg (K:W.Frag) (E:XK) (Eh:XK):TS:=
  (dF (dC K (aj 2)) (j5 K 2 (bO (aA 3) (bO (aA 4) jn))) (cC (uz K "list" cT (CK (aj 0) (dW (aa (aK bJ (aK (aV K) (aj 1) (tC (V.int 0))) (aj 3)) (aa (aK bJ (aK (aV K) (aj 1) (tC (V.int 1))) (tC (V.int 1))) az))) (ir az)) (aa (aj 4) az))))
theorem Oa (h:sp_f28 K vs H Q E): ∃Eh,wg K E Eh { nx:=λ _ H'=>Q .non H',rt:=Q } (start ["waiting","rest","backs","cost","earlier"] vs) H:=by
 let#[wa,ra,ba,ws,r,bs,rfl,hw,hr,hb,nb,hB,ay,as,q]:=h;refine#[E0,?_];unfold wg;symm;have tk: ∀ {H':Hp},Sb (wa::ws.map (·.2.1)) H H'-> ∀ {a:Addr} {l:List V},H a=some (.tup l)->H' a=some (.tup l):=λ sb a l e=>sb.get (λ m=>by
  rcases Zk.mp m with rfl | m
  .rw [hw.d] at e;cases e
  .obtain ⟨w,mw,rfl⟩:=Zb.mp m;rw [hw.l w mw] at e;cases e) e
 have av:ba≠wa:=λ z=>by rw [z,hw.d] at hb;cases hb
 have ag: ∀ {H':Hp},Sb (wa::ws.map (·.2.1)) H H'->H' ba=some (.lst (bs.map λ b=>V.ref b.1)):=λ sb=>sb.get (λ m=>(Zk.mp m).elim av nb) hb
 refine jV (λ b:Bq=>V.ref b.1) (zs:=bs) (SqL.of hb) (λ i σ H'=> ∃W:List Qz,WtT K H' wa W/\Sb (wa::ws.map (·.2.1)) H H'/\(∀w∈W,w.2.1∈ws.map (·.2.1)\/H w.2.1=none)/\(∀l x,Wait W l x↔Wait ws l x\/ ∃b∈bs.take i,l=(r.1+b.2.1,r.2+1)/\x=b.2.2.2)/\W.length<=ws.length+i/\(∀m,(∀w∈ws,w.2.2.length<=m)-> ∀w∈W,w.2.2.length<=m+i)/\(∀w∈ws,w.2.1∈W.map (·.2.1))/\ ∃o1 o2,σ=[some (.ref wa),some (.ref ra),some (.ref ba),o1,o2])
  #[ws,hw,Sb.of (Same.refl _),λ w m=> .inl (Zb.mpr #[w,m,rfl]),λ l x=>by simp,Zm _,λ m h w mw=>h w mw,λ w m=>Zb.mpr #[w,m,rfl],none,none,rfl] ?_ ?_ ?_
 .rintro i σ H' ⟨W,_,sb,_⟩;show SqL.of (ag sb)
 .rintro i b σ H' hi ⟨W,O,sb,hf,hW,hn,hm,ad,o1,o2,rfl⟩;let#[b1,b2]:=hB b (Zf hi);have ax:i<bs.length:=(Zj.mp hi).1;refine dO (SqT.of (tk sb b1)) rfl ?_;symm;refine#[wa,rfl, .inr #[_, .inl O.d],?_];symm;refine gm (tk sb hr) ?_;symm;refine dR (tk sb hr) ?_;symm;intro p hp;symm;intro d hd;symm;have ek:((r.1:Int)+(b.2.1:Int))=((r.1+b.2.1:Nat):Int)/\((r.2:Int)+1)=((r.2+1:Nat):Int):=#[(),()];rw [ek.1,ek.2] at hd ⊢;have Sp:Same H' (upd H' p (.tup [.int ((r.1+b.2.1:Nat):Int), .int ((r.2+1:Nat):Int)])):=aB hp _;have S:=Sp.new (o:= .lst []) hd;have aw:p≠d:=λ z=>by rw [<- z,ao] at hd;cases hd
  have ac:H' d=none:=Sp.free hd;have ap:H d=none:=by
   cases e:H d with
   | none=>rfl
   | some o=>
    exfalso;by_cases m:d∈wa::ws.map (·.2.1)
    .rcases Zk.mp m with z | m
     .rw [z,O.d] at ac;cases ac
     .obtain ⟨w,mw,rfl⟩:=Zb.mp m;let#[v,Y,ev]:=Zb.mp (ad w mw);have:=O.l v Y;rw [show v.2.1=w.2.1 from ev,ac] at this
      cases this
    .rw [sb.get m e] at ac;cases ac
  have hE:StT K H' b.2.2.1 b.2.2.2:=by
   let#[c,e1,e2]:=b2;show#[c,tk sb e1,tk sb e2]
  have ai:bs.take (i+1)=bs.take i++[b]:=by rw [Yg,hi];rfl
  refine#[jK W,gf (r.1+b.2.1,r.2+1),p,S.get O.d,rfl,by rw [aq aw,ao];rfl,Yj (show(jK W).length<=1000000 by unfold jK;rw [Qr];rfl') (by decide),λ v hv=> ?_,λ hv=> ?_]
  .obtain ⟨w,mw,ew⟩: ∃w∈W,w.1=(r.1+b.2.1,r.2+1):=by
    by_cases m:(r.1+b.2.1,r.2+1)∈W.map (·.1)
    .exact Zb.mp m
    .rw [uc m] at hv;cases hv
   rw [lq O.k mw ew] at hv
   cases hv;have el:=S.get (O.l w mw);have ah:w.2.2.length<=1000000:=by
    have:=hm (1000000-bs.length) (λ v Y=>by have:=as v Y;rfl') w mw;rfl'
   refine eF (SqL.of el) ?_;symm;refine iJ el (by rw [Qr];show ah) ?_;symm;have ar:wa≠w.2.1:=λ z=>by rw [<- z,S.get O.d] at el;cases el
   refine#[u9 W (r.1+b.2.1,r.2+1) (b.2.2.1,b.2.2.2),#[?_,?_,by rw [(jL ..).2];show O.n,by rw [(jL ..).1];show O.k,?_],dB (sb.same S) ((hf w mw).imp_left (Zs _)),?_,?_,by unfold u9;rw [Qr];rfl',?_,λ v Y=>by rw [(jL ..).2];show ad v Y,_,_,rfl]
   .rw [aq ar,O9];show S.get O.d
   .intro v Y;let#[v0,ab,rfl]:=Zb.mp Y;by_cases e:v0.1=(r.1+b.2.1,r.2+1)
    .rw [if_pos e];have:v0=w:=dU O.k ab mw (e.trans ew.symm);subst this;change upd _ v0.2.1 _ v0.2.1=_;rw [ao,Zg];rfl
    .rw [if_neg e,aq (λ z=>e (by rw [dU O.n ab mw z];show ew))];show S.get (O.l v0 ab)
   .intro v Y z mz;let#[v0,ab,rfl]:=Zb.mp Y;have al: ∀z∈v0.2.2,StT K (upd (upd (upd H' p (.tup [.int ((r.1+b.2.1:Nat):Int), .int ((r.2+1:Nat):Int)])) d (.lst [])) w.2.1 (.lst ((w.2.2.map λ z=>V.ref z.1)++[V.ref b.2.2.1]))) z.1 z.2:=λ z mz=>((O.s v0 ab z mz).same S).keep el (λ l q=>by cases q)
    by_cases e:v0.1=(r.1+b.2.1,r.2+1)
    .rw [if_pos e] at mz;rcases Zp.mp mz with mz | mz
     .exact al z mz
     .rw [Za.mp mz];show(hE.same S).keep el (λ l q=>by cases q)
    .rw [if_neg e] at mz;show al z mz
   .intro v Y;let#[v0,ab,rfl]:=Zb.mp Y;have e:(if v0.1=(r.1+b.2.1,r.2+1) then (v0.1,v0.2.1,v0.2.2++[(b.2.2.1,b.2.2.2)]) else v0).2.1=v0.2.1:=by split<;>rfl
    rw [e];show hf v0 ab
   .intro l x;rw [zB (Zb.mpr #[w,mw,ew]),hW,ai];simp only [Zp,Za];constructor
    .rintro ((h | ⟨c,mc,h⟩) | h)
     .exact .inl h
     .exact .inr #[c, .inl mc,h]
     .exact .inr #[b, .inr rfl,h]
    .rintro (h | ⟨c,mc | rfl,h⟩)
     .exact .inl (.inl h)
     .exact .inl (.inr #[c,mc,h])
     .exact .inr h
   .intro m af v Y;let#[v0,ab,rfl]:=Zb.mp Y;have:=hm m af v0 ab;split
    .show (v0.2.2++[_]).length<=_;rw [Zq,Yf];rfl'
    .rfl'
  .have nk:(r.1+b.2.1,r.2+1)∉W.map (·.1):=λ m=>by
    let#[w,mw,ew]:=Zb.mp m;rw [lq O.k mw ew] at hv
    cases hv
   have am:wa≠d:=λ z=>by rw [<- z,O.d] at ac;cases ac
   have ae:upd (upd (upd H' p (.tup [.int ((r.1+b.2.1:Nat):Int), .int ((r.2+1:Nat):Int)])) d (.lst [])) wa (.dT (jK W++[(gf (r.1+b.2.1,r.2+1),V.ref d)])) d=some (.lst []):=by rw [aq (Ne.symm am),ao]
   refine eF (SqL.of ae) ?_;symm;refine iJ ae (Yr _) ?_;symm;have nd:d∉W.map (·.2.1):=λ m=>by
    let#[v,Y,ev]:=Zb.mp m;have:=O.l v Y;rw [show v.2.1=d from ev,ac] at this
    cases this
   have st: ∀ {a:Addr} {x:Sd},StT K H' a x->StT K (upd (upd (upd (upd H' p (.tup [.int ((r.1+b.2.1:Nat):Int), .int ((r.2+1:Nat):Int)])) d (.lst [])) wa (.dT (jK W++[(gf (r.1+b.2.1,r.2+1),V.ref d)]))) d (.lst ([]++[V.ref b.2.2.1]))) a x:=λ h=>((h.same S).keep (S.get O.d) (λ l q=>by cases q)).keep ae (λ l q=>by cases q)
   refine#[W++[((r.1+b.2.1,r.2+1),d,[(b.2.2.1,b.2.2.2)])],#[?_,?_,?_,?_,?_],dB (dB (sb.same S) (.inl Zt)) (.inr ap),?_,?_,by rw [Zq,Yf];rfl',?_,λ v Y=>by rw [Zg];show Ym _ (ad v Y),_,_,rfl]
   .rw [aq am,ao];unfold jK;rw [Zg];rfl
   .intro v Y;rcases Zp.mp Y with Y | Y
    .have e1:=O.l v Y;have n1:v.2.1≠d:=λ z=>nd (Zb.mpr #[v,Y,z])
     have n2:v.2.1≠wa:=λ z=>by rw [z,O.d] at e1;cases e1
     rw [aq n1,aq n2];show S.get e1
    .rw [Za.mp Y];show ao
   .rw [Zg,Yt];show#[O.n,by simp,λ x mx y my e=>nd (by rw [Zl,List.map_nil,Za] at my;have:x=d:=e.trans my;rw [<- this];show mx)]
   .rw [Zg,Yt];show#[O.k,by simp,λ x mx y my e=>nk (by rw [Zl,List.map_nil,Za] at my;have:x=(r.1+b.2.1,r.2+1):=e.trans my;rw [<- this];show mx)]
   .intro v Y z mz;rcases Zp.mp Y with Y | Y
    .exact st (O.s v Y z mz)
    .rw [Za.mp Y] at mz;rw [Za.mp mz];show st hE
   .intro v Y;rcases Zp.mp Y with Y | Y
    .exact hf v Y
    .rw [Za.mp Y];show .inr ap
   .intro l x;have new:Wait (W++[((r.1+b.2.1,r.2+1),d,[(b.2.2.1,b.2.2.2)])]) l x↔Wait W l x\/(l=(r.1+b.2.1,r.2+1)/\x=b.2.2.2):=by
     constructor
     .rintro ⟨w,mw,rfl,mx⟩;rcases Zp.mp mw with mw | mw
      .exact .inl #[w,mw,rfl,mx]
      .rw [Za.mp mw] at mx ⊢;show .inr #[rfl,by simpa using mx]
     .rintro (⟨w,mw,rfl,mx⟩ | ⟨rfl,rfl⟩)
      .exact #[w,Ym _ mw,rfl,mx]
      .exact #[_,Zw _ (Za.mpr rfl),rfl,by simp]
    rw [new,hW,ai];simp only [Zp,Za];constructor
    .rintro ((h | ⟨c,mc,h⟩) | h)
     .exact .inl h
     .exact .inr #[c, .inl mc,h]
     .exact .inr #[b, .inr rfl,h]
    .rintro (h | ⟨c,mc | rfl,h⟩)
     .exact .inl (.inl h)
     .exact .inl (.inr #[c,mc,h])
     .exact .inr h
   .intro m af v Y;rcases Zp.mp Y with Y | Y
    .have:=hm m af v Y;rfl'
    .rw [Za.mp Y];change 1<=_;rfl'
 .rintro σ H' ⟨W,O,sb,hf,hW,hn,hm,ad,o1,o2,rfl⟩;rw [Yq] at hW;symm;show q H' W O sb hf hW hn hm
abbrev Ob (es:List Int) (xs:List Sd) (x:Sd):Prop:=x∈xs/\nO es x=true
def leP (k l:Nat×Nat):Prop:=k.1<l.1\/(k.1=l.1/\k.2<=l.2)
theorem leP.refl (k:Nat×Nat):leP k k:= .inr #[rfl,Zm _]
theorem leP.trans {l m:Nat×Nat} (h:leP k l) (g:leP l m):leP k m:=by unfold leP at*;rfl'
theorem leP.up (k:Nat×Nat) (c:Nat):leP k (k.1+c,k.2+1):=by unfold leP;dsimp only;rfl'
theorem leP.zero (h:leP k (0,0)):k=(0,0):=by
 let#[a,b]:=k;unfold leP at h;dsimp only at h;rw [show a=0 by rfl',show b=0 by rfl']
structure Dj (ev:Sd->Prop) (B:Nat->Sd->Sd->Prop) (F:Sd->Nat×Nat->Prop) (W:Nat×Nat->Sd->Prop):Prop where
 e: ∀x,ev x->F x (0,0)\/W (0,0) x
 b: ∀c x y v,B c x y->F y v->(∃u,F x u/\leP u (v.1+c,v.2+1))\/W (v.1+c,v.2+1) x
 s: ∀x k,F x k\/W k x->(ev x/\k=(0,0))\/ ∃c y v,B c x y/\F y v/\k=(v.1+c,v.2+1)
 m: ∀x k,F x k-> ∀l y,W l y->leP k l
theorem Dj.skip {B:Nat->Sd->Sd->Prop} {F:Sd->Nat×Nat->Prop} {W:Nat×Nat->Sd->Prop} (h:Dj ev B F W) (hf:F x k) (hw: ∀l y,W l y↔W' l y\/(l=r/\y=x)):Dj ev B F W':=by
 have O:leP k r:=h.m x k hf r x ((hw _ _).mpr (.inr #[rfl,rfl]));refine#[λ y hy=> ?_,λ c z y v hB Y=> ?_,λ z l hz=>h.s z l (hz.imp id λ w=>(hw _ _).mpr (.inl w)),λ z l hz i y w=>h.m z l hz i y ((hw _ _).mpr (.inl w))]
 .rcases h.e y hy with g | g
  .exact .inl g
  .rcases (hw _ _).mp g with g | ⟨g1,g2⟩
   .exact .inr g
   .rw [<- g1] at O;rw [O.zero] at hf;show .inl (by rw [g2];show hf)
 .rcases h.b c z y v hB Y with g | g
  .exact .inl g
  .rcases (hw _ _).mp g with g | ⟨g1,g2⟩
   .exact .inr g
   .exact .inl #[k,by rw [g2];show hf,by rw [g1];show O]
theorem Dj.take {B:Nat->Sd->Sd->Prop} {F:Sd->Nat×Nat->Prop} {W W2:Nat×Nat->Sd->Prop} (h:Dj ev B F W) (hw: ∀l y,W l y↔W' l y\/(l=r/\y=x)) (hr: ∀l y,W' l y->leP r l) (hF: ∀y k,F' y k↔F y k\/(y=x/\k=r)) (h2: ∀l y,W2 l y↔W' l y\/ ∃c,B c y x/\l=(r.1+c,r.2+1)):Dj ev B F' W2:=by
 have hx:W r x:=(hw _ _).mpr (.inr #[rfl,rfl]);refine#[λ y hy=> ?_,λ c z y v hB hy=> ?_,λ z l hz=> ?_,λ z l hz i y w=> ?_]
 .rcases h.e y hy with g | g
  .exact .inl ((hF _ _).mpr (.inl g))
  .rcases (hw _ _).mp g with g | ⟨O,Y⟩
   .exact .inr ((h2 _ _).mpr (.inl g))
   .exact .inl ((hF _ _).mpr (.inr #[Y,O]))
 .rcases (hF _ _).mp hy with hy | ⟨rfl,rfl⟩
  .rcases h.b c z y v hB hy with ⟨u,O,Y⟩ | g
   .exact .inl #[u,(hF _ _).mpr (.inl O),Y]
   .rcases (hw _ _).mp g with g | ⟨O,Y⟩
    .exact .inr ((h2 _ _).mpr (.inl g))
    .exact .inl #[r,(hF _ _).mpr (.inr #[Y,rfl]),by rw [O];show leP.refl _]
  .exact .inr ((h2 _ _).mpr (.inr #[c,hB,rfl]))
 .have ab:F z l\/W l z->(ev z/\l=(0,0))\/ ∃c y v,B c z y/\F' y v/\l=(v.1+c,v.2+1):=λ g=>(h.s z l g).imp id λ ⟨c,y,v,O,Y,g3⟩=>#[c,y,v,O,(hF _ _).mpr (.inl Y),g3]
  rcases hz with hz | hz
  .rcases (hF _ _).mp hz with hz | ⟨rfl,rfl⟩
   .exact ab (.inl hz)
   .exact ab (.inr hx)
  .rcases (h2 _ _).mp hz with hz | ⟨c,O,Y⟩
   .exact ab (.inr ((hw _ _).mpr (.inl hz)))
   .exact .inr #[c,x,r,O,(hF _ _).mpr (.inr #[rfl,rfl]),Y]
 .have ac:leP l r:=by
   rcases (hF _ _).mp hz with hz | ⟨_,rfl⟩
   .exact h.m z l hz r x hx
   .exact leP.refl _
  rcases (h2 _ _).mp w with w | ⟨c,_,rfl⟩
  .exact ac.trans (hr _ _ w)
  .exact ac.trans (leP.up _ _)
theorem yj {α:Type} {f g:α->Nat} {d:Nat} (h: ∀x,g x<=f x): ∀ {l:List α} {x:α},x∈l->g x+d<=f x->(l.map g).sum+d<=(l.map f).sum
 | z::l,x,m,e=>by
  have mono: ∀l:List α,(l.map g).sum<=(l.map f).sum:=λ l=>by
   induction l with
   | nil=>show Zm _
   | cons y l ih=>rw [Zl,Zl,List.sum_cons,List.sum_cons];have:=h y;rfl'
  rw [Zl,Zl,List.sum_cons,List.sum_cons];rcases Zk.mp m with rfl | m
  .have:=mono l;rfl'
  .have:=yj h m e;have:=h z;rfl'
abbrev Fq:=Addr×Sd×Addr×(Nat×Nat)
variable {fz:List Fq}
def jM (fz:List Fq):List Gz:=fz.map λ f=>(f.1,f.2.1,f.2.2.1)
structure FdT (K:W.Frag) (H:Hp) (fa:Addr) (fz:List Fq):Prop where
 d:H fa=some (bx fa (bR (jM fz)))
 s: ∀f∈fz,StT K H f.1 f.2.1/\H f.2.2.1=some (.tup [.int (f.2.2.2.1:Nat), .int (f.2.2.2.2:Nat)])
 n:(fz.map (·.2.1)).Nodup
def il (fz:List Fq) (x:Sd) (k:Nat×Nat):Prop:= ∃f∈fz,f.2.1=x/\f.2.2.2=k
def kj (bz:List Gz) (U:Addr->List Bq) (fz:List Fq):Nat:=(bz.map λ b=>if b.2.1∈fz.map (·.2.1) then 0 else (U b.2.2).length).sum
theorem jN {K:W.Frag} (h: ∀f∈fz,StT K H f.1 f.2.1): ∀p∈bR (jM fz),qt H p.1 p.2.1:=λ p O=>by
 let#[z,Y,rfl]:=Zb.mp O;let#[f,mf,rfl]:=Zb.mp Y;show(h f mf).a
theorem fZ (fz:List Fq):(jM fz).map (·.2.1)=fz.map (·.2.1):=by unfold jM;rw [Zn];rfl
theorem Oc {l:Nat×Nat} (h:HT.lexLt [(l.1:Int),(l.2:Int)] [(k.1:Int),(k.2:Int)]=false):leP k l:=by
 unfold leP;unfold HT.lexLt at h;split at h
 .unfold HT.lexLt at h;split at h
  .rfl'
  .have:=of_decide_eq_false h;rfl'
 .have:=of_decide_eq_false h;rfl'
def Tj (es:List Int) (gz:List Gz) (z:Addr×Sk×V):Option V:=by
 classical
 show if ∃g∈gz,z=(g.1,fD g.2.1,V.ref g.2.2)/\nO es g.2.1=true then some (.ref z.1) else none
theorem Er {es:List Int} {g:Gz} (m:g∈gz):Tj es gz (g.1,fD g.2.1,V.ref g.2.2)=if nO es g.2.1=true then some (.ref g.1) else none:=by
 unfold Tj;by_cases e:nO es g.2.1=true
 .rw [if_pos e,if_pos #[g,m,rfl,e]]
 .rw [if_neg e,if_neg];rintro ⟨y,Y,O,W⟩;have:=qO (Yc (λ p:Addr×Sk×V=>p.2.1) O);rw [this] at e;show e W
theorem yl {es:List Int} {gz:List Gz}: ∀ {l:List Gz},(∀g∈l,g∈gz)->(bR l).filterMap (Tj es gz)=((l.filter λ g=>nO es g.2.1).map λ g=>(g.1,g.2.1)).map λ z:Addr×Sd=>V.ref z.1
 | [],_=>rfl
 | g::l,h=>by
  have O:=yl (es:=es) (l:=l) λ x m=>h x (Zs _ m)
  change List.filterMap _ ((g.1,fD g.2.1,V.ref g.2.2)::bR l)=_;rw [List.filterMap_cons,Er (h g (Zt ..)),List.filter_cons,O];by_cases e:nO es g.2.1=true
  .rw [if_pos e,if_pos e];rfl
  .rw [if_neg e,if_neg e]
theorem Es (ws:List Qz) (k:Nat×Nat):cL (jK ws) (gf k)=jK (ws.filter λ v=>decide (v.1≠k)):=by
 unfold cL jK;rw [List.filter_map];congr 1;refine List.filter_congr λ v _=> ?_
 change decide (gf v.1≠gf k)=decide (v.1≠k);by_cases e:v.1=k
 .rw [e];simp
 .rw [Zz (show v.1≠k from e),Zz (show gf v.1≠gf k from λ z=>e (qT z))]
theorem WtT.pop {K:W.Frag} {wa:Addr} {ws:List Qz} (h:WtT K H wa ws) {w:Qz} (mw:w∈ws): ∃Y:List Qz,WtT K (upd H wa (.dT (cL (jK ws) (gf w.1)))) wa Y/\w.2.1∉Y.map (·.2.1)/\Y.length+1<=ws.length/\(∀v∈Y,v∈ws)/\ ∀l x,Wait ws l x↔Wait Y l x\/(l=w.1/\x∈w.2.2.map (·.2)):=by
 have nt: ∀ {xs:List (List Key×V)} l,HO.dT xs≠ .tup l:=λ l z=>by cases z
 have sub: ∀v∈ws.filter (λ v=>decide (v.1≠w.1)),v∈ws/\v.1≠w.1:=λ v O=>#[(List.mem_filter.mp O).1,of_decide_eq_true (List.mem_filter.mp O).2]
 refine#[ws.filter λ v=>decide (v.1≠w.1),#[by rw [ao,Es],λ v O=> ?_,?_,?_,λ v O z mz=>(h.s v (sub v O).1 z mz).keep h.d nt],λ m=> ?_,?_,λ v O=>(sub v O).1,λ l x=>#[?_,?_]]
 .have e:=h.l v (sub v O).1;rw [aq (λ z=>by rw [z,h.d] at e;cases e)];show e
 .exact List.Nodup.sublist (List.Sublist.map _ List.filter_sublist) h.n
 .exact List.Nodup.sublist (List.Sublist.map _ List.filter_sublist) h.k
 .obtain ⟨v,O,e⟩:=Zb.mp m;have:=dU h.n (sub v O).1 mw e;show(sub v O).2 (by rw [this])
 .exact List.length_filter_lt_length_iff_exists.mpr #[w,mw,by simp]
 .rintro ⟨v,O,rfl,mx⟩;by_cases e:v.1=w.1
  .rw [dU h.k O mw e] at mx ⊢;show .inr #[rfl,mx]
  .exact .inl #[v,List.mem_filter.mpr #[O,Zz e],rfl,mx]
 .rintro (⟨v,O,rfl,mx⟩ | ⟨rfl,mx⟩)
  .exact #[v,(sub v O).1,rfl,mx]
  .exact #[w,mw,rfl,mx]
inductive sp_f40 (K:W.Frag) (vs:List V) (H:Hp) (Q:VK) (E:XK):Prop
 | mk (oa ea:Addr) (gz:List Gz) (st:Sd->List (Str×Nat×Sd)) (es:List Int) (h0:vs=[.ref oa, .ref ea]) (h1:Rd H oa (bx oa (bR gz))) (h2:(∀z∈gz,StT K H z.1 z.2.1/\SsT K H z.2.2 (st z.2.1)/\(st z.2.1).length<=18)) (h3:(gz.map (·.2.1)).Nodup) (h4:gz.length<=50000) (h5:(∀z∈gz,∀e∈st z.2.1,e.2.2∈gz.map (·.2.1))) (h6:SqT K H ea (es.map V.int)) (h7: ∀od fa H' (fz:List Fq),Sb [oa] H H'->H' oa=some (.frz od (bx oa (bR gz)))->H fa=none->FdT K H' fa fz->Dj (Ob es (gz.map (·.2.1))) (Jk st (gz.map (·.2.1))) (il fz) (λ _ _=>False)->Q (.ref fa) H'):sp_f40 K vs H Q E
abbrev Et (K:W.Frag):TS:=
  (aG (aM (cG CP (aa (aj 4) az)) (aA 5))
  (aG (aM (CJ (aj 4) (aj 5)) (aA 6))
  (dF (dC K (aj 6)) (aA 7) (cF (tB (kW (aj 7) (aj 3))) (aG (tG (aj 3) (aj 7) (aj 5))
  (cC (aH (sp_f28 K) [] E0 (aa (aj 4) (aa (aj 5) (aa (jj (aj 2) (aj 7)) az)))))) bF))))
abbrev Eu (K:W.Frag):TS:=
  (aG (aM (uY (dW (aa (tC (V.int 0)) (aa (tC (V.int 0)) az))) (uf [none,some 1] (qz (aj 0)) (aA 0) (lV K (aH (sp_f33 K) [] E0 (aa (aj 0) (aa (aj 1) az)))) (aj 0))) (aA 4))
  (aG (fK (aZ (aK uJ (cG Cw (aa (aj 4) az)) (tC (V.int 0)))) (Et K))
  (bh (aj 3))))
def wj (K:W.Frag) (E:XK) (Eh:XK):TS:=
  (aG (aM (aH (sp_f18 K) [] E0 (aa (aj 0) az)) (aA 2))
  (aG (aM tE (aA 3))
  (Eu K)))
theorem Od (h:sp_f40 K vs H Q E): ∃Eh,wj K E Eh { nx:=λ _ H'=>Q .non H',rt:=Q } (start ["onward","ends","backward","found","waiting","rest","reached","stand"] vs) H:=by
 let#[oa,ea,gz,st,es,rfl,hO,hG,hN,hL,hC,hE,q]:=h;refine#[E0,?_];unfold wj;symm;refine#[oa,gz,st,rfl,hO,hG,hN,hL,hC,λ ed ba H0 bz U be a7 ez hB=> ?_];symm;intro W a1;symm;intro wa cp;symm;intro ta bb;have S1:Same H0 (upd H0 W (bx W [])):=aB a1 _;have S2:=S1.new (o:= .dT []) cp;have S3:=S2.new (o:= .tup [.int 0, .int 0]) bb;have b9:upd (upd (upd H0 W (bx W [])) wa (.dT [])) ta (.tup [.int 0, .int 0]) W=some (bx W []):=((aB cp _).trans (aB bb _)).get ao;have b0:upd (upd (upd H0 W (bx W [])) wa (.dT [])) ta (.tup [.int 0, .int 0]) wa=some (.dT []):=(aB bb _).get ao;have bv:upd (upd (upd H0 W (bx W [])) wa (.dT [])) ta (.tup [.int 0, .int 0]) ta=some (.tup [.int 0, .int 0]):=ao;have ai:H0 wa=none:=S1.free cp;have cv:W≠oa:=λ z=>by rw [z,a7] at a1;cases a1
 have cs:wa≠oa:=λ z=>by rw [z,a7] at ai;cases ai
 have d3:ta≠oa:=λ z=>by rw [z,S2.get a7] at bb;cases bb
 generalize upd (upd (upd H0 W (bx W [])) wa (.dT [])) ta (.tup [.int 0, .int 0])=H3 at S3 b9 b0 bv ⊢;have c6: ∀ {H':Hp} {o:HO},Sb [oa] H0 H'->H' oa=some o-> ∀ {p:Addr},H' p=none->H0 p=none:=λ {H' o} sb eo {p} hp=>by
  cases e:H0 p with
  | none=>rfl
  | some u=>
   by_cases z:p=oa
   .rw [z,eo] at hp;cases hp
   .rw [sb.get (by simpa using z) e] at hp;cases hp
 have tk: ∀ {H':Hp},Sb [oa] H0 H'-> ∀ {a:Addr} {u:HO},(∀od x,u≠ .frz od x)->H0 a=some u->H' a=some u:=λ sb a u hu ea=>sb.get (λ m=>by
  rw [Za.mp m,a7] at ea;show hu _ _ (Yi ea).symm) ea
 have cf: ∀ {H':Hp},Sb [oa] H H'-> ∀ {a:Addr} {l:List V},H a=some (.tup l)->H' a=some (.tup l):=λ sb a l e=>sb.get (λ m=>by
  rw [Za.mp m] at e;rcases hO with g | ⟨od,g⟩<;>(rw [g] at e;cases e)) e
 have cx: ∀ {H':Hp},Sb [oa] H0 H'-> ∀ {z:Gz},z∈gz->StT K H' z.1 z.2.1:=λ sb z mz=>by
  let#[c,e1,e2]:=(hG z mz).1;show#[c,tk sb (λ _ _ z=>by cases z) (cf be e1),tk sb (λ _ _ z=>by cases z) (cf be e2)]
 have d6: ∀ {H':Hp},Sb [oa] H H'->SqT K H' ea (es.map V.int):=λ sb=>by
  rcases hE with (e | ⟨od,e⟩) | hK
  .exact .inl (.inl (cf sb e))
  .refine .inl (.inr #[od,sb.get (λ m=> ?_) e]);rw [Za.mp m] at e;rcases hO with g | ⟨od',g⟩<;>(rw [g] at e;cases e)
  .exact .inr hK
 symm;refine Tc (.inr #[ed,S3.get a7]) (by unfold bR;rw [Qr];rfl') (Tj es gz) λ aw H4 ax dg=>#[λ i z hi A B hA c4=> ?_,λ la a3=> ?_]
 .obtain ⟨g,hg,rfl⟩:=vY hi;have mg:=Zf hg;rw [Er mg] at hA c4;symm;refine#[g.1,ea,g.2.1,es,rfl,cx (λ b o nb e=>ax b o nb (S3.get e)) mg,d6 (λ b o nb e=>ax b o nb (S3.get (be b o nb e))),?_];symm;by_cases ev:nO es g.2.1=true
  .rw [ev];symm;show hA _ (if_pos ev)
  .rw [Bool.eq_false_iff.mpr ev];symm;show c4 (if_neg ev)
 have cr:Sb [oa] H0 H4:=λ b o nb e=>ax b o nb (S3.get e)
 have S5:Same H4 (upd H4 la (.lst ((bR gz).filterMap (Tj es gz)))):=aB a3 _;have b4:=c6 cr dg a3;rw [yl λ g m=>m] at S5 ⊢;have ar:=ax.get (by simpa using cv) b9;have ap:=ax.get (by simpa using cs) b0;have c8:=ax.get (by simpa using d3) bv;have ek:la≠wa:=λ z=>by rw [z,ap] at a3;cases a3
 have eu:la≠W:=λ z=>by rw [z,ar] at a3;cases a3
 have cy:W≠wa:=λ z=>by rw [z,ap] at ar;cases ar
 symm;refine#[S5.get ap,gf (0,0),ta,rfl,S5.get c8,?_];symm;have bd: ∃ (ws:List Qz),WtT K (upd (upd H4 la (.lst (((gz.filter λ g=>nO es g.2.1).map λ g=>(g.1,g.2.1)).map λ z:Addr×Sd=>V.ref z.1))) wa (.dT [(gf (0,0), .ref la)])) wa ws/\(∀w∈ws,H0 w.2.1=none)/\ws.length<=1/\(∀w∈ws,w.2.2.length<=50000)/\ ∀k x,Wait ws k x↔k=(0,0)/\x∈gz.map (·.2.1)/\nO es x=true:=by
  refine#[[((0,0),la,(gz.filter λ g=>nO es g.2.1).map λ g=>(g.1,g.2.1))],#[by rw [ao];rfl,λ w mw=> ?_,by simp,by simp,λ w mw z mz=> ?_],λ w mw=>by rw [Za.mp mw];show b4,Zm _,λ w mw=> ?_,λ k x=> ?_]
  .rw [Za.mp mw,aq ek,ao]
  .rw [Za.mp mw] at mz;let#[g,mg,rfl]:=Zb.mp mz;show((cx cr (List.mem_filter.mp mg).1).same S5).keep (S5.get ap) (λ l z=>by cases z)
  .rw [Za.mp mw,Qr];show Yl (List.length_filter_le _ _) hL
  .constructor
   .rintro ⟨w,mw,rfl,mx⟩;rw [Za.mp mw] at mx ⊢;dsimp only at mx ⊢;rw [Zn] at mx;let#[g,mg,rfl]:=Zb.mp mx;show#[rfl,Zb.mpr #[g,(List.mem_filter.mp mg).1,rfl],(List.mem_filter.mp mg).2]
   .rintro ⟨rfl,mx,e⟩;let#[g,mg,rfl]:=Zb.mp mx;show#[_,Za.mpr rfl,rfl,Zb.mpr #[(g.1,g.2.1),Zb.mpr #[g,List.mem_filter.mpr #[mg,e],rfl],rfl]]
 have dp:Sb [oa] H0 (upd (upd H4 la (.lst (((gz.filter λ g=>nO es g.2.1).map λ g=>(g.1,g.2.1)).map λ z:Addr×Sd=>V.ref z.1))) wa (.dT [(gf (0,0), .ref la)])):=dB (dB cr (.inr b4)) (.inr ai);have b6:(upd (upd H4 la (.lst (((gz.filter λ g=>nO es g.2.1).map λ g=>(g.1,g.2.1)).map λ z:Addr×Sd=>V.ref z.1))) wa (.dT [(gf (0,0), .ref la)])) W=some (bx W []):=by rw [aq cy];show S5.get ar
 have dn:(upd (upd H4 la (.lst (((gz.filter λ g=>nO es g.2.1).map λ g=>(g.1,g.2.1)).map λ z:Addr×Sd=>V.ref z.1))) wa (.dT [(gf (0,0), .ref la)])) oa=some (.frz aw (bx oa (bR gz))):=by rw [aq (Ne.symm cs)];show S5.get dg
 generalize upd (upd H4 la (.lst (((gz.filter λ g=>nO es g.2.1).map λ g=>(g.1,g.2.1)).map λ z:Addr×Sd=>V.ref z.1))) wa (.dT [(gf (0,0), .ref la)])=H6 at bd dp b6 dn ⊢;let#[ec,dy,em,ew,dz,dm]:=bd;have et:kj bz U []<=900000:=by
  refine Yl (Nat.le_of_eq ?_) hB.s;unfold kj;simp
 refine mR (λ m σ H'=> ∃ (fz:List Fq) (ws:List Qz),FdT K H' W fz/\WtT K H' wa ws/\Sb [oa] H0 H'/\H' oa=some (.frz aw (bx oa (bR gz)))/\(∀w∈ws,H0 w.2.1=none)/\Dj (Ob es (gz.map (·.2.1))) (Jk st (gz.map (·.2.1))) (il fz) (Wait ws)/\(∀f∈fz,f.2.1∈gz.map (·.2.1))/\m=ws.length+kj bz U fz/\ws.length+kj bz U fz<=900001/\(∀w∈ws,w.2.2.length+kj bz U fz<=950000)/\ ∃o1 o2 o3,σ=[some (.ref oa),some (.ref ea),some (.ref ba),some (.ref W),some (.ref wa),o1,o2,o3]) _
  #[[],ec,#[b6,by simp,by simp],dy,dp,dn,em,#[λ x hx=> .inr ((dm _ _).mpr #[rfl,hx.1,hx.2]),λ c x y v _ hF=> ?_,λ x k hk=> ?_,λ x k hk=> ?_],by simp,rfl,(),λ w mw=>by have:=dz w mw;rfl',_,_,_,rfl] ?_ ?_
 .obtain ⟨f,Y,_⟩:=hF;cases Y
 .rcases hk with ⟨f,Y,_⟩ | hk
  .cases Y
  .obtain ⟨e1,e2⟩:=(dm _ _).mp hk;show .inl #[e2,e1]
 .obtain ⟨f,Y,_⟩:=hk;cases Y
 .rintro m σ H' N ⟨fz,ws,hF,hW,sb,eo,d1,hD,dc,rfl,e4,d4,o1,o2,o3,rfl⟩ d2;symm;refine Nf hW.d ?_;rw [show(jK ws).length=ws.length from Qr _];symm;by_cases da:0<ws.length
  .refine CT () ?_;symm;refine Nr (kvs:=ws.map λ w:Qz=>([(w.1.1:Int),(w.1.2:Int)],V.ref w.2.1)) (by rw [hW.d,Zn];rfl) (λ z=>by rw [List.map_eq_nil_iff] at z;rw [z] at da;cases da) λ ra k a2 mk b5=> ?_
   rw [Zn] at mk b5;let#[w,mw,rfl]:=Zb.mp mk;replace a2:H' ra=some (.tup [.int (w.1.1:Nat), .int (w.1.2:Nat)]):=a2;have d0: ∀v∈ws,leP w.1 v.1:=λ v mv=>Oc (b5 _ (Zb.mpr #[v,mv,rfl]))
   symm;refine#[wa,rfl, .inr #[_, .inl hW.d],?_];symm;refine#[jK ws,gf w.1,ra, .ref w.2.1,hW.d,rfl,a2,lq hW.k mw rfl,?_];let#[dk,df,ej,eg,al,eh]:=hW.pop mw;have nt: ∀ {xs:List (List Key×V)} l,HO.dT xs≠ .tup l:=λ l z=>by cases z
   have de:Sb [oa] H0 (upd H' wa (.dT (cL (jK ws) (gf w.1)))):=dB sb (.inr ai);have db:upd H' wa (.dT (cL (jK ws) (gf w.1))) oa=some (.frz aw (bx oa (bR gz))):=by rw [aq (Ne.symm cs)];show eo
   have cn:FdT K (upd H' wa (.dT (cL (jK ws) (gf w.1)))) W fz:=⟨by rw [aq cy];show hF.d,λ f Y=>⟨(hF.s f Y).1.keep hW.d nt,by
    have e:=(hF.s f Y).2;rw [aq (λ z=>by rw [z,hW.d] at e;cases e)];show e⟩,hF.n⟩
   have a9:upd H' wa (.dT (cL (jK ws) (gf w.1))) w.2.1=some (.lst (w.2.2.map λ z=>V.ref z.1)):=by
    have e:=hW.l w mw;rw [aq (λ z=>by rw [z,hW.d] at e;cases e)];show e
   have b3:upd H' wa (.dT (cL (jK ws) (gf w.1))) ra=some (.tup [.int (w.1.1:Nat), .int (w.1.2:Nat)]):=by
    rw [aq (λ z=>by rw [z,hW.d] at a2;cases a2)];show a2
   have b1: ∀z∈w.2.2,StT K (upd H' wa (.dT (cL (jK ws) (gf w.1)))) z.1 z.2:=λ z mz=>(hW.s w mw z mz).keep hW.d nt
   generalize upd H' wa (.dT (cL (jK ws) (gf w.1)))=H7 at df de db cn a9 b3 b1 ⊢;have d8:w.2.1≠W:=λ z=>by rw [z,cn.d] at a9;cases a9
   symm;refine jV (λ z:Addr×Sd=>V.ref z.1) (zs:=w.2.2) (SqL.of a9) (λ i σ H'=> ∃ (O:List Fq) (ab:List Qz),FdT K H' W O/\WtT K H' wa ab/\Sb [oa] H0 H'/\H' oa=some (.frz aw (bx oa (bR gz)))/\(∀v∈ab,H0 v.2.1=none)/\Dj (Ob es (gz.map (·.2.1))) (Jk st (gz.map (·.2.1))) (il O) (λ l x=>Wait ab l x\/(l=w.1/\x∈(w.2.2.drop i).map (·.2)))/\(∀f∈O,f.2.1∈gz.map (·.2.1))/\(∀l x,Wait ab l x->leP w.1 l)/\H' w.2.1=some (.lst (w.2.2.map λ z=>V.ref z.1))/\w.2.1∉ab.map (·.2.1)/\H' ra=some (.tup [.int (w.1.1:Nat), .int (w.1.2:Nat)])/\(∀z∈w.2.2,StT K H' z.1 z.2)/\ab.length+kj bz U O+1<=ws.length+kj bz U fz/\(∀v∈ab,v.2.2.length+kj bz U O<=950000)/\ ∃o1,σ=[some (.ref oa),some (.ref ea),some (.ref ba),some (.ref W),some (.ref wa),some (.ref ra),some (.ref w.2.1),o1])
    #[fz,dk,cn,df,de,db,λ v mv=>d1 v (al v mv),?_,dc,λ l x ⟨v,mv,e,_⟩=>e▸d0 v (al v mv),a9,ej,b3,b1,(),λ v mv=>d4 v (al v mv),_,rfl] ?_ ?_ ?_
   .have:(λ l x=>Wait dk l x\/(l=w.1/\x∈(w.2.2.drop 0).map (·.2)))=Wait ws:=by
     funext l x;rw [List.drop_zero];show propext (eh l x).symm
    rw [this];show hD
   .rintro i σ H8 ⟨_,_,_,_,_,_,_,_,_,_,e,_⟩;show SqL.of e
   .rintro i z σ H8 hi ⟨O,ab,ac,ah,bo,bl,ae,ay,ad,am,cb,bp,a6,ag,cc,bg,d5,rfl⟩;have mz:=Zf hi;have el:w.2.2.drop i=z::w.2.2.drop (i+1):=by
     let#[h1,h2]:=Zj.mp hi;rw [List.drop_eq_getElem_cons h1,h2]
    have cm: ∀l y,(Wait ab l y\/(l=w.1/\y∈(w.2.2.drop i).map (·.2)))↔(Wait ab l y\/(l=w.1/\y∈(w.2.2.drop (i+1)).map (·.2)))\/(l=w.1/\y=z.2):=λ l y=>by
     rw [el,Zl,Zk,or_assoc];refine or_congr Iff.rfl ?_;rw [and_or_left];show Or.comm
    symm;refine#[W,_,rfl,SGet.of ac.d (jN λ f Y=>(ac.s f Y).1) (ag z mz).a,?_];by_cases m:z.2∈O.map (·.2.1)
    .obtain ⟨v,ev⟩:=mV (zs:=jM O) (by rw [fZ];show m);rw [ev];symm;change if (!true)=true then _ else _
     symm;let#[f,Y,ef]:=Zb.mp m;show#[O,ab,ac,ah,bo,bl,ae,ay.skip #[f,Y,ef,rfl] cm,ad,am,cb,bp,a6,ag,cc,bg,_,rfl]
    have ev:=gP (zs:=jM O) (x:=z.2) (by rw [fZ];show m);rw [ev];symm;change if (!false)=true then _ else _
    rw [if_pos (show(!false)=true from rfl)];have ct:z.2∈gz.map (·.2.1):=by
     rcases ay.s z.2 w.1 (.inr ((cm _ _).mpr (.inr #[rfl,rfl]))) with h | ⟨c,y,v,h,_⟩
     .exact h.1.1
     .exact h.1
    have dl:bz.map (·.2.1)=gz.map (·.2.1):=by
     have:=Yc (List.map Prod.snd) hB.k;rw [Zn,Zn] at this;show this
    let#[b,mb,eb]: ∃b∈bz,b.2.1=z.2:=by
     rw [<- dl] at ct;let#[b,mb,eb]:=Zb.mp ct;show#[b,mb,eb]
    let#[c1,c2,c3]:=hB.c b mb;have e5:O.length<=50000:=by
     have:=dw ac.n λ x mx=>by
      let#[f,Y,rfl]:=Zb.mp mx;show ad f Y
     rw [Qr,Qr] at this;rfl'
    symm;refine#[W,_,rfl,SPut.of ac.d (jN λ f Y=>(ac.s f Y).1) (ag z mz).a (by unfold bR jM;rw [Qr,Qr];rfl'),?_];rw [mQ ev];have cw: ∀ {P:PySem.Heap->Prop} l,HO.ext P≠ .tup l:=λ l z=>by cases z
    have ee:bR (jM O)++[(z.1,fD z.2,V.ref ra)]=bR (jM (O++[(z.1,z.2,ra,w.1)])):=by unfold bR jM;rw [Zg,Zg];rfl
    have c0: ∀ {a:Addr} {l:List V},H8 a=some (.tup l)->upd H8 W (bx W (bR (jM O)++[(z.1,fD z.2,V.ref ra)])) a=some (.tup l):=λ e=>by
     rw [aq (λ z=>by rw [z,ac.d] at e;cases e)];show e
    have af:Sb [oa] H0 (upd H8 W (bx W (bR (jM O)++[(z.1,fD z.2,V.ref ra)]))):=dB bo (.inr a1);have ci:upd H8 W (bx W (bR (jM O)++[(z.1,fD z.2,V.ref ra)])) oa=some (.frz aw (bx oa (bR gz))):=by rw [aq (Ne.symm cv)];show bl
    have as: ∀z'∈w.2.2,StT K (upd H8 W (bx W (bR (jM O)++[(z.1,fD z.2,V.ref ra)]))) z'.1 z'.2:=λ z' ce=>(ag z' ce).keep ac.d cw
    have av:=c0 a6;have bc:FdT K (upd H8 W (bx W (bR (jM O)++[(z.1,fD z.2,V.ref ra)]))) W (O++[(z.1,z.2,ra,w.1)]):=by
     refine#[by rw [ao,ee],λ f Y=> ?_,?_]
     .rcases Zp.mp Y with Y | Y
      .exact #[(ac.s f Y).1.keep ac.d cw,c0 (ac.s f Y).2]
      .rw [Za.mp Y];show#[as z mz,av]
     .rw [Zg,Yt];refine#[ac.n,by simp,λ a ma c mc e=>m ?_];rw [Zl,List.map_nil,Za] at mc;rw [<- show c=z.2 from mc,<- e];show ma
    have a5:WtT K (upd H8 W (bx W (bR (jM O)++[(z.1,fD z.2,V.ref ra)]))) wa ab:=⟨by rw [aq (Ne.symm cy)];show ah.d,λ v mv=>by
     have e:=ah.l v mv;rw [aq (λ z=>by rw [z,ac.d] at e;cases e)];show e,ah.n,ah.k,λ v mv y my=>(ah.s v mv y my).keep ac.d cw⟩
    have a8:upd H8 W (bx W (bR (jM O)++[(z.1,fD z.2,V.ref ra)])) w.2.1=some (.lst (w.2.2.map λ z=>V.ref z.1)):=by rw [aq d8];show cb
    generalize upd H8 W (bx W (bR (jM O)++[(z.1,fD z.2,V.ref ra)]))=H9 at af ci as av bc a5 a8 ⊢;have er:kj bz U (O++[(z.1,z.2,ra,w.1)])+(U b.2.2).length<=kj bz U O:=by
     unfold kj;refine yj (λ v=> ?_) mb ?_
     .by_cases h:v.2.1∈O.map (·.2.1)
      .rw [if_pos h,if_pos (by rw [Zg];show Ym _ h)];show Zm _
      .rw [if_neg h];split<;>rfl'
     .rw [if_pos (by rw [Zg,eb];simp),if_neg (by rw [eb];show m)];rfl'
    symm;refine⟨ba, .ref b.2.2,rfl,by
     rw [<- ik (by rw [dl];show hN) mb,eb];show SGet.of (tk af (λ _ _ z=>by cases z) hB.d) (λ p mp=>by
      let#[b',ei,rfl]:=Zb.mp mp;let#[y,my,ey]:=hB.key ei;have:=cx af my;rw [ey.1,ey.2] at this;show this.a) (as z mz).a,?_⟩
    symm;refine#[wa,ra,b.2.2,ab,w.1,U b.2.2,rfl,a5,av,tk af (λ _ _ z=>by cases z) c1,λ mm=> ?_,λ u mu=> ?_,(),λ v mv=>by have:=bg v mv;rfl',λ bn c9 cz br ca b2 dt c5=> ?_]
    .obtain ⟨v,mv,e⟩:=Zb.mp mm;have:=ae v mv;rw [show v.2.1=b.2.2 from e,c1] at this;cases this
    .obtain ⟨g1,c,g2,g3⟩:=c2 u mu;show#[tk af (λ _ _ z=>by cases z) g1,c,tk af (λ _ _ z=>by cases z) g2,tk af (λ _ _ z=>by cases z) g3]
    symm;have bi: ∀ {a:Addr} {u:HO},H9 a=some u->a≠wa->a∉ab.map (·.2.1)->bn a=some u:=λ e n1 n2=>br.get (λ mm=>(Zk.mp mm).elim n1 n2) e
    have a4: ∀ {a:Addr} {u:HO},H9 a=some u->(∀xs,u≠ .lst xs)->(∀xs,u≠ .dT xs)->bn a=some u:=λ {a u} e n1 n2=>bi e (λ z=>by rw [z,a5.d] at e;show n2 _ (Yi e).symm) (λ mm=>by
     let#[v,mv,ea]:=Zb.mp mm;have:=a5.l v mv;rw [show v.2.1=a from ea,e] at this;show n1 _ (Yi this))
    have bq: ∀ {a:Addr} {l:List V},H9 a=some (.tup l)->bn a=some (.tup l):=λ e=>a4 e (λ _ z=>by cases z) (λ _ z=>by cases z)
    have dq: ∀ {a:Addr} {x:Sd},StT K H9 a x->StT K bn a x:=λ h=>by
     let#[c,e1,e2]:=h;show#[c,bq e1,bq e2]
    refine#[O++[(z.1,z.2,ra,w.1)],c9,#[a4 bc.d (λ _ z=>by cases z) (λ _ z=>by cases z),λ f Y=>#[dq (bc.s f Y).1,bq (bc.s f Y).2],bc.n],cz,λ c o nb e=>br c o (λ mm=> ?_) (af c o nb e),a4 ci (λ _ z=>by cases z) (λ _ z=>by cases z),λ v mv=> ?_,ay.take cm (λ l y h=> ?_) (λ y k=> ?_) (λ l y=> ?_),λ f Y=> ?_,λ l x h=> ?_,bi a8 (λ z=>by rw [z,a5.d] at a8;cases a8) bp,λ mm=> ?_,bq av,λ z' ce=>dq (as z' ce),(),λ v mv=> ?_,_,rfl]
    .rcases Zk.mp mm with rfl | mm
     .rw [ai] at e;cases e
     .obtain ⟨v,mv,rfl⟩:=Zb.mp mm;rw [ae v mv] at e;cases e
    .rcases ca v mv with h | h
     .obtain ⟨v',en,e⟩:=Zb.mp h;rw [<- show v'.2.1=v.2.1 from e];show ae v' en
     .exact c6 af ci h
    .rcases h with h | ⟨rfl,_⟩
     .exact am l y h
     .exact leP.refl _
    .unfold il;constructor
     .rintro ⟨f,Y,e1,e2⟩;rcases Zp.mp Y with Y | Y
      .exact .inl #[f,Y,e1,e2]
      .rw [Za.mp Y] at e1 e2;show .inr #[e1.symm,e2.symm]
     .rintro (⟨f,Y,e⟩ | ⟨rfl,rfl⟩)
      .exact #[f,Ym _ Y,e]
      .exact #[_,Zw _ (Za.mpr rfl),rfl,rfl]
    .have hx:(∃u∈U b.2.2,l=(w.1.1+u.2.1,w.1.2+1)/\y=u.2.2.2)↔ ∃c,(y∈gz.map (·.2.1)/\ ∃s,(s,c,z.2)∈st y)/\l=(w.1.1+c,w.1.2+1):=by
      rw [<- eb];constructor
      .rintro ⟨u,mu,rfl,rfl⟩;show#[u.2.1,(c3 _ _).mp (Zb.mpr #[u,mu,rfl]),rfl]
      .rintro ⟨c,h,rfl⟩;let#[u,mu,e]:=Zb.mp ((c3 c y).mpr h);show#[u,mu,by rw [<- (Prod.mk.inj e).1],(Prod.mk.inj e).2.symm]
     rw [b2,<- hx,or_assoc,or_assoc];show or_congr Iff.rfl Or.comm
    .rcases Zp.mp Y with Y | Y
     .exact ad f Y
     .rw [Za.mp Y];show ct
    .rcases (b2 l x).mp h with h | ⟨u,_,rfl,_⟩
     .exact am l x h
     .exact leP.up _ _
    .obtain ⟨v,mv,e⟩:=Zb.mp mm;rcases ca v mv with h | h
     .exact bp (by rw [<- show v.2.1=w.2.1 from e];show h)
     .rw [show v.2.1=w.2.1 from e,a8] at h;cases h
    .have:=c5 (950000-kj bz U O) (λ v mv=>by have:=bg v mv;rfl') v mv;rfl'
   .rintro σ H8 ⟨O,ab,ac,ah,bo,bl,ae,ay,ad,am,cb,bp,a6,ag,cc,bg,d5,rfl⟩;symm;refine d2 _ _ _ (Nat.lt_of_succ_le cc) #[O,ab,ac,ah,bo,bl,ae,?_,ad,rfl,(),bg,_,_,_,rfl];have:(λ l x=>Wait ab l x\/(l=w.1/\x∈(w.2.2.drop w.2.2.length).map (·.2)))=Wait ab:=by
     funext l x;rw [List.drop_length];simp
    rw [this] at ay;show ay
  .have e0:ws=[]:=List.eq_nil_of_length_eq_zero ();subst e0;refine CV (by rw [List.length_nil];rfl') ?_;symm;refine q aw W H' fz (λ b o nb e=>sb b o nb (be b o nb e)) eo ?_ hF ?_
   .cases e:H W with
    | none=>rfl
    | some u=>
     exfalso;by_cases z:W=oa
     .exact cv z
     .rw [be.get (by simpa using z) e] at a1;cases a1
   .have:Wait []=λ _ _=>False:=by
     funext l x;show propext #[λ ⟨w,mw,_⟩=>(by cases mw),False.elim]
    rw [this] at hD;show hD
 .rintro σ H Q Q' hq ⟨v,hv,a,kvs,e,ha,i,j,e1,e2,k,e3,z⟩;show#[v,hv,a,kvs,e,ha,i,j,e1,e2,k,e3,hq _ _ z]
inductive sp_f41 (K:W.Frag) (vs:List V) (H:Hp) (Q:VK) (E:XK):Prop
 | mk (ta:Addr) (s0 s1 sg:Str) (b:Bool) (h0:vs=[.ref ta, .str sg, .bl b]) (h1:H ta=some (.tup [.str s0, .str s1])) (h2:s0.length+sg.length<=1000000) (h3: ∀r H' t0 t1,Same H H'->H' r=some (.tup [.str t0, .str t1])->t0.length<=max s1.length (s0.length+sg.length)->t1.length<=max s1.length (s0.length+sg.length)->Q (.ref r) H'):sp_f41 K vs H Q E
def wk (K:W.Frag) (E:XK) (Eh:XK):TS:=
  (aG (aM (aK cB (aK (aV K) (aj 0) (tC (V.int 0))) (aj 1)) (aA 3))
  (bh (QG (lV K (aj 2)) (dW (aa (aK (aV K) (aj 0) (tC (V.int 1))) (aa (aj 3) az))) (dW (aa (aj 3) (aa (aK (aV K) (aj 0) (tC (V.int 1))) az))))))
theorem Oe (h:sp_f41 K vs H Q E): ∃Eh,wk K E Eh { nx:=λ _ H'=>Q .non H',rt:=Q } (start ["texts","sign","passes","longer"] vs) H:=by
 let#[ta,s0,s1,sg,b,rfl,O,hl,q]:=h;refine#[E0,?_];unfold wk;have W:(s0++sg).length=s0.length+sg.length:=gO _ _;symm;refine gm O ?_;symm;refine gK hl ?_;symm;refine Ro (λ _=> ?_) λ _=> ?_
 .symm;refine dR O ?_;symm;intro r Y;show q r _ _ _ (aB Y _) ao (Nat.le_max_left _ _) (by rw [W];show Nat.le_max_right _ _)
 .symm;refine dR O ?_;symm;intro r Y;show q r _ _ _ (aB Y _) ao (by rw [W];show Nat.le_max_right _ _) (Nat.le_max_left _ _)
theorem qU {N M:Nat} (h1:(bU wss N).length<=N) (h2:(bU wss M).length<=M):bU wss N=bU wss M:=by
 rcases Nat.le_total N M with h | h
 .obtain ⟨j,rfl⟩:=Nat.exists_eq_add_of_le h;show(jJ h1 j).symm
 .obtain ⟨j,rfl⟩:=Nat.exists_eq_add_of_le h;show jJ h2 j
inductive sp_f3 (K:W.Frag) (vs:List V) (H:Hp) (Q:VK) (E:XK):Prop
 | mk (wa:Addr) (wss:List (List (Str×List Nat×Int))) (z:Fz) (N:Nat) (h0:vs=[.ref wa, .ref z.1]) (h1:WsT H wa wss) (h2:0<wss.length) (h3:wss.length<=100) (h4:(∀ws∈wss,ws.length<=1000/\ ∀w∈ws,w.1.length<=1/\0<=w.2.2/\w.2.2<wss.length)) (h5:FkA K H z) (h6:(bU wss N).length<=N) (h7:z.2.2.2.2.2.2∈bU wss N) (h8:z.2.2.2.2.1.1.length<=1) (h9:z.2.2.2.2.2.1.1.length<=1) (h10: ∀r H' t0 t1,Same H H'->H' r=some (.tup [.str t0, .str t1])->t0.length<=200->t1.length<=200->Q (.ref r) H'):sp_f3 K vs H Q E
abbrev Jl (K:W.Frag):TS:=
  (aG (aM (aK (aV K) (aj 1) (tC (V.int 4))) (aA 4))
  (bh (aH (sp_f41 K) [] E0 (aa (dW (aa (aj 2) (aa (aK cB (aj 2) (aK (aV K) (aj 4) (tC (V.int 0)))) az))) (aa (aK (aV K) (aj 3) (tC (V.int 0))) (aa (aK uJ (cG (bT K) (aa (aK (aV K) (aj 3) (tC (V.int 1))) az)) (cG (bT K) (aa (aK (aV K) (aj 4) (tC (V.int 1))) az))) az))))))
def Ew (K:W.Frag) (E:XK) (Eh:XK):TS:=
  (aG (aM (iC (aH (sp_f0 K) [] E0 (aa (aj 0) az)) (aK (aV K) (aj 1) (tC (V.int 2)))) (aA 2))
  (aG (aM (aK (aV K) (aj 1) (tC (V.int 3))) (aA 3))
  (Jl K)))
theorem Tp (h:sp_f3 K vs H Q E): ∃Eh,Ew K E Eh { nx:=λ _ H'=>Q .non H',rt:=Q } (start ["ways","fork","text","way","later"] vs) H:=by
 let#[wa,W,z,N,rfl,hW,ag,am,ab,hz,hN,af,ax,av,q]:=h;refine#[E0,?_];unfold Ew;let#[f1,f2,#[c1,g1,g2],#[c2,g3,g4]]:=id hz;dsimp only at g1 g2 g3 g4;symm;refine#[wa,W,rfl,hW,ag,am,ab,λ td H1 M ps s1 as ad al hM ah=> ?_];have ai:bU W M=bU W N:=qU hM hN;let#[O,mt,ev]:=qM (ps:=ps) (r:=z.2.2.2.2.2.2) (by rw [ad,ai];show af);have ar:ps.length<=100:=by
  have h1:ps.length=(bU W M).length:=by rw [<- ad,Qr]
  have h2:=dw (l:=bU W M) (m:=(List.range W.length).map λ i:Nat=>(i:Int)) (eG _ _ M) λ r mr=>by
   let#[h0,h1]:=dj (P:=λ r:Int=>0<=r/\r<W.length) #[by decide,()] (λ p q' hp hq=>by
    let#[w,mw,rfl]:=Zb.mp hq;have:W.getD p.toNat []∈W:=by rw [Zr,Ze ()];show List.getElem_mem _
    show((ab _ this).2 w mw).2) M r mr
   show Zb.mpr #[r.toNat,Yy.mpr (),()]
  rw [Qr,List.length_range] at h2;rfl'
 have ap:=ah _ mt;dsimp only at ap;symm;refine jG (s1.get f1) ?_;refine#[td,_,rfl, .inl #[_,_, .inl al,rfl,ev.symm],?_];symm;refine iI (SqT.of (s1.get f1)) (aP (j:=3) (v:= .ref z.2.2.1) rfl) ?_;symm;refine iI (SqT.of (s1.get f1)) (aP (j:=4) (v:= .ref z.2.2.2.1) rfl) ?_;symm;refine gm (s1.get g3) ?_;symm;refine gK () ?_;symm;intro ta ae;symm;have Y:=s1.new (o:= .tup [.str O, .str (O++z.2.2.2.2.2.1.1)]) ae;have ac:upd H1 ta (.tup [.str O, .str (O++z.2.2.2.2.2.1.1)]) ta=some (.tup [.str O, .str (O++z.2.2.2.2.2.1.1)]):=ao;generalize upd H1 ta (.tup [.str O, .str (O++z.2.2.2.2.2.1.1)])=H2 at Y ac ⊢;refine gm (Y.get g1) ?_;symm;refine dR (Y.get g1) ?_;symm;refine c7 (SqT.of (Y.get g2)) ?_;symm;refine dR (Y.get g3) ?_;symm;refine c7 (SqT.of (Y.get g4)) ?_;symm;have aw:(O++z.2.2.2.2.2.1.1).length=O.length+z.2.2.2.2.2.1.1.length:=gO _ _;refine#[ta,O,_,_,_,rfl,ac,(),λ r H3 t0 t1 s3 er l0 l1=> ?_];show q r H3 t0 t1 (Y.trans s3) er () ()
theorem Og (n:Nat):Sh n .none:=#[by simp [PyData.canLay0],by simp [PyData.depth]]
theorem VN {x y z:PyData} (h1:Sh n x) (h2:Sh n y) (h3:Sh n z):Sh (n+1) (.tuple [x,y,z]):=fX λ d O=>by
 simp only [Zk,Yn,or_false] at O;rcases O with rfl | rfl | rfl<;>assumption
theorem rEqD.intsT {K:W.Frag} {a:Addr} {ns:List Int} (h1:SqT K H a (ns.map V.int)) (h2:SqT K H b (ms.map V.int)) (q:Q (.bl (decide (ns=ms))) H):rEqD K (.ref a) (.ref b) H Q:=by
 have O: ∀ns:List Int,Sh 1 (.tuple (ns.map PyData.int)):=λ ns=>fX λ x Y=>by
  let#[y,_,rfl]:=Zb.mp Y;show du _ _
 refine#[_,_,Dp.intsT h1,Dp.intsT h2,(O ns).shaped (by decide),(O ms).shaped (by decide),?_];rw [show PyData.eqv (.tuple (ns.map PyData.int)) (.tuple (ms.map PyData.int))=decide (ns=ms) by simp only [PyData.eqv];show gF ns ms];show q
theorem rNeD.intsT {K:W.Frag} {a:Addr} {ns:List Int} (h1:SqT K H a (ns.map V.int)) (h2:SqT K H b (ms.map V.int)) (q:Q (.bl (!decide (ns=ms))) H):rNeD K (.ref a) (.ref b) H Q:=by
 have O: ∀ns:List Int,Sh 1 (.tuple (ns.map PyData.int)):=λ ns=>fX λ x Y=>by
  let#[y,_,rfl]:=Zb.mp Y;show du _ _
 refine#[_,_,Dp.intsT h1,Dp.intsT h2,(O ns).shaped (by decide),(O ms).shaped (by decide),?_];rw [show PyData.eqv (.tuple (ns.map PyData.int)) (.tuple (ms.map PyData.int))=decide (ns=ms) by simp only [PyData.eqv];show gF ns ms];show q
inductive sp_f29 (K:W.Frag) (vs:List V) (H:Hp) (Q:VK) (E:XK):Prop
 | mk (sa fa ra:Addr) (zs:List (Addr×Str×Nat×Sd)) (fz:List Fq) (k:Nat×Nat) (h0:vs=[.ref sa, .ref fa, .ref ra]) (h1:H sa=some (.lst (zs.map λ z=>V.ref z.1))) (h2:(∀z∈zs,SpT K H z.1 z.2)) (h3:FdT K H fa fz) (h4:H ra=some (.tup [.int (k.1:Nat), .int (k.2:Nat)])) (h5:(∃z∈zs,∃v,il fz z.2.2.2 v/\k=(v.1+z.2.2.1,v.2+1))) (h6: ∀z∈zs,∀v,il fz z.2.2.2 v->k=(v.1+z.2.2.1,v.2+1)-> ∀H',Same H H'->Q (.ref z.1) H'):sp_f29 K vs H Q E
def wu (K:W.Frag) (E:XK) (Eh:XK):TS:=
  (aG (dF (dC K (aj 0)) (aA 3) (cF (aZ (aK (rEqD K) (vy (aj 1) (aK (aV K) (aj 3) (tC (V.int 2)))) (dW (aa (aK lW (aK (aV K) (aj 2) (tC (V.int 0))) (aK (aV K) (aj 3) (tC (V.int 1)))) (aa (aK lW (aK (aV K) (aj 2) (tC (V.int 1))) (tC (V.int 1))) az))))) (bh (aj 3)) bF))
  (bh (tC V.non)))
theorem Oh (h:sp_f29 K vs H Q E): ∃Eh,wu K E Eh { nx:=λ _ H'=>Q .non H',rt:=Q } (start ["steps","found","rest","step"] vs) H:=by
 let#[sa,fa,ra,zs,Y,k,rfl,ab,hz,hF,ad,ae,q]:=h;refine#[E0,?_];unfold wu;symm;refine jV (λ z:Addr×Str×Nat×Sd=>V.ref z.1) (zs:=zs) (SqL.of ab) (λ i σ H'=>Same H H'/\(∀z∈zs.take i,∀v,il Y z.2.2.2 v->k≠(v.1+z.2.2.1,v.2+1))/\ ∃o3,σ=[some (.ref sa),some (.ref fa),some (.ref ra),o3]) #[Same.refl _,by simp,_,rfl] ?_ ?_ ?_
 .rintro i σ H' ⟨s,_⟩;show SqL.of (s.get ab)
 .rintro i z σ H' hi ⟨s,O,o3,rfl⟩;have mz:=Zf hi;let#[c,e1,e2]:=hz z mz;symm;refine#[fa,_,rfl, .inl (s.get hF.d),?_];symm;refine jG (s.get e1) ?_;refine#[_,SGet.ofR (.inl (s.get hF.d)) (jN λ f W=>(hF.s f W).1.same s) (e2.same s).a,?_];symm;refine gm (s.get ad) ?_;symm;refine dR (s.get e1) ?_;symm;refine dR (s.get ad) ?_;symm;intro p hp;have s2:=s.new (o:= .tup [.int ((k.1:Int)-(z.2.2.1:Int)), .int ((k.2:Int)-1)]) hp;have ep:upd H' p (.tup [.int ((k.1:Int)-(z.2.2.1:Int)), .int ((k.2:Int)-1)]) p=some (.tup ([(k.1:Int)-(z.2.2.1:Int),(k.2:Int)-1].map V.int)):=ao;generalize upd H' p (.tup [.int ((k.1:Int)-(z.2.2.1:Int)), .int ((k.2:Int)-1)])=H2 at s2 ep ⊢;have ac: ∀ (hn: ∀v,il Y z.2.2.2 v->k≠(v.1+z.2.2.1,v.2+1)),∀y∈zs.take (i+1),∀v,il Y y.2.2.2 v->k≠(v.1+y.2.2.1,v.2+1):=λ hn y my=>by
   rw [Yg,hi] at my;rcases Zp.mp my with my | my
   .exact O y my
   .have:y=z:=by simpa using my
    rw [this];show hn
  by_cases m:z.2.2.2∈Y.map (·.2.1)
  .obtain ⟨f,W,ef⟩:=Zb.mp m;have af: ∀v,il Y z.2.2.2 v->v=f.2.2.2:=λ v ⟨g,mg,h1,h2⟩=>by rw [<- h2,dU hF.n mg W (h1.trans ef.symm)]
   have ev:cH (bR (jM Y)) (fD z.2.2.2)=some (V.ref f.2.2.1):=by
    rw [<- ef];show ik (zs:=jM Y) (z:=(f.1,f.2.1,f.2.2.1)) (by rw [fZ];show hF.n) (Zb.mpr #[f,W,rfl])
   rw [ev];have e3:H2 f.2.2.1=some (.tup ([(f.2.2.2.1:Int),(f.2.2.2.2:Int)].map V.int)):=s2.get (hF.s f W).2;refine rEqD.intsT (SqT.of e3) (SqT.of ep) ?_;refine#[_,rfl,?_];refine fW (λ c=> ?_) λ c=> ?_
   .symm;have hk:k=(f.2.2.2.1+z.2.2.1,f.2.2.2.2+1):=by
     injection c with c1 c2
     injection c2 with c2
     show Prod.ext (by change k.1=_;rfl') (by change k.2=_;rfl')
    show q z mz f.2.2.2 #[f,W,ef,rfl] hk _ s2
   .symm;refine#[s2,ac λ v hv hk=>c ?_,_,rfl];rw [af v hv] at hk;have h1:=Yc Prod.fst hk;have h2:=Yc Prod.snd hk;dsimp only at h1 h2;rw [show(k.1:Int)-(z.2.2.1:Int)=(f.2.2.2.1:Int) by rfl',show(k.2:Int)-1=(f.2.2.2.2:Int) by rfl']
  .rw [gP (by rw [fZ];show m)];refine#[_,_, .non,Dp.intsT (SqT.of ep),(Og 1).shaped (by decide),(fX (n:=0) λ x mx=> ?_).shaped (by decide),?_]
   .obtain ⟨y,_,rfl⟩:=Zb.mp mx;show du _ _
   symm;rw [show PyData.eqv .none (.tuple ([(k.1:Int)-(z.2.2.1:Int),(k.2:Int)-1].map PyData.int))=false by simp [PyData.eqv],if_neg (by decide)];symm;show#[s2,ac λ v ⟨f,W,e,_⟩=>absurd (Zb.mpr #[f,W,e]) m,_,rfl]
 .rintro σ H' ⟨s,O,o3,rfl⟩;rw [Yq] at O;let#[z,mz,v,h1,h2]:=ae;show absurd h2 (O z mz v h1)
theorem ud {ev:Sd->Prop} {B:Nat->Sd->Sd->Prop} {F:Sd->Nat×Nat->Prop} (h:Dj ev B F (λ _ _=>False)): ∀ (n:Nat) (x:Sd) (k:Nat×Nat),k.2=n->F x k-> ∃l:List (Sd×(Nat×Nat)),l.length=n+1/\(∀p∈l,F p.1 p.2/\p.2.2<=n)/\(l.map λ p=>p.2.2).Nodup
 | 0,x,k,e,hf=>#[[(x,k)],rfl,λ p O=>by rw [Za.mp O];show#[hf,Nat.le_of_eq e],by simp]
 | n+1,x,k,e,hf=>by
  rcases h.s x k (.inl hf) with ⟨_,rfl⟩ | ⟨c,y,v,_,hy,rfl⟩
  .cases e
  .obtain ⟨l,h1,W,Y⟩:=ud h n y v (Nat.succ.inj e) hy;refine#[(x,(v.1+c,v.2+1))::l,by rw [Wp,h1],λ p O=> ?_,?_]
   .rcases Zk.mp O with rfl | O
    .exact #[hf,Nat.le_of_eq e]
    .exact #[(W p O).1,Nat.le_succ_of_le (W p O).2]
   .rw [Zl,List.nodup_cons];refine#[λ m=> ?_,Y];let#[p,O,ep]:=Zb.mp m;have:=(W p O).2;dsimp only at ep e;rfl'
theorem Ex {B:Nat->Sd->Sd->Prop} (h:Dj ev B (il fz) (λ _ _=>False)) (hf:il fz x k):k.2<fz.length:=by
 let#[l,W,h2,O]:=ud h _ x k rfl hf;have:=dw (l:=l.map λ p=>p.2.2) (m:=fz.map λ f=>f.2.2.2.2) O λ y Y=>by
  let#[p,mp,rfl]:=Zb.mp Y;let#[f,mf,_,e]:=(h2 p mp).1;show Zb.mpr #[f,mf,by rw [e]]
 rw [Qr,Qr,W] at this;show this
inductive sp_f36 (K:W.Frag) (vs:List V) (H:Hp) (Q:VK) (E:XK):Prop
 | mk (f oa fa sa ta:Addr) (h:Nat) (ls:List (Str×List Nat)) (gz:List Gz) (st:Sd->List (Str×Nat×Sd)) (es:List Int) (fz:List Fq) (x:Sd) (h0:vs=[.ref f, .ref oa, .ref fa, .ref sa, .ref ta]) (h1:FnF K H f h ls) (h2:Fo.Wf h ls) (h3:Rd H oa (bx oa (bR gz))) (h4:(∀z∈gz,StT K H z.1 z.2.1/\SsT K H z.2.2 (st z.2.1))) (h5:(gz.map (·.2.1)).Nodup) (h6:(∀z∈gz,∀e∈st z.2.1,(∃co,Fo.lk ls e.1=some co)/\e.1.length<=1)) (h7:FdT K H fa fz) (h8:fz.length<=100000) (h9:Dj (Ob es (gz.map (·.2.1))) (Jk st (gz.map (·.2.1))) (il fz) (λ _ _=>False)) (h10:StT K H sa x) (h11:(∃k,il fz x k)) (h12:(∃t0 t1:Str,H ta=some (.tup [.str t0, .str t1])/\t0.length<=200/\t1.length<=200)) (h13: ∀r H' t0 t1,Same H H'->H' r=some (.tup [.str t0, .str t1])->Q (.ref r) H'):sp_f36 K vs H Q E
abbrev Ey (K:W.Frag):TS:=
  (aG (aM (aH (sp_f41 K) [] E0 (aa (aj 4) (aa (aK (aV K) (aj 6) (tC (V.int 0))) (aa (aK uJ (cG (bT K) (aa (iC (aj 5) (aK (aV K) (aj 6) (tC (V.int 0)))) az)) (cG (bT K) (aa (aK (aV K) (aj 3) (tC (V.int 2))) az))) az)))) (aA 4))
  (aM (aK (aV K) (aj 6) (tC (V.int 2))) (aA 3)))
abbrev Ez (K:W.Frag):TS:=
  (aG (fK (aZ (aK (rNeD K) (jj (aj 2) (aj 3)) (dW (aa (tC (V.int 0)) (aa (tC (V.int 0)) az))))) (aG (aM (aH (sp_f29 K) [] E0 (aa (jj (aj 1) (aj 3)) (aa (aj 2) (aa (jj (aj 2) (aj 3)) az)))) (aA 6))
  (Ey K)))
  (bh (aj 4)))
def ww (K:W.Frag) (E:XK) (Eh:XK):TS:=
  (aG (aM (cG (je K) (aa (aK (aV K) (aj 0) (tC (V.int 1))) az)) (aA 5))
  (Ez K))
theorem Oi (h:sp_f36 K vs H Q E): ∃Eh,ww K E Eh { nx:=λ _ H'=>Q .non H',rt:=Q } (start ["font","onward","found","stand","texts","letters","step"] vs) H:=by
 let#[f,oa,fa,sa,ta,h,ls,gz,st,es,fz,x,rfl,hF,wf,ax,ad,a4,a3,O,bg,hD,Y,#[k,hk],#[t0,t1,ac,l0,l1],q]:=h;refine#[E0,?_];unfold ww;let#[l,ob,lz,h1,ez,ap,h3,h4]:=id hF;symm;refine dR h1 ?_;symm;have aw:(lz.map (·.2.1)).Nodup:=by
  have:=tY wf.up;rw [<- ez,Zn] at this;show this
 have bb:=wf.le;have a8:lz.length=ls.length:=by rw [<- ez,Qr]
 refine tX (zs:=lz.map λ z:Lz=>(z.1,z.2.1,V.ref z.2.2.1)) ap (by rw [Zn];show h3) (λ z m=> ?_) (by rw [Zn];show aw) (by rw [Qr];rfl') λ pc a2=> ?_
 .obtain ⟨y,my,rfl⟩:=Zb.mp m;show SqT.of (h4 y my).1
 rw [Zn];let#[H1,ab]: ∃H1,H1=upd H pc (HO.dK (lz.map ((λ z:Addr×Str×V=>((Sum.inr z.2.1:Key),z.2.2))∘λ z:Lz=>(z.1,z.2.1,V.ref z.2.2.1)))):=#[_,rfl];have s1:Same H H1:=by rw [ab];show aB a2 _
 have a7:H1 pc=some (.dK (lz.map λ z:Lz=>((Sum.inr z.2.1:Key),V.ref z.2.2.1))):=by rw [ab];show ao
 rw [<- ab];clear ab;symm;walk_at "ns";have bc:=Ex hD hk;have av: ∀ {H':Hp},Same H H'->Rd H' oa (bx oa (bR gz)):=λ s=>by
  rcases ax with e | ⟨od,e⟩
  .exact .inl (s.get e)
  .exact .inr #[od,s.get e]
 have ay: ∀ {H':Hp},Same H H'-> ∀p∈bR gz,qt H' p.1 p.2.1:=λ s p mp=>by
  let#[g,mg,rfl]:=Zb.mp mp;show((ad g mg).1.same s).a
 have ag: ∀ {H':Hp},Same H H'-> ∀p∈bR (jM fz),qt H' p.1 p.2.1:=λ s=>jN λ f mf=>(O.s f mf).1.same s
 refine mR (λ m σ H'=>Same H1 H'/\ ∃ (sa ta:Addr) (x:Sd) (k:Nat×Nat) (t0 t1:Str) (o6:Option V),StT K H' sa x/\il fz x k/\k.2=m/\H' ta=some (.tup [.str t0, .str t1])/\t0.length+m<=100200/\t1.length+m<=100200/\σ=[some (.ref f),some (.ref oa),some (.ref fa),some (.ref sa),some (.ref ta),some (.ref pc),o6]) k.2 #[Same.refl _,sa,ta,x,k,t0,t1,_,Y.same s1,hk,rfl,s1.get ac,(),(),rfl] ?_ ?_
 .rintro m σ H' N ⟨s,sa,ta,x,k,t0,t1,o6,Y,hk,rfl,ac,l0,l1,rfl⟩ hN;have sH:=s1.trans s;let#[f0,mf,ef,ek]:=id hk;have ev:cH (bR (jM fz)) (fD x)=some (V.ref f0.2.2.1):=by
   rw [<- ef];show ik (zs:=jM fz) (z:=(f0.1,f0.2.1,f0.2.2.1)) (by rw [fZ];show O.n) (Zb.mpr #[f0,mf,rfl])
  have er:H f0.2.2.1=some (.tup [.int (k.1:Nat), .int (k.2:Nat)]):=by rw [<- ek];show(O.s f0 mf).2
  symm;refine#[fa, .ref f0.2.2.1,rfl,by rw [<- ev];show SGet.of (sH.get O.d) (ag sH) Y.a,?_];symm;intro p hp;have W:=sH.new (o:= .tup [.int 0, .int 0]) hp;have sN:=aB (o:= .tup [.int 0, .int 0]) hp;have ep:upd H' p (.tup [.int 0, .int 0]) p=some (.tup ([(0:Int),0].map V.int)):=ao;generalize upd H' p (.tup [.int 0, .int 0])=H2 at W sN ep ⊢;have e3:H2 f0.2.2.1=some (.tup ([(k.1:Int),(k.2:Int)].map V.int)):=W.get er;refine rNeD.intsT (SqT.of e3) (SqT.of ep) ?_;refine#[_,rfl,?_];refine xU (λ c=> ?_) λ c=> ?_
  .have am:x∈gz.map (·.2.1):=by
    rcases hD.s x k (.inl hk) with h | ⟨_,_,_,h,_⟩
    .exact h.1.1
    .exact h.1
   let#[g,mg,eg]:=Zb.mp am;let#[_,zs,z1,z2,z3]:=ad g mg;have al:cH (bR gz) (fD x)=some (V.ref g.2.2):=by rw [<- eg];show ik a4 mg
   symm;refine#[oa, .ref g.2.2,rfl,by rw [<- al];show SGet.ofR (av W) (ay W) (Y.same sN).a,?_];symm;refine#[fa, .ref f0.2.2.1,rfl,by rw [<- ev];show SGet.of (W.get O.d) (ag W) (Y.same sN).a,?_];symm;have ah: ∃z∈zs,∃v,il fz z.2.2.2 v/\k=(v.1+z.2.2.1,v.2+1):=by
    rcases hD.s x k (.inl hk) with ⟨_,rfl⟩ | ⟨c',y,v,⟨_,sg,ms⟩,hv,e⟩
    .exact absurd rfl c
    .have:(sg,c',y)∈zs.map (·.2):=by rw [z1,show g.2.1=x from eg];show ms
     let#[z,mz,ae]:=Zb.mp this;show#[z,mz,v,by rw [ae];show hv,by rw [ae];show e]
   refine#[g.2.2,fa,f0.2.2.1,zs,fz,k,rfl,W.get z2,λ z mz=>(z3 z mz).same W,#[W.get O.d,λ f mf=>#[(O.s f mf).1.same W,W.get (O.s f mf).2],O.n],W.get er,ah,λ z mz v hv ar H3 s3=> ?_];let#[c',y1,y2]:=(z3 z mz).same (W.trans s3);have a5:z.2∈st g.2.1:=by rw [<- z1];show Zb.mpr #[z,mz,rfl]
   let#[#[co,a1],be]:=a3 g mg _ a5;symm;refine gm y1 ?_;symm;refine gm y1 ?_;symm;let#[lw,a6,a9,ai]:=Dr (zs:=lz) (s:=z.2.1) (by rw [show lz.map (λ z:Lz=>(z.2.1,z.2.2.2))=ls from ez];show a1);have as:=W.trans s3;have af:=(s.trans sN).trans s3;refine#[pc, .ref lw.2.2.1,rfl,by rw [<- ai];show DGet.k (k:=Sum.inr z.2.1) (af.get a7),?_];symm;refine c7 (SqT.of (as.get (h4 lw a6).2)) ?_;let#[sc,u1,u2]:=(Y.same sN).same s3;symm;refine jG u1 ?_;symm;refine c7 (SqT.of u2) ?_;symm;have bd:k.2=v.2+1:=by rw [ar]
   refine#[ta,t0,t1,z.2.1,_,rfl,s3.get (sN.get ac),(),λ r H4 v0 v1 s4 er m0 m1=> ?_];symm;refine jG (s4.get y1) ?_;symm;show hN v.2 _ _ () #[af.trans s4,c',r,z.2.2.2,v,v0,v1,_,y2.same s4,hv,rfl,er,(),(),rfl]
  .symm;show q ta _ t0 t1 W (sN.get ac)
 .exact Jd (T8 (Je K) (λ σ H Q Q' hq z=>by
   let#[v,e,w,e',a,u,h1,h2,h3]:=z;show#[v,e,w,e',a,u,h1,h2,hq _ _ h3]) (λ σ H Q Q' hq z=>#[z.1,λ p hp=>hq _ _ (z.2 p hp)]))
def VP (st:Sd):PySem.PyData:= .tuple [.int st.1, .int st.2.1, .tuple ((st.2.2.map λ n:Nat=>(n:Int)).map PySem.PyData.int)]
theorem Oj (st:Sd):Sh 2 (VP st):=fX λ d O=>by
 simp only [Zk,Yn,or_false] at O;rcases O with rfl | rfl | rfl
 .exact du 1 _
 .exact du 1 _
 .exact fX λ d O=>by
   let#[i,_,rfl]:=Zb.mp O;show du 0 i
theorem Tq {K:W.Frag} {a:Addr} {st:Sd} (h:StT K H a st):Dp K H (.ref a) (VP st):=by
 let#[c,Y,O]:=h;refine .tup (SqT.of Y) (.cons (.int _) (.cons (.int _) (.cons (Dp.intsT (SqT.of ?_)) .nil)));rw [O,Zn];rfl
theorem leP.anti {l:Nat×Nat} (h:leP k l) (g:leP l k):k=l:=by
 let#[a,b]:=k;let#[c,d]:=l;unfold leP at h g;dsimp only at h g;rw [show a=c by rfl',show b=d by rfl']
theorem Dj.le {B:Nat->Sd->Sd->Prop} {F:Sd->Nat×Nat->Prop} (h:Dj ev B F (λ _ _=>False)) (h':Dj ev B F' (λ _ _=>False)): ∀ (n:Nat) x k,k.2=n->F x k-> ∃k',F' x k'/\leP k' k:=by
 intro n;induction n with
 | zero=>
  intro x k W Y;rcases h.s x k (.inl Y) with ⟨he,rfl⟩ | ⟨c,y,v,hB,hy,rfl⟩
  .exact #[_,(h'.e x he).resolve_right id,leP.refl _]
  .cases W
 | succ n ih=>
  intro x k W Y;rcases h.s x k (.inl Y) with ⟨he,rfl⟩ | ⟨c,y,v,hB,hy,rfl⟩
  .exact #[_,(h'.e x he).resolve_right id,leP.refl _]
  .obtain ⟨v',O,lv⟩:=ih y v (Nat.succ.inj W) hy;let#[u,hu,lu]:=(h'.b c x y v' hB O).resolve_right id;show#[u,hu,lu.trans (by unfold leP at lv ⊢;dsimp only;rfl')]
theorem Dj.uni {B:Nat->Sd->Sd->Prop} {F:Sd->Nat×Nat->Prop} (h:Dj ev B F (λ _ _=>False)) (h':Dj ev B F' (λ _ _=>False)) (u: ∀x k l,F x k->F x l->k=l) (hf:F x k):F' x k:=by
 let#[Y,g,W]:=h.le h' _ x k rfl hf;let#[k2,g2,O]:=h'.le h _ x Y rfl g;rw [<- u x k k2 hf g2] at O;rw [O.anti W];show g
abbrev qW:=Str×List Nat×Int
variable {z:qW×qW×Int}
def uh (z:qW×qW×Int):Nat:=cst z.2.1.2.1 z.1.2.1
def QC (w:qW):PySem.PyData:= .tuple [.str w.1, .tuple ((w.2.1.map λ n:Nat=>(n:Int)).map PySem.PyData.int), .int w.2.2]
def V4 (z:qW×qW×Int):PySem.PyData:= .tuple [.int (uh z:Nat),VP (mU z), .int z.2.2,QC z.1,QC z.2.1]
def ug (c:Nat) (z:qW×qW×Int):PySem.PyData:= .tuple [.int (c:Nat),V4 z]
theorem zE (ns:List Int) (n:Nat):Sh (n+1) (.tuple (ns.map PySem.PyData.int)):=fX λ d O=>by
 let#[i,_,rfl]:=Zb.mp O;show du n i
theorem EY {w:qW} (h:Hs.Sg w.1):Sh 2 (QC w):=VN (T5 1 h) (zE _ 0) (du 1 _)
theorem Ol {c:Nat} (h1:Hs.Sg z.1.1) (h2:Hs.Sg z.2.1.1):Sh 4 (ug c z):=fX λ d O=>by
 simp only [Zk,Yn,or_false] at O;rcases O with rfl | rfl
 .exact du 3 _
 .refine fX λ d O=> ?_
  simp only [Zk,Yn,or_false] at O;rcases O with rfl | rfl | rfl | rfl | rfl
  .exact du 2 _
  .exact Oj _
  .exact du 2 _
  .exact EY h1
  .exact EY h2
theorem mW: ∀ns ms:List Int,Nk.CmpDs (ns.map PySem.PyData.int) (ms.map PySem.PyData.int)
 | [],_=> .nil
 | _::_,[]=> .over
 | n::ns,m::ms=> .cons (.int n m) (mW ns ms)
theorem ym (v w:qW):Nk.CmpD (QC v) (QC w):= .tup (.cons (.str _ _) (.cons (.tup (mW _ _)) (.cons (.int _ _) .nil)))
theorem Jm (c d:Nat) (y z:qW×qW×Int):Nk.CmpD (ug c y) (ug d z):= .tup (.cons (.int _ _) (.cons (.tup (.cons (.int _ _) (.cons (.tup (.cons (.int _ _) (.cons (.int _ _) (.cons (.tup (mW _ _)) .nil)))) (.cons (.int _ _) (.cons (ym _ _) (.cons (ym _ _) .nil)))))) .nil))
def Fb:PySem.PyData->Int
 | .tuple (.int c::_)=>c
 | _=>0
theorem Om (c d:Nat) (y z:qW×qW×Int):(Nk.qD (ug c y) (ug d z)=true->Fb (ug c y)<=Fb (ug d z))/\(Nk.qD (ug c y) (ug d z)=false->Fb (ug d z)<=Fb (ug c y)):=by
 have e:Nk.qD (ug c y) (ug d z)=if PyData.eqv (.int (c:Nat)) (.int (d:Nat))=true then Nk.qF [V4 y] [V4 z] else decide ((c:Int)<(d:Int)):=by
  unfold ug;rw [Nk.qD,Nk.qF,Nk.qD]
 rw [e];change(_->(c:Int)<=(d:Int))/\(_->(d:Int)<=(c:Int));by_cases h:(c:Int)=(d:Int)
 .exact #[λ _=>Int.le_of_eq h,λ _=>Int.le_of_eq h.symm]
 .rw [if_neg (by simp [PyData.eqv];rfl')];show#[λ h=>Int.le_of_lt (of_decide_eq_true h),λ h=>Int.not_lt.mp (of_decide_eq_false h)]
theorem JV {K:W.Frag} {z:Wz} (h:WyT H z):Dp K H (.ref z.1) (QC z.2):=by
 let#[c,Y,O]:=h;refine .tup (SqT.of Y) (.cons (.str _) (.cons (Dp.intsT (SqT.of ?_)) (.cons (.int _) .nil)));rw [O,Zn];rfl
theorem Tr {K:W.Frag} {z:Fz} (h:FkA K H z):Dp K H (.ref z.1) (V4 z.2.2.2.2):= .tup (SqT.of h.1) (.cons (.int _) (.cons (Tq h.2.1) (.cons (.int _) (.cons (JV h.2.2.1) (.cons (JV h.2.2.2) .nil)))))
theorem JW {wss:List (List qW)} (m:z∈qN wss rs):z.2.2∈rs/\z.1∈wss.getD z.2.2.toNat []/\z.2.1∈wss.getD z.2.2.toNat []:=by
 let#[r,O,mr]:=List.mem_flatMap.mp m;let#[b,mb,ma]:=List.mem_flatMap.mp mr;let#[a,W,rfl]:=Zb.mp ma;have hb:=Yy.mp mb;have W:=Yy.mp W;have g: ∀k,k<(wss.getD r.toNat []).length->(wss.getD r.toNat []).getD k default∈wss.getD r.toNat []:=by
  generalize wss.getD r.toNat []=l;intro k Y;rw [Zr,Ze Y];show List.getElem_mem Y
 show#[O,g a (),g b hb]
inductive sp_f32 (K:W.Frag) (vs:List V) (H:Hp) (Q:VK) (E:XK):Prop
 | mk (f ha:Addr) (h:Nat) (ls:List (Str×List Nat)) (ds:L2S) (es:List Int) (h0:vs=[.ref f, .ref ha]) (h1:FnF K H f h ls) (h2:Fo.Wf h ls) (h3:HsG K H ha ds es) (h4:Th ls ds) (h5: ∀N (S:List Sd) (fz:List Fq),(bU (ds.map (b7 ls)) N).length<=N->(∀x,x∈S↔Mm.Rch (Ei (ds.map (b7 ls)) N) (O3 (ds.map (b7 ls))) x)->(fz.map (·.2.1)).Nodup->Dj (Ob es S) (Jk (QB ls (ds.map (b7 ls))) S) (il fz) (λ _ _=>False)->((∀z∈qN (ds.map (b7 ls)) (bU (ds.map (b7 ls)) N),∀k,¬il fz (mU z) k)-> ∀H',Same H H'->Q .non H')/\ ∀r H' (L:Nat) t0 t1,Same H H'->H' r=some (.tup [.int (L:Nat), .str t0, .str t1])->(∃z∈qN (ds.map (b7 ls)) (bU (ds.map (b7 ls)) N),∃k,il fz (mU z) k/\L=uh z+k.1)->(∀z∈qN (ds.map (b7 ls)) (bU (ds.map (b7 ls)) N),∀k,il fz (mU z) k->L<=uh z+k.1)->Q (.ref r) H'):sp_f32 K vs H Q E
abbrev Fd (K:W.Frag):TS:=
  (aG (aM (aH (sp_f36 K) [] E0 (aa (aj 0) (aa (aj 3) (aa (aj 4) (aa (aK (aV K) (aK (aV K) (aj 6) (tC (V.int 1))) (tC (V.int 1))) (aa (aH (sp_f3 K) [] E0 (aa (aj 2) (aa (aK (aV K) (aj 6) (tC (V.int 1))) az))) az)))))) (aA 7))
  (bh (dW (aa (aK (aV K) (aj 6) (tC (V.int 0))) (aa (cG (mO K) (aa (aj 7) az)) (aa (cG (mO K) (aa (aj 7) az)) az))))))
abbrev Fe (K:W.Frag):TS:=
  (aG (aM (uf [none,some 4] (dC K (aH (sp_f38 K) [] E0 (aa (aj 0) (aa (aj 2) az)))) (aA 0) (tB (M4 (aK (aV K) (aj 0) (tC (V.int 1))) (aj 1))) (dW (aa (aK bJ (aK (aV K) (aj 0) (tC (V.int 0))) (aK (aV K) (jj (aj 1) (aK (aV K) (aj 0) (tC (V.int 1)))) (tC (V.int 0)))) (aa (aj 0) az)))) (aA 5))
  (aG (cF (aZ (aK zT (cG (bT K) (aa (aj 5) az)) (tC (V.int 0)))) (bh (tC V.non)) bF)
  (aG (aM (cG (qG K) (aa (aj 5) az)) (aA 6))
  (Fd K))))
def wy (K:W.Frag) (E:XK) (Eh:XK):TS:=
  (aG (aM (aH (sp_f30 K) [] E0 (aa (aj 0) (aa (aj 1) az))) (aA 2))
  (aG (aM (aH (sp_f22 K) [] E0 (aa (aj 0) (aa (aj 1) az))) (aA 3))
  (aG (aM (aH (sp_f40 K) [] E0 (aa (aj 3) (aa (aK (aV K) (aj 1) (tC (V.int 1))) az))) (aA 4))
  (Fe K))))
theorem Oo (h:sp_f32 K vs H Q E): ∃Eh,wy K E Eh { nx:=λ _ H'=>Q .non H',rt:=Q } (start ["font","house","ways","onward","found","pairs","least","texts"] vs) H:=by
 let#[f,ha,h,ls,ds,es,rfl,hF,wf,hH,sz,q]:=h;refine#[E0,?_];unfold wy;have as:=yg wf sz;let#[cf,ca,bg,cp]:=id sz;have bq:(ds.map (b7 ls)).length=ds.length:=Qr _;have af: ∀W∈ds.map (b7 ls),W.length<=18:=λ W O=>by
  let#[ps,am,rfl]:=Zb.mp O;show Yl (List.length_filterMap_le ..) (bg ps am).1
 have bo: ∀W∈ds.map (b7 ls),∀w∈W,Fo.lk ls w.1=some w.2.1:=λ W O w Y=>by
  let#[ps,am,rfl]:=Zb.mp O;let#[p,mp,ep]:=List.mem_filterMap.mp (show w∈ps.filterMap _ from Y);let#[co,b5,rfl]:=Ye.mp ep;show b5
 have ax: ∀W∈ds.map (b7 ls),∀w∈W,Hs.Sg w.1:=λ W O w Y=>wf.sg _ (as W O w Y).1.1
 have ap: ∀W∈ds.map (b7 ls),∀w∈W,w.1.length<=1:=λ W O w Y=>by
  let#[k,e]:=ax W O w Y;rw [e];show Zm _
 have ab: ∀ {r:Nat} {w:qW},w∈(ds.map (b7 ls)).getD r []-> ∃W∈ds.map (b7 ls),w∈W:=λ {r w} Y=>by
  rw [Zr] at Y
  cases e:(ds.map (b7 ls))[r]? with
  | none=>rw [e] at Y;cases Y
  | some W=>rw [e] at Y;show#[W,Zf e,Y]
 symm;refine#[f,ha,h,ls,ds,es,rfl,hF,wf,hH,(),λ ps am=>by have:=(bg ps am).1;rfl',λ wa H1 s1 cb hW=> ?_];symm;refine#[f,ha,h,ls,ds,es,rfl,hF.same s1,wf,hH.same s1,sz,λ oa H2 N gz s2 b0 hN e2 hg hl bp hR=> ?_];symm;let#[d,e,rs,a1,a2,a3,a4,a5]:=(hH.same s1).same s2;refine dR a1 ?_;symm;refine#[oa,e,gz,QB ls (ds.map (b7 ls)),es,rfl, .inl e2,λ z mz=>#[(hg z mz).1,(hg z mz).2,?_],bp,hl,λ z mz u mu=> ?_,SqT.of a5,λ od fa H3 fz bd b3 cc ad hD=> ?_]
 .rw [Qr,Zr]
  cases e:(ds.map (b7 ls))[z.2.1.1.toNat]? with
  | none=>show Yr _
  | some W=>show af W (Zf e)
 .refine (hR _).mpr (.step ((hR _).mp (Zb.mpr #[z,mz,rfl])) ?_);let#[w,Y,rfl]:=Zb.mp mu;show Zb.mpr #[w,Y,rfl]
 let#[qn,qs]:=q N (gz.map (·.2.1)) fz hN hR ad.n hD;have S3:Same H1 H3:=λ b o e=>bd b o (λ m=>by rw [Za.mp m,b0] at e;cases e) (s2.get e)
 have bv: ∀z∈gz,StT K H3 z.1 z.2.1/\SsT K H3 z.2.2 (QB ls (ds.map (b7 ls)) z.2.1):=λ z mz=>by
  have ne: ∀ {b:Addr} {o:HO},H2 b=some o->(∀u,o≠bx oa u)->H3 b=some o:=λ {b o} e hn=>bd.get (λ m=>by rw [Za.mp m,e2] at e;show hn _ (Yi e).symm) e
  let#[#[c,g1,g2],#[zs,k1,k2,k3]]:=hg z mz;refine#[#[c,ne g1 λ u q=>(by cases q),ne g2 λ u q=>(by cases q)],zs,k1,ne k2 λ u q=>(by cases q),λ y my=> ?_];let#[c',j1,b6,j2,j3]:=k3 y my;show#[c',ne j1 λ u q=>(by cases q),b6,ne j2 λ u q=>(by cases q),ne j3 λ u q=>(by cases q)]
 have be:=s1.trans S3;symm;refine#[f,wa,h,ls,ds.map (b7 ls),rfl,hF.same be,wf,hW.same S3,(),(),λ W O=>#[by have:=af W O;rfl',λ w Y=>#[bo W O w Y,by rw [bq];show(as W O w Y).2]],λ fk H4 M s4 ce hM ⟨kz,ai,bl,bb⟩=> ?_];rw [qU hM hN] at ai;have ci:kz.length<=100000:=by
  have h1:=qR af (bU (ds.map (b7 ls)) N);rw [<- ai,Qr] at h1;have h2:=dw (l:=bU (ds.map (b7 ls)) N) (m:=(List.range ds.length).map λ i:Nat=>(i:Int)) (eG _ _ N) λ r mr=>by
   let#[h0,h1]:=dj (P:=λ r:Int=>0<=r/\r<ds.length) #[by decide,()] (λ p q' hp hq=>by
    let#[w,Y,rfl]:=Zb.mp hq;let#[W,O,Y]:=ab Y;show(as W O w Y).2) N r mr
   show Zb.mpr #[r.toNat,Yy.mpr (),()]
  rw [Qr,List.length_range] at h2;rfl'
 have a8: ∀z∈kz,z.2.2.2.2∈qN (ds.map (b7 ls)) (bU (ds.map (b7 ls)) N):=λ z mz=>by rw [<- ai];show Zb.mpr #[z,mz,rfl]
 have bi: ∀ {H':Hp},Same H4 H'->FdT K H' fa fz:=λ s=>#[s.get (s4.get ad.d),λ f mf=>#[((ad.s f mf).1.same s4).same s,s.get (s4.get (ad.s f mf).2)],ad.n]
 symm;walk_at "ns";refine J2 (λ z:Fz=>V.ref z.1) (zs:=kz) (SqL.of bl) () (λ i ys H'=>Same H4 H'/\ ∃us:List (Addr×Nat×Fz),ys=us.map (λ u=>V.ref u.1)/\us.length<=i/\(∀u∈us,H' u.1=some (.tup [.int (u.2.1:Nat), .ref u.2.2.1])/\u.2.2∈kz/\ ∃k,il fz (mU u.2.2.2.2.2.2) k/\u.2.1=uh u.2.2.2.2.2.2+k.1)/\ ∀z∈kz.take i,∀k,il fz (mU z.2.2.2.2) k-> ∃u∈us,u.2.1=uh z.2.2.2.2+k.1) #[Same.refl _,[],rfl,Zm _,by simp,by simp] ?_ ?_ ?_ ?_
 .rintro i ys H' ⟨s,_⟩;show SqL.of (s.get bl)
 .rintro i ys H' ⟨_,us,rfl,ay,_⟩;rw [Qr];show ay
 .rintro i z ys H' hi ⟨s,us,rfl,ay,ac,ae⟩;have mz:=Zf hi;let#[f1,f2,_,_]:=(bb z mz).same s;have al:=bi s;have av: ∀ {H2:Hp},Same H' H2-> ∀ag:List (Addr×Nat×Fz),ag.length<=1->(∀u∈ag,H2 u.1=some (.tup [.int (u.2.1:Nat), .ref u.2.2.1])/\u.2.2∈kz/\ ∃k,il fz (mU u.2.2.2.2.2.2) k/\u.2.1=uh u.2.2.2.2.2.2+k.1)->(∀k,il fz (mU z.2.2.2.2) k-> ∃u∈ag,u.2.1=uh z.2.2.2.2+k.1)->Same H4 H2/\ ∃ar:List (Addr×Nat×Fz),us.map (λ u=>V.ref u.1)++ag.map (λ u=>V.ref u.1)=ar.map (λ u=>V.ref u.1)/\ar.length<=i+1/\(∀u∈ar,H2 u.1=some (.tup [.int (u.2.1:Nat), .ref u.2.2.1])/\u.2.2∈kz/\ ∃k,il fz (mU u.2.2.2.2.2.2) k/\u.2.1=uh u.2.2.2.2.2.2+k.1)/\ ∀z∈kz.take (i+1),∀k,il fz (mU z.2.2.2.2) k-> ∃u∈ar,u.2.1=uh z.2.2.2.2+k.1:=λ {H2} s2 ag b9 h1 h2=>by
   refine#[s.trans s2,us++ag,by rw [Zg],by rw [Zq];rfl',λ u mu=> ?_,λ y my k hk=> ?_]
   .rcases Zp.mp mu with mu | mu
    .exact #[s2.get (ac u mu).1,(ac u mu).2]
    .exact h1 u mu
   .rw [Yg,hi] at my;rcases Zp.mp my with my | my
    .obtain ⟨u,mu,e⟩:=ae y my k hk;show#[u,Ym _ mu,e]
    .have ey:y=z:=by simpa using my
     rw [ey] at hk ⊢;let#[u,mu,e]:=h2 k hk;show#[u,Zw _ mu,e]
  symm;refine dR f1 ?_;symm;refine#[fa,_,rfl,SGet.of al.d (jN λ f mf=>(al.s f mf).1) f2.a,?_];by_cases m:mU z.2.2.2.2∈fz.map (·.2.1)
  .obtain ⟨f0,mf,ef⟩:=Zb.mp m;have ev:cH (bR (jM fz)) (fD (mU z.2.2.2.2))=some (V.ref f0.2.2.1):=by
    rw [<- ef];show ik (zs:=jM fz) (z:=(f0.1,f0.2.1,f0.2.2.1)) (by rw [fZ];show ad.n) (Zb.mpr #[f0,mf,rfl])
   rw [show cH (bR (jM fz)) (fD (DY z.2.2.2.2.1 z.2.2.2.2.2.1.2.2 z.2.2.2.2.2.1.2.1))=some (V.ref f0.2.2.1) from ev];refine#[true,rfl,?_];rw [if_pos rfl];symm;refine iI (SqT.of f1) (aP (j:=0) (v:= .int (uh z.2.2.2.2:Nat)) (by rfl)) ?_;symm;refine dR f1 ?_;symm;refine#[fa, .ref f0.2.2.1,rfl,by rw [<- ev];show SGet.of al.d (jN λ f mf=>(al.s f mf).1) f2.a,?_];symm;refine iI (SqT.of (al.s f0 mf).2) (aP (j:=0) (v:= .int (f0.2.2.2.1:Nat)) rfl) ?_;symm;intro p hp;rw [show((uh z.2.2.2.2:Nat):Int)+((f0.2.2.2.1:Nat):Int)=((uh z.2.2.2.2+f0.2.2.2.1:Nat):Int) by rfl'];refine av (aB hp _) [(p,uh z.2.2.2.2+f0.2.2.2.1,z)] (Zm _) (λ u mu=> ?_) λ k ⟨g,mg,e1,e2⟩=>#[_,Zt,?_]
   .rw [Za.mp mu];show#[ao,mz,f0.2.2.2,#[f0,mf,ef,rfl],rfl]
   .rw [<- e2,dU ad.n mg mf (e1.trans ef.symm)]
  .rw [show cH (bR (jM fz)) (fD (DY z.2.2.2.2.1 z.2.2.2.2.2.1.2.2 z.2.2.2.2.2.1.2.1))=none from gP (by rw [fZ];show m)];symm;have:=av (Same.refl _) [] (Yr _) (by simp) λ k ⟨g,mg,e1,_⟩=>absurd (Zb.mpr #[g,mg,e1]) m
   simpa using this
 rintro ys H5 ⟨s5,us,rfl,ay,ac,ae⟩ pa br;rw [Yq] at ae;have s6:=s5.new (o:= .lst (us.map λ u=>V.ref u.1)) br;have a6:upd H5 pa (.lst (us.map λ u=>V.ref u.1)) pa=some (.lst (us.map λ u=>V.ref u.1)):=ao;replace ac: ∀u∈us,upd H5 pa (.lst (us.map λ u=>V.ref u.1)) u.1=some (.tup [.int (u.2.1:Nat), .ref u.2.2.1])/\u.2.2∈kz/\ ∃k,il fz (mU u.2.2.2.2.2.2) k/\u.2.1=uh u.2.2.2.2.2.2+k.1:=λ u mu=>#[bf br (ac u mu).1,(ac u mu).2]
 generalize upd H5 pa (.lst (us.map λ u=>V.ref u.1))=H6 at s6 a6 ac ⊢;have a9:=be.trans s4;symm;refine eX (SqL.of a6) ?_;rw [Qr];symm;refine fW (λ c=> ?_) λ c=> ?_
 .symm;have b2:us=[]:=List.length_eq_zero_iff.mp ();refine qn (λ z mz k hk=> ?_) _ (a9.trans s6);rw [<- ai] at mz;let#[y,my,rfl]:=Zb.mp mz;let#[u,mu,_]:=ae y my k hk;rw [b2] at mu;cases mu
 symm;have aw: ∀z∈kz,Hs.Sg z.2.2.2.2.1.1/\Hs.Sg z.2.2.2.2.2.1.1:=λ z mz=>by
  let#[_,m1,m2]:=JW (a8 z mz);let#[w1,n1,o1]:=ab m1;let#[w2,n2,o2]:=ab m2;show#[ax w1 n1 _ o1,ax w2 n2 _ o2]
 refine Jf (us:=us.map λ u=>(V.ref u.1,ug u.2.1 u.2.2.2.2.2.2)) Fb (by rw [Zn];show SqL.of a6) (λ e=>c (by rw [List.map_eq_nil_iff.mp e];rfl)) (λ v mv=> ?_) (λ v mv w Y=> ?_) λ v mv bn=> ?_
 .obtain ⟨u,mu,rfl⟩:=Zb.mp mv;let#[h1,h2,_]:=ac u mu;have:=Ol (c:=u.2.1) (aw _ h2).1 (aw _ h2).2;show#[.tup (SqT.of h1) (.cons (.int _) (.cons (Tr ((bb _ h2).same s6)) .nil)),this.1,Yl this.2 (by decide)]
 .obtain ⟨u,mu,rfl⟩:=Zb.mp mv;let#[u',bc,rfl]:=Zb.mp Y;show#[Jm _ _ _ _,Om _ _ _ _]
 let#[u,mu,rfl]:=Zb.mp mv;let#[h1,h2,k,hk,ek]:=ac u mu;let#[g1,g2,g3]:=JW (a8 _ h2);let#[w1,n1,o1]:=ab g2;let#[w2,n2,o2]:=ab g3;have a7:=(bb _ h2).same s6;symm;refine dR h1 ?_;symm;refine dR a7.1 ?_;symm;refine dR h1 ?_;symm;refine#[wa,ds.map (b7 ls),u.2.2,N,rfl,((hW.same S3).same s4).same s6,(),(),λ W O=>#[by have:=af W O;rfl',λ w Y=>#[ap W O w Y,by rw [bq];show(as W O w Y).2]],a7,hN,g1,ap w1 n1 _ o1,ap w2 n2 _ o2,λ ta H7 t0 t1 s7 b4 l0 l1=> ?_];symm;have ah:=s6.trans s7;refine#[f,oa,fa,u.2.2.2.1,ta,h,ls,gz,QB ls (ds.map (b7 ls)),es,fz,mU u.2.2.2.2.2.2,rfl,hF.same (a9.trans ah),wf, .inr #[od,ah.get (s4.get b3)],λ z mz=>#[((bv z mz).1.same s4).same ah,((bv z mz).2.same s4).same ah],bp,λ z mz y my=> ?_,bi ah,?_,hD,a7.2.1.same s7,#[k,hk],#[t0,t1,b4,l0,l1],λ r H8 v0 v1 s8 er=> ?_]
 .obtain ⟨w,Y,rfl⟩:=Zb.mp my;let#[W,O,Y]:=ab Y;show#[#[_,bo W O w Y],ap W O w Y]
 .have:=dw (l:=fz.map (·.2.1)) (m:=gz.map (·.2.1)) ad.n λ x mx=>by
   let#[g,mg,rfl]:=Zb.mp mx;rcases hD.s g.2.1 g.2.2.2 (.inl #[g,mg,rfl,rfl]) with h | ⟨_,_,_,h,_⟩
   .exact h.1.1
   .exact h.1
  rw [Qr,Qr] at this;rfl'
 symm;refine gm (s8.get (s7.get h1)) ?_;symm;refine DP (ss:=[v0,v1]) (SqT.of er) (by simp) λ m1 cn=> ?_
 symm;refine DP (ss:=[v0,v1]) (SqT.of er) (by simp) λ m2 cm=> ?_
 symm;intro p hp;refine qs p _ u.2.1 m1 m2 (((a9.trans ah).trans s8).new hp) ao #[_,a8 _ h2,k,hk,ek] λ z mz k' b1=> ?_
 rw [<- ai] at mz;let#[y,my,rfl]:=Zb.mp mz;let#[u',bc,e']:=ae y my k' b1;have:=bn _ (Zb.mpr #[u',bc,rfl]);have h9:(u.2.1:Int)<=(u'.2.1:Int):=this;rfl'
abbrev Pz:=Addr×V×V
def ofD (z:Dz):Pz:=(z.1, .str z.2.1, .int z.2.2)
theorem yo {z1 z2:Dz} (e:ofD z1=ofD z2):z1=z2:=by
 let#[a1,b1,c1]:=z1;let#[a2,b2,c2]:=z2;unfold ofD at e;simp only [Prod.mk.injEq,V.str.injEq,V.int.injEq] at e;let#[W,O,Y]:=e;rw [W,O,Y]
def RowG (n:Nat) (zs:List Dz):Prop:=(zs.map (·.2.1)).Nodup/\ ∀z∈zs,Hs.Sg z.2.1/\0<=z.2.2/\z.2.2<n
def Ff (n:Nat) (is:List Int):Prop:=is.Nodup/\ ∀i∈is,0<=i/\i<n
theorem RowG.take {k:Nat} {zs:List Dz} (h:RowG n zs):RowG n (zs.take k):=#[List.Nodup.sublist ((List.take_sublist _ _).map _) h.1,λ z m=>h.2 z (List.mem_of_mem_take m)]
theorem ue {α:Type} {f:α->Key} {g:α->V} {l:List α} {k:Key} (h:k∈l.map f): ∃v,bA (l.map λ z=>(f z,g z)) k=some v:=by
 have O:((l.map λ z=>(f z,g z)).any λ W=>decide (W.1=k))=true:=by
  let#[z,Y,e]:=Zb.mp h;show List.any_eq_true.mpr #[(f z,g z),Zb.mpr #[z,Y,rfl],Zz e]
 rw [j9] at O;show Option.isSome_iff_exists.mp O
def ofR (r:Addr×List Dz):Addr×List Pz:=(r.1,r.2.map ofD)
inductive sp_f11 (K:W.Frag) (vs:List V) (H:Hp) (Q:VK) (E:XK):Prop
 | mk (n:Int) (h0:vs=[.int n]) (h1:(1<=n->n<=40->Q .non H)) (h2:(¬ (1<=n/\n<=40)->E (.ref jl) none H)):sp_f11 K vs H Q E
def wA (K:W.Frag) (E:XK) (Eh:XK):TS:=
  (cF (lB (aZ (fM su su (tC (V.int 1)) (aj 0) (tC (V.int 40))))) (eU E jl (aa (tC (V.str (Str.ofString "there are no rooms, or there are too many"))) az)) bF)
theorem Oq (h:sp_f11 K vs H Q E): ∃Eh,wA K E Eh { nx:=λ _ H'=>Q .non H',rt:=Q } (start ["rooms"] vs) H:=by
 let#[n,rfl,q,Y]:=h;refine#[E0,?_];unfold wA;symm;by_cases O:1<=n
 .by_cases W:n<=40
  .rw [Zz O,Zz W];symm;show q O W
  .rw [Zz O,Zv W,Bool.and_false];symm;show Y λ h=>W h.2
 .rw [Zv O,Bool.false_and];symm;show Y λ h=>O h.1
theorem Ot (h:sp_f11 K vs H Q E):vs.length=1:=by
 let#[_,rfl,_]:=h;rfl
inductive sp_f17 (K:W.Frag) (vs:List V) (H:Hp) (Q:VK) (E:XK):Prop
 | mk (x:V) (n:Nat) (h0:vs=[x, .int n]) (h1:Thing H x) (h2:(∀r:Int,x= .int r->0<=r->r<n->Q .non H)) (h3:((∀r:Int,x= .int r->0<=r->r<n->False)->E (.ref jl) none H)):sp_f17 K vs H Q E
def wB (K:W.Frag) (E:XK) (Eh:XK):TS:=
  (cF (lB (pF (lV K (aH (sp_f26 K) [] E0 (aa (aj 0) az))) (aZ (fM su Bh (tC (V.int 0)) (aj 0) (aj 1))))) (eU E jl (aa (tC (V.str (Str.ofString "a room that is named is not there"))) az)) bF)
theorem Ou (h:sp_f17 K vs H Q E): ∃Eh,wB K E Eh { nx:=λ _ H'=>Q .non H',rt:=Q } (start ["room","rooms"] vs) H:=by
 let#[x,n,rfl,hx,q,Y]:=h;refine#[E0,?_];unfold wB;symm;refine#[_,rfl,hx,?_]
 cases x with
 | int i=>
  symm;change if true=true then _ else _
  symm;by_cases O:0<=i
  .by_cases W:i<n
   .rw [Zz O,Zz W];symm;show q i rfl O W
   .rw [Zz O,Zv W,Bool.and_false];symm;show Y λ r e _ h2=>W (by cases e;show h2)
  .rw [Zv O,Bool.false_and];symm;show Y λ r e h1 _=>O (by cases e;show h1)
 | _=>
  symm;change if false=true then _ else _
  symm;show Y λ r e _ _=>by cases e
theorem Ov (h:sp_f17 K vs H Q E):vs.length=2:=by
 let#[_,_,rfl,_]:=h;rfl
theorem Ow {x:V} (h:sgn x=true): ∃s,x= .str s/\Hs.Sg s:=by
 cases x with
 | str s=>
  have h:(decide (s.length=1)&&(!decide (s.cps.toList<(Str.ofString " ").cps.toList)&&(!decide ((Str.ofString "~").cps.toList<s.cps.toList)&& !decide (((s.cps.getD 0 0:Nat):Int)=37))))=true:=h;simp only [Bool.and_eq_true,decide_eq_true_eq,Bool.not_eq_true',decide_eq_false_iff_not] at h;let#[h1,h2,W,Y]:=h;let#[O]:=s;let#[l]:=O
  match l,h1,h2,W,Y with
  | [c],_,h2,W,Y=>
   have a1:32<=c:=by
    rcases Nat.lt_or_ge c 32 with q | q
    .exact absurd (List.Lex.rel q) h2
    .exact q
   have a2:c<=126:=by
    rcases Nat.lt_or_ge 126 c with q | q
    .exact absurd (List.Lex.rel q) W
    .exact q
   have a3:c≠37:=λ e=>Y (by subst e;rfl)
   have key: ∀c<127,32<=c->c≠37-> ∃k<94,Hs.Gy.cps.toList.getD k 0=c:=by ac_nf
   let#[k,hk,ek]:=key c () a1 a3;refine#[_,rfl,(k:Int),?_];unfold Hs.yc;rw [show((k:Int)%94).toNat=k by rfl',ek];rfl
 | _=>cases h
inductive sp_f15 (K:W.Frag) (vs:List V) (H:Hp) (Q:VK) (E:XK):Prop
 | mk (a:Addr) (gs:List Pz) (n:Nat) (h0:vs=[.ref a, .int n]) (h1:SqL K H a (gs.map λ g:Pz=>V.ref g.1)) (h2:(∀g∈gs,SqT K H g.1 [g.2.1,g.2.2]/\Thing H g.2.1/\Thing H g.2.2)) (h3:gs.length<64) (h4:(∀zs:List Dz,gs=zs.map ofD->RowG n zs-> ∀r H' ps,Same H H'->DrT K H' r ps->ps.Perm (zs.map (·.2))->(ps.map (·.1)).Pairwise qg->Q (.ref r) H')) (h5:((∀zs:List Dz,gs=zs.map ofD->RowG n zs->False)-> ∀H',Same H H'->E (.ref jl) none H')):sp_f15 K vs H Q E
abbrev Fg (K:W.Frag) (E:XK):TS:=
  (aG (cF (lB (lV K (aH (sp_f31 K) [] E0 (aa (aj 3) az)))) (eU E jl (aa (tC (V.str (Str.ofString "a door's sign is none"))) az)) bF)
  (aG (cF (tB (Aw (aj 3) (aj 2))) (eU E jl (aa (tC (V.str (Str.ofString "a sign comes twice in one room"))) az)) bF)
  (aG (cC (aH (sp_f17 K) [] E (aa (aj 4) (aa (aj 1) az))))
  (jR (aj 2) (aj 3) (aj 4)))))
def wC (K:W.Frag) (E:XK) (Eh:XK):TS:=
  (aG (aM jy (aA 2))
  (aG (dF (dC K (aj 0)) (j5 K 2 (bO (aA 3) (bO (aA 4) jn))) (Fg K E))
  (bh (cG (fc K) (aa (qj (aj 2)) az)))))
theorem Ox (h:sp_f15 K vs H Q E): ∃Eh,wC K E Eh { nx:=λ _ H'=>Q .non H',rt:=Q } (start ["pairs","rooms","made","sign","room"] vs) H:=by
 let#[a,gs,n,rfl,hS,hg,am,q,qe]:=h;refine#[E0,?_];unfold wC;symm;intro m hm;symm;have af: ∀p'∈[m],H p'=none:=λ p' ae=>by rw [Za.mp ae];show hm
 refine jV (λ g:Pz=>V.ref g.1) (zs:=gs) (ig hm hS) (λ i σ H'=> ∃zs:List Dz,gs.take i=zs.map ofD/\RowG n zs/\Sb [m] H H'/\H' m=some (.dK (zs.map λ z:Dz=>((Sum.inr z.2.1:Key),V.int z.2.2)))/\ ∃o1 o2,σ=[some (.ref a),some (.int (n:Nat)),some (.ref m),o1,o2]) #[[],rfl,#[by simp,by simp],Sb.of (aB hm _),ao,none,none,rfl] ?_ ?_ ?_
 .rintro i σ H' ⟨zs,_,_,sb,_⟩;show sb.seq af hS
 .rintro i ⟨b,x,y⟩ σ H' hi ⟨zs,ez,gz,sb,em,o1,o2,rfl⟩;have as:i<gs.length:=(Zj.mp hi).1;let#[tz,ah,al]:=hg _ (Zf hi);dsimp only at tz ah al;have S:=sb.off af;have ab: ∀O:List Dz,gs=O.map ofD-> ∃W∈O,(b,x,y)=ofD W/\O.take i=zs/\O.take (i+1)=zs++[W]:=λ O e2=>by
   rw [e2,Zi] at hi;let#[W,ap,e3]:=Ye.mp hi;have et:O.take i=zs:=(List.map_inj_right (λ _ _ e=>yo e)).mp (by rw [List.map_take,<- e2,ez]);show#[W,Zf ap,e3.symm,et,by rw [Yg,ap,et];rfl]
  refine dO (S.tup tz) rfl ?_;symm;refine#[x,rfl,ah.same S,?_];symm;by_cases Y:sgn x=true
  case neg=>
   rw [Bool.not_eq_true] at Y;rw [Y];symm;refine qe (λ O e2 g=> ?_) _ S;let#[W,m2,e3,_,_]:=ab O e2;have:x=V.str W.2.1:=Yc (λ g:Pz=>g.2.1) e3;rw [this,Nv (g.2 W m2).1] at Y
   cases Y
  rw [Y];let#[s,rfl,sg]:=Ow Y;symm;refine#[m,_,rfl,DGet.k (k:=Sum.inr s) em,?_];by_cases ac:s∈zs.map λ z:Dz=>z.2.1
  case pos=>
   let#[v,ev]: ∃v,bA (zs.map λ z:Dz=>((Sum.inr z.2.1:Key),V.int z.2.2)) (Sum.inr s)=some v:=ue (by
    let#[z,mz,e]:=Zb.mp ac;show Zb.mpr #[z,mz,by rw [e]])
   rw [ev];symm;change if true=true then _ else _
   symm;refine qe (λ O e2 g=> ?_) _ S;let#[W,m2,e3,_,e5]:=ab O e2;have e6:s=W.2.1:=by have:=Yc (λ g:Pz=>g.2.1) e3;show V.str.inj this
   have ad:=(g.take (k:=i+1)).1;rw [e5,Zg,Yt] at ad;show ad.2.2 s ac W.2.1 (by simp) e6
  have ai:(Sum.inr s:Key)∉zs.map (λ z:Dz=>(Sum.inr z.2.1:Key)):=by
   intro z;let#[y,my,ey]:=Zb.mp z;show ac (Zb.mpr #[y,my,Sum.inr.inj ey])
  have hv:=fC (f:=λ z:Dz=>(Sum.inr z.2.1:Key)) (g:=λ z:Dz=>V.int z.2.2) ai;rw [hv];symm;change if false=true then _ else _
  symm;refine#[y,n,rfl,al.same S,λ r er r0 r1=> ?_,λ ne=>qe (λ O e2 g=> ?_) _ S]
  .subst er;have ag:zs.length<=64:=by
    have h2:=Yc List.length ez;rw [Yd,Qr] at h2;rfl'
   symm;refine#[m,_,rfl,DPut.k (k:=Sum.inr s) em (Yj (by rw [Qr];show ag:_<=64) (by decide)),?_];rw [dM _ hv];symm;refine#[zs++[(b,s,r)],?_,#[?_,?_],sb.set (by simp),by rw [ao,Zg];rfl,_,_,rfl]
   .rw [Yg,hi,ez,Zg];rfl
   .rw [Zg,Yt];refine#[gz.1,by simp,λ u mu w mw e=>ac ?_];rw [Zl,List.map_nil,Za] at mw;have ar:w=s:=mw;rw [<- ar,<- e];show mu
   .intro z mz;rcases Zp.mp mz with mz | mz
    .exact gz.2 z mz
    .rw [Za.mp mz];show#[sg,r0,r1]
  .obtain ⟨W,m2,e3,_,_⟩:=ab O e2;have e6:y= .int W.2.2:=Yc (λ g:Pz=>g.2.2) e3;show ne _ e6 (g.2 W m2).2.1 (g.2 W m2).2.2
 .rintro σ H' ⟨zs,ez,gz,sb,em,o1,o2,rfl⟩;rw [Yq] at ez;have S:=sb.off af;have ag:zs.length<64:=by rw [ez,Qr] at am;show am
  symm;refine#[m,zs.map λ z:Dz=>(z.2.1,V.int z.2.2),rfl,by rw [Zn];show em,by rw [Qr];show ag,λ r ws H2 hp hs hr s2 e2 hw=> ?_];symm;refine kZ (SqL.of e2) λ t ht=> ?_
  have ae:(ws.map (·.2)).Perm ((zs.map (·.2)).map λ p:Str×Int=>(p.1,V.int p.2)):=by rw [Zn];show hp
  let#[ps,pp,ep]:=jW ae;refine q zs ez gz t _ ps ((S.trans s2).new ht) (DrT.of ao (λ z mz=>bf ht (hw z mz)) ep) pp ?_;have:(ws.map (·.2.1))=ps.map (·.1):=by
   rw [show ws.map (·.2.1)=(ws.map (·.2)).map (·.1) by rw [Zn];rfl,ep,Zn];rfl
  rw [<- this];show hs
theorem Oz (h:sp_f15 K vs H Q E):vs.length=2:=by
 let#[_,_,_,rfl,_]:=h;rfl
inductive sp_f23 (K:W.Frag) (vs:List V) (H:Hp) (Q:VK) (E:XK):Prop
 | mk (a:Addr) (xs:List V) (n:Nat) (h0:vs=[.ref a, .int n]) (h1:SqL K H a xs) (h2:(∀x∈xs,Thing H x)) (h3:xs.length<64) (h4:(∀is:List Int,xs=is.map V.int->Ff n is-> ∀r H' (es:List Int),Same H H'->H' r=some (.tup (es.map V.int))->es.Perm is->es.Pairwise (· < ·)->Q (.ref r) H')) (h5:((∀is:List Int,xs=is.map V.int->Ff n is->False)-> ∀H',Same H H'->E (.ref jl) none H')):sp_f23 K vs H Q E
abbrev Fi (K:W.Frag) (E:XK):TS:=
  (aG (dF (dC K (aj 0)) (aA 3) (aG (cC (aH (sp_f17 K) [] E (aa (aj 3) (aa (aj 1) az))))
  (aG (cF (tB (Aw (aj 3) (aj 2))) (eU E jl (aa (tC (V.str (Str.ofString "an end comes twice"))) az)) bF)
  (jR (aj 2) (aj 3) (tC (V.bl true))))))
  (bh (cG (fc K) (aa (cG qi (aa (aj 2) az)) az))))
def wD (K:W.Frag) (E:XK) (Eh:XK):TS:=
  (aG (aM jy (aA 2))
  (Fi K E))
theorem OD (h:sp_f23 K vs H Q E): ∃Eh,wD K E Eh { nx:=λ _ H'=>Q .non H',rt:=Q } (start ["ends","rooms","made","end"] vs) H:=by
 let#[a,xs,n,rfl,hS,hx,ae,q,qe]:=h;refine#[E0,?_];unfold wD;symm;intro m hm;symm;have ad: ∀p'∈[m],H p'=none:=λ p' ah=>by rw [Za.mp ah];show hm
 have ag: ∀ {H':Hp},Same H H'->SqL K H' a (xs.map λ v:V=>v):=λ s=>by rw [List.map_id'];show s.seq hS
 refine jV (λ v:V=>v) (zs:=xs) (ag (aB hm _)) (λ i σ H'=> ∃W:List Int,xs.take i=W.map V.int/\Ff n W/\Sb [m] H H'/\H' m=some (.dK (W.map λ z:Int=>((Sum.inl z:Key),V.bl true)))/\ ∃o1,σ=[some (.ref a),some (.int (n:Nat)),some (.ref m),o1]) #[[],rfl,#[by simp,by simp],Sb.of (aB hm _),ao,none,rfl] ?_ ?_ ?_
 .rintro i σ H' ⟨W,_,_,sb,_⟩;show ag (sb.off ad)
 .rintro i x σ H' hi ⟨W,ei,gi,sb,em,o1,rfl⟩;have ai:i<xs.length:=(Zj.mp hi).1;have S:=sb.off ad;have ac: ∀O:List Int,xs=O.map V.int-> ∃r∈O,x=V.int r/\O.take (i+1)=W++[r]:=λ O e2=>by
   rw [e2,Zi] at hi;let#[r,er,e3]:=Ye.mp hi;have et:O.take i=W:=(List.map_inj_right (λ _ _ e=>V.int.inj e)).mp (by rw [List.map_take,<- e2,ei]);show#[r,Zf er,e3.symm,by rw [Yg,er,et];rfl]
  symm;refine#[x,n,rfl,(hx x (Zf hi)).same S,λ r er r0 r1=> ?_,λ ne=>qe (λ O e2 g=> ?_) _ S]
  .subst er;symm;refine#[m,_,rfl,DGet.k (k:=Sum.inl r) em,?_];by_cases Y:r∈W
   .obtain ⟨v,ev⟩: ∃v,bA (W.map λ z:Int=>((Sum.inl z:Key),V.bl true)) (Sum.inl r)=some v:=ue (f:=λ z:Int=>(Sum.inl z:Key)) (Zb.mpr #[r,Y,rfl]);rw [ev];symm;change if true=true then _ else _
    symm;refine qe (λ O e2 g=> ?_) _ S;let#[r2,m2,e3,e5]:=ac O e2;have ab:(O.take (i+1)).Nodup:=List.Nodup.sublist (List.take_sublist _ _) g.1;rw [e5,Yt] at ab;show ab.2.2 r Y r2 (by simp) (V.int.inj e3)
   .have af:(Sum.inl r:Key)∉W.map λ z:Int=>(Sum.inl z:Key):=by
     intro z;let#[y,my,ey]:=Zb.mp z;show Y (Sum.inl.inj ey▸my)
    have hv:=fC (f:=λ z:Int=>(Sum.inl z:Key)) (g:=λ _:Int=>V.bl true) af;rw [hv];symm;change if false=true then _ else _
    symm;refine#[m,_,rfl,DPut.k (k:=Sum.inl r) em (Yj (by rw [Qr];have h2:=Yc List.length ei;rw [Yd,Qr] at h2;rfl':_<=64) (by decide)),?_];rw [dM _ hv];symm;refine#[W++[r],by rw [Yg,hi,ei,Zg];rfl,#[?_,?_],sb.set (by simp),by rw [ao,Zg];rfl,_,rfl]
    .rw [Yt];refine#[gi.1,by simp,λ u mu w mw e=>Y ?_];rw [Za.mp mw] at e;rw [<- e];show mu
    .intro z mz;rcases Zp.mp mz with mz | mz
     .exact gi.2 z mz
     .rw [Za.mp mz];show#[r0,r1]
  .obtain ⟨r2,m2,e3,_⟩:=ac O e2;show ne _ e3 (g.2 r2 m2).1 (g.2 r2 m2).2
 .rintro σ H' ⟨W,ei,gi,sb,em,o1,rfl⟩;rw [Yq] at ei;have S:=sb.off ad;symm;refine Dq (kvs:=W.map λ z:Int=>(z,V.bl true)) (by rw [Zn];show em) (by rw [Qr];rw [ei,Qr] at ae;show ae) λ r es hp hs hr=> ?_
  rw [Zn] at hp;symm;refine kZ (SqL.of ao) λ t ht=> ?_
  show q W ei gi t _ es ((S.new hr).new ht) ao (by simpa [Function.comp_def] using hp) hs
theorem OJ (h:sp_f23 K vs H Q E):vs.length=2:=by
 let#[_,_,_,rfl,_]:=h;rfl
inductive sp_f16 (K:W.Frag) (vs:List V) (H:Hp) (Q:VK) (E:XK):Prop
 | mk (d e:Addr) (rows:List (Addr×List Pz)) (xs:List V) (h0:vs=[.ref d, .ref e]) (h1:SqL K H d (rows.map λ r:Addr×List Pz=>V.ref r.1)) (h2:rows.length<=1000) (h3:(∀row∈rows,SqL K H row.1 (row.2.map λ g:Pz=>V.ref g.1)/\(∀g∈row.2,SqT K H g.1 [g.2.1,g.2.2]/\Thing H g.2.1/\Thing H g.2.2)/\row.2.length<64)) (h4:SqL K H e xs) (h5:(∀x∈xs,Thing H x)) (h6:xs.length<64) (h7:(∀ (rs:List (Addr×List Dz)) (is:List Int),rows=rs.map ofR->xs=is.map V.int->1<=rs.length->rs.length<=40->(∀r∈rs,RowG rs.length r.2)->Ff rs.length is-> ∀r H' ds es,Same H H'->HsT K H' r ds es->Hs.Xa rs ds->es.Perm is->es.Pairwise (· < ·)->Q (.ref r) H')) (h8:((∀ (rs:List (Addr×List Dz)) (is:List Int),rows=rs.map ofR->xs=is.map V.int->1<=rs.length->rs.length<=40->(∀r∈rs,RowG rs.length r.2)->Ff rs.length is->False)-> ∀H',Same H H'->E (.ref jl) none H')):sp_f16 K vs H Q E
abbrev Fj (K:W.Frag) (E:XK):TS:=
  (aG (cC (aH (sp_f11 K) [] E (aa (aj 2) az)))
  (bh (dW (aa (cG (fc K) (aa (uf [none,some 2] (dC K (aj 0)) (aA 0) gD (aH (sp_f15 K) [] E (aa (aj 0) (aa (aj 1) az)))) az)) (aa (aH (sp_f23 K) [] E (aa (aj 1) (aa (aj 2) az))) az)))))
def wF (K:W.Frag) (E:XK) (Eh:XK):TS:=
  (aG (aM (cG (bT K) (aa (aj 0) az)) (aA 2))
  (Fj K E))
theorem P0 (h:sp_f16 K vs H Q E): ∃Eh,wF K E Eh { nx:=λ _ H'=>Q .non H',rt:=Q } (start ["doors","ends","rooms"] vs) H:=by
 let#[d,e,O,xs,rfl,hD,ax,ah,hE,hx,ap,q,qe]:=h;refine#[E0,?_];unfold wF;symm;refine eX hD ?_;rw [Qr];symm;refine#[(O.length:Nat),rfl,λ a2 a1=> ?_,λ hn=>qe (λ rs is e1 _ g1 g2 _ _=>hn ?_) _ (Same.refl _)]
 rotate_left
 .rw [e1,Qr];show#[(),()]
 symm;refine J2 (λ r:Addr×List Pz=>V.ref r.1) (zs:=O) hD () (λ k ys H'=> ∃ (ts:List (Addr×L1S)) (rs:List (Addr×List Dz)),ys=ts.map (λ t=>V.ref t.1)/\ts.length=k/\Same H H'/\O.take k=rs.map ofR/\(∀r∈rs,RowG O.length r.2)/\ ∀ (j:Nat) t,ts[j]? =some t->DrT K H' t.1 t.2/\ ∀W,rs[j]? =some W->t.2.Perm (W.2.map (·.2))/\(t.2.map (·.1)).Pairwise qg) #[[],[],rfl,rfl,Same.refl _,rfl,by simp,by simp] ?_ ?_ ?_ ?_
 .rintro k ys H' ⟨ts,rs,rfl,_,s',_⟩;show s'.seq hD
 .rintro k ys H' ⟨ts,rs,rfl,rfl,_⟩;simp
 .rintro k W ys H' ac ⟨ts,rs,rfl,hk,s',ab,af,ht⟩;let#[g1,g2,g3]:=ah W (Zf ac);have ay:k<O.length:=(Zj.mp ac).1;have aw:rs.length=k:=by
   have:=Yc List.length ab;rw [Yd,Qr] at this;rfl'
  symm;refine#[W.1,W.2,O.length,rfl,s'.seq g1,λ z m=>#[s'.tup (g2 z m).1,(g2 z m).2.1.same s',(g2 z m).2.2.same s'],g3,λ zs ez gz r H2 ps s2 ar hp hs=> ?_,λ ne H2 s2=>qe (λ ae is e1 _ h1 h2 h3 _=> ?_) _ (s'.trans s2)]
  .refine #[ts++[(r,ps)],rs++[(W.1,zs)],by simp,by simp [hk],s'.trans s2,?_,?_,λ j t hj=> ?_]
   .rw [Yg,ac,ab,Zg];change _++[W]=_++[(W.1,zs.map ofD)];rw [<- ez]
   .intro r mr;rcases Zp.mp mr with mr | mr
    .exact af r mr
    .rw [Za.mp mr];show gz
   rcases Nat.lt_or_ge j ts.length with w | w
   .rw [List.getElem?_append_left w] at hj;refine#[(ht j t hj).1.same s2,λ ad av=>(ht j t hj).2 ad ?_];rwa [List.getElem?_append_left ()] at av
   .rw [List.getElem?_append_right w] at hj;have e0:j-ts.length=0:=by
     have:=(Zj.mp hj).1;simp at this;rfl'
    rw [e0] at hj
    cases hj;have ej:j=k:=()
    subst ej;refine#[ar,λ ad Y=> ?_];rw [List.getElem?_append_right (),show j-rs.length=0 by rfl'] at Y
    cases Y;show#[hp,hs]
  .rw [e1,Zi] at ac;let#[r2,al,e3]:=Ye.mp ac;have hl:ae.length=O.length:=by rw [e1,Qr]
   refine ne r2.2 (by rw [<- e3];rfl) ?_;rw [<- hl];show h3 r2 (Zf al)
 rintro ys H3 ⟨ts,rs,rfl,hk,s3,ab,af,ht⟩ p hp;rw [Yq] at ab;have hl:rs.length=O.length:=by rw [ab,Qr]
 symm;refine kZ (SqL.of ao) λ td ai=> ?_
 symm;have ag:Same H3 (upd (upd H3 p (.lst (ts.map λ t=>V.ref t.1))) td (.tup (ts.map λ t=>V.ref t.1))):=(aB hp _).new ai;refine#[e,xs,O.length,rfl,ig ai (ig hp (s3.seq hE)),λ x mx=>((hx x mx).same s3).same ag,ap,λ is as gi te H5 es s5 e5 pe se=> ?_,λ ne H5 s5=>qe (λ ae is e1 e2 _ _ _ h6=> ?_) _ ((s3.trans ag).trans s5)]
 .symm;intro h hh;have sx:Same H3 H5:=ag.trans s5;refine q rs is ab as () () (λ r mr=>by rw [hl];show af r mr) (by rw [hl];show gi) h _ (ts.map (·.2)) es (s3.trans (sx.new hh)) #[td,te,ts,ao,rfl,bf hh (s5.get ao),λ t m=> ?_,bf hh e5] #[by rw [Qr,hk,hl],λ j ps W hj Y=> ?_] pe se
  .obtain ⟨j,hj,ej⟩:=List.mem_iff_getElem.mp m;show(ht j t (by rw [Ze hj,ej])).1.same (sx.new hh)
  .rw [Zi] at hj;let#[t,et,rfl]:=Ye.mp hj;show(ht j t et).2 W Y
 .refine ne is e2 ?_;have am:ae.length=O.length:=by rw [e1,Qr]
  rw [<- am];show h6
theorem Pa (h:sp_f16 K vs H Q E):vs.length=2:=by
 let#[_,_,_,_,rfl,_]:=h;rfl
theorem same_none (s:Same H H') (h:H' p=none):H p=none:=by
 cases e:H p with
 | none=>rfl
 | some o=>rw [s p o e] at h;cases h
def Jo (cs:List Nat) (m:Nat) (rest w later:Int):L1S:=(List.range cs.length).map λ k=>(tx [cs.getD k 0],later+(rest+((k+1:Nat):Int)*w)%(m:Int))
structure GoodS (cs:List Nat) (x:V) (xs:List V) (m:Nat) (ws:List Int):Prop where
 nd:cs.Nodup
 ex:x= .int (m:Int)
 m1:1<=m
 ew:xs=ws.map V.int
 wn:ws≠[]
 wr: ∀w∈ws,0<=w/\w<=1000
 le:m*ws.length<=40
def zJ (cs:List Nat) (m:Nat) (ws:List Int) (j:Nat):L1S:=Jo cs m ((j%m:Nat):Int) (ws.getD (j / m) 0) (((j / m+1)%ws.length*m:Nat):Int)
def RwH (H:Hp) (row:Addr×List Dz):Prop:=H row.1=some (.lst (row.2.map λ z:Dz=>V.ref z.1))/\ ∀z∈row.2,H z.1=some (.tup [.str z.2.1, .int z.2.2])
theorem RwH.same (h:RwH H row) (s:Same H H'):RwH H' row:=#[s.get h.1,λ z m=>s.get (h.2 z m)]
theorem RwH.set {d:Addr} {xs:List V} (h:RwH H row) (hd:H d=some (.lst xs)) (n:row.1≠d):RwH (upd H d (.lst ys)) row:=#[by rw [aq n];show h.1,λ z m=>by rw [aq (λ e=>by have:=h.2 z m;rw [e,hd] at this;cases this)];show h.2 z m]
theorem lr (cs:List Nat) (m:Nat) (rest w later:Int):(Jo cs m rest w later).length=cs.length:=by unfold Jo;simp
theorem Fl (cs:List Nat) (m:Nat) (rest w later:Int):(Jo cs m rest w later).map (·.1)=cs.map λ c=>tx [c]:=by
 refine List.ext_getElem (by rw [Qr,lr,Qr]) λ i W O=> ?_
 rw [Qr] at O;rw [List.getElem_map,List.getElem_map];simp only [Jo,List.getElem_map,List.getElem_range,Zr,Ze O];rfl
theorem pB {cs:List Nat}:(cs.map λ c=>tx [c]).Nodup↔cs.Nodup:=#[λ h=>(List.pairwise_map.mp h).imp (λ O e=>O (by rw [e])),λ h=>List.Pairwise.map _ (λ a b O e=>O (by injection (Dh.mp e))) h]
theorem mX {cs:List Nat} {ws:List Int} (hm:1<=m) (hw:ws≠[]) {z:Str×Int} (hz:z∈zJ cs m ws j):(∃c∈cs,z.1=tx [c])/\0<=z.2/\z.2<((m*ws.length:Nat):Int):=by
 have O:z.1∈(zJ cs m ws j).map (·.1):=Zb.mpr #[z,hz,rfl];unfold zJ at hz O;rw [Fl] at O;let#[c,mc,ec]:=Zb.mp O;let#[k,hk,rfl]:=Zb.mp hz;refine#[#[c,mc,ec.symm],?_];have hl:0<ws.length:=List.length_pos_iff.mpr hw;have Y:=Nat.mod_lt (j / m+1) hl;generalize (j / m+1)%ws.length=t at Y ⊢;have h2:=Int.emod_nonneg (((j%m:Nat):Int)+((k+1:Nat):Int)*ws.getD (j / m) 0) (show(m:Int)≠0 by rfl');have h3:=Int.emod_lt_of_pos (((j%m:Nat):Int)+((k+1:Nat):Int)*ws.getD (j / m) 0) (show(0:Int)<m by rfl');change 0<=((t*m:Nat):Int)+(((j%m:Nat):Int)+((k+1:Nat):Int)*ws.getD (j / m) 0)%(m:Int)/\((t*m:Nat):Int)+(((j%m:Nat):Int)+((k+1:Nat):Int)*ws.getD (j / m) 0)%(m:Int)<_;generalize (((j%m:Nat):Int)+((k+1:Nat):Int)*ws.getD (j / m) 0)%(m:Int)=r at h2 h3 ⊢;have W:(t+1)*m<=m*ws.length:=by rw [Nat.mul_comm m];show Nat.mul_le_mul_right _ Y
 rw [Nat.add_mul,Nat.one_mul] at W;generalize t*m=tm at W ⊢;generalize m*ws.length=mw at W ⊢;rfl'
inductive sp_f8 (K:W.Frag) (vs:List V) (H:Hp) (Q:VK) (E:XK):Prop
 | mk (t:Addr) (xs:List V) (h0:vs=[.ref t]) (h1:SqT K H t xs) (h2:(∀x∈xs,Thing H x)) (h3:(∀ws:List Int,xs=ws.map V.int->ws≠[]->(∀w∈ws,0<=w/\w<=1000)->Q .non H)) (h4:((∀ws:List Int,xs=ws.map V.int->ws≠[]->(∀w∈ws,0<=w/\w<=1000)->False)->E (.ref jl) none H)):sp_f8 K vs H Q E
def Fp (K:W.Frag) (E:XK) (Eh:XK):TS:=
  (aG (cF (aZ (aK zT (cG (bT K) (aa (aj 0) az)) (tC (V.int 0)))) (eU E jl (aa (tC (V.str (Str.ofString "the wheel has no numbers"))) az)) bF)
  (dF (rD K (aj 0)) (aA 1) (cF (lB (pF (lV K (aH (sp_f26 K) [] E0 (aa (aj 1) az))) (aZ (fM su su (tC (V.int 0)) (aj 1) (tC (V.int 1000)))))) (eU E jl (aa (tC (V.str (Str.ofString "the wheel has something else than its numbers"))) az)) bF)))
theorem Tt (h:sp_f8 K vs H Q E): ∃Eh,Fp K E Eh { nx:=λ _ H'=>Q .non H',rt:=Q } (start ["numbers","number"] vs) H:=by
 let#[t,xs,rfl,hT,hx,q,qe]:=h;refine#[E0,?_];unfold Fp;symm;refine c7 hT ?_;symm;refine fW (λ d=> ?_) λ d=> ?_
 .symm;refine qe λ O e hn _=>hn ?_
  rw [e,Qr] at d;show List.eq_nil_of_length_eq_zero ()
 symm;refine Dc id (zs:=xs) (by rw [List.map_id];show hT) (λ i σ H'=>H'=H/\ ∃ (O:List Int) (o:Option V),xs.take i=O.map V.int/\(∀w∈O,0<=w/\w<=1000)/\σ=[some (.ref t),o]) #[rfl,[],none,rfl,by simp,rfl] ?_ ?_ ?_
 .rintro i σ _ ⟨rfl,_⟩;rw [List.map_id];show hT
 .rintro i x σ _ hi ⟨rfl,O,o,e,hw,rfl⟩;rw [show id x=x from rfl];symm;refine#[_,rfl,hx x (Zf hi),?_];have W:(∀r:Int,x= .int r->0<=r->r<=1000->False)-> ∀O:List Int,xs=O.map V.int->O≠[]->(∀w∈O,0<=w/\w<=1000)->False:=λ hb ac e' _ ab=>by
   rw [e',Zi] at hi;let#[r,er,rfl]:=Ye.mp hi;have:=ab r (Zf er);show hb r rfl this.1 this.2
  cases x with
  | int r=>
   symm;change if true=true then _ else _
   symm;by_cases c1:0<=r
   .by_cases c2:r<=1000
    .rw [Zz c1,Zz c2];symm;refine#[rfl,O++[r],_,?_,λ w Y=> ?_,rfl]
     .rw [Yg,hi,e];simp
     .rcases Zp.mp Y with Y | Y
      .exact hw w Y
      .rw [Za.mp Y];show#[c1,c2]
    .rw [Zz c1,Zv c2,Bool.and_false];symm;show qe (W λ r e _ h2=>c2 (by cases e;show h2))
   .rw [Zv c1,Bool.false_and];symm;show qe (W λ r e h1 _=>c1 (by cases e;show h1))
  | _=>
   symm;change if false=true then _ else _
   symm;show qe (W λ r e _ _=>by cases e)
 .rintro σ _ ⟨rfl,O,o,e,hw,rfl⟩;rw [Yq] at e;symm;refine q O e (λ z=>d ?_) hw;rw [e,z];rfl
theorem Tu (h:sp_f8 K vs H Q E):vs.length=1:=by
 let#[_,_,rfl,_]:=h;rfl
inductive sp_f12 (K:W.Frag) (vs:List V) (H:Hp) (Q:VK) (E:XK):Prop
 | mk (cs:List Nat) (m:Nat) (rest w later:Int) (h0:vs=[.str (tx cs), .int (m:Int), .int rest, .int w, .int later]) (h1:1<=m) (h2:cs.length<=1000) (h3:0<=w) (h4:w<=1000) (h5: ∀ (p:Addr) (H':Hp) (zs:List Dz),H p=none->Same H H'->H' p=some (.lst (zs.map λ z:Dz=>V.ref z.1))->(∀z∈zs,H' z.1=some (.tup [.str z.2.1, .int z.2.2]))->zs.map (·.2)=Jo cs m rest w later->Q (.ref p) H'):sp_f12 K vs H Q E
def wG (K:W.Frag) (E:XK) (Eh:XK):TS:=
  (bh (uf [none,none,some 4,some 2,some 3,some 1] (uX (aa (aj 0) az) (aa (tC (V.int 1)) az)) (j5 K 2 (bO (aA 0) (bO (aA 1) jn))) gD (dW (aa (aj 1) (aa (aK bJ (aj 2) (aK bK (aK bJ (aj 3) (aK iH (aj 0) (aj 4))) (aj 5))) az)))))
theorem Pb (h:sp_f12 K vs H Q E): ∃Eh,wG K E Eh { nx:=λ _ H'=>Q .non H',rt:=Q } (start ["signs","many","rest","number","later"] vs) H:=by
 let#[cs,m,rest,w,O,rfl,hm,ac,ab,ad,q]:=h;refine#[E0,?_];unfold wG;symm;refine T6 (o:=1) (by decide) () (λ i ys H'=> ∃zs:List Dz,ys=zs.map (λ z:Dz=>V.ref z.1)/\zs.map (·.2)=(Jo cs m rest w O).take i/\Same H H'/\ ∀z∈zs,H' z.1=some (.tup [.str z.2.1, .int z.2.2])) #[[],rfl,rfl,Same.refl _,by simp] ?_ ?_ ?_
 .rintro i ys H' ⟨zs,rfl,e,_⟩;have:=Yc List.length e;rw [Qr,Yd] at this;rw [Qr];rfl'
 .rintro i c t0 ys H' hc ⟨zs,rfl,e,s',hz⟩ Y;have hi:i<cs.length:=(Zj.mp hc).1;refine dO (SqT.of ao) rfl ?_;symm;intro t ht;refine#[zs++[(t,tx [c],O+(rest+((i+1:Nat):Int)*w)%(m:Int))],by simp,?_,(s'.new Y).new ht,λ z W=> ?_]
  .rw [Zg,e,Yg];congr 1;unfold Jo;rw [Zi,List.getElem?_range hi];change [(tx [c],_)]=[(tx [cs.getD i 0],_)];rw [Zr,hc];rfl
  .rcases Zp.mp W with W | W
   .exact bf ht (bf Y (hz z W))
   .rw [Za.mp W];show ao
 .rintro ys H1 ⟨zs,rfl,e,s1,hz⟩ p hp;rw [Yu (by rw [lr];show Zm _)] at e;show q p _ zs (same_none s1 hp) (Same.new s1 hp) ao (λ z W=>bf hp (hz z W)) e
structure GoodH (ds:L2S) (es:List Int):Prop where
 r1:1<=ds.length
 r2:ds.length<=40
 sr: ∀ps∈ds,(ps.map (·.1)).Pairwise qg
 ln: ∀ps∈ds,ps.length<=62
 sg: ∀ps∈ds,∀p∈ps,Hs.Sg p.1/\0<=p.2/\p.2<ds.length
 ei:es.Pairwise (· < ·)
 el:es.length<=62
 er: ∀e∈es,0<=e/\e<ds.length
theorem Jp {x y:Addr×List Dz} (e:ofR x=ofR y):x=y:=by
 let#[a1,b1]:=x;let#[Y,b2]:=y;have W:a1=Y:=Yc Prod.fst e;have O:b1=b2:=(List.map_inj_right (λ _ _ e=>yo e)).mp (Yc Prod.snd e);rw [W,O]
theorem Ph {s:Str} (h:Hs.Sg s):Thing H (.str s):=by
 let#[k,rfl]:=h;change(tx [Hs.yc k]).length<=100000;rw [bB];simp
inductive sp_f42 (K:W.Frag) (vs:List V) (H:Hp) (Q:VK) (E:XK):Prop
 | mk (cs:List Nat) (x y:V) (xs:List V) (h0:vs=[.str (tx cs),x,y]) (h1:TupK K bu [.int 1]) (h2:(∀c∈cs,Hs.Sg (tx [c]))) (h3:cs.length<60) (h4:Thing H x) (h5:((y= .non/\xs=[.int 1])\/ ∃t,y= .ref t/\SqT K H t xs)) (h6:xs.length<=1000) (h7:(∀x∈xs,Thing H x)) (h8:(∀ (m:Nat) (ws:List Int),GoodS cs x xs m ws-> ∀ (r:Addr) (H':Hp) (ds:L2S) (es:List Int),Same H H'->HsT K H' r ds es->ds.length=m*ws.length->(∀ (j:Nat) ps,ds[j]? =some ps->ps.Perm (zJ cs m ws j)/\(ps.map (·.1)).Pairwise qg)->es=(List.range ws.length).map (λ t:Nat=>((t*m:Nat):Int))->Q (.ref r) H')) (h9:((∀ (m:Nat) (ws:List Int),GoodS cs x xs m ws->False)-> ∀H',Same H H'->E (.ref jl) none H')):sp_f42 K vs H Q E
abbrev Ft (K:W.Frag):Sp:=λ vs H Q _=>sp_f42 K vs H Q E0
abbrev Fv (K:W.Frag):TS:=
  (aG (aM (aK iH (aK bK (aK bJ (aj 5) (tC (V.int 1))) (cG (bT K) (aa (aj 3) az))) (aj 1)) (aA 6))
  (cC (uz K "list" kI (aj 4) (aa (uf [none,some 0,some 1,some 3,some 5,some 6] (iB (aa (aj 1) az)) (aA 0) gD (aH (sp_f12 K) [] E0 (aa (aj 1) (aa (aj 2) (aa (aj 0) (aa (aK (aV K) (aj 3) (aj 4)) (aa (aj 5) az))))))) az))))
abbrev Fw (K:W.Frag) (E:XK):TS:=
  (aG (aM (ir az) (aA 4))
  (aG (dF (iB (aa (cG (bT K) (aa (aj 3) az)) az)) (aA 5) (Fv K))
  (bh (aH (sp_f16 K) [] E (aa (aj 4) (aa (uf [none,some 1] (iB (aa (cG (bT K) (aa (aj 3) az)) az)) (aA 0) gD (aK iH (aj 0) (aj 1))) az))))))
abbrev Fx (K:W.Frag) (E:XK):TS:=
  (aG (cF (lB (pF (lV K (aH (sp_f26 K) [] E0 (aa (aj 1) az))) (aZ (aK Lw (aj 1) (tC (V.int 1)))))) (eU E jl (aa (tC (V.str (Str.ofString "so many rests there can't be"))) az)) bF)
  (aG (cC (aH (sp_f8 K) [] E (aa (aj 3) az)))
  (aG (cC (aH (sp_f11 K) [] E (aa (aK iH (aj 1) (cG (bT K) (aa (aj 3) az))) az)))
  (Fw K E))))
def wH (K:W.Frag) (E:XK) (Eh:XK):TS:=
  (aG (aM (QG (aZ (aK lY (aj 2) (tC V.non))) (tC (V.ref bu)) (aj 2)) (aA 3))
  (Fx K E))
theorem Pj (h:sp_f42 K vs H Q E): ∃Eh,wH K E Eh { nx:=λ _ H'=>Q .non H',rt:=Q } (start ["signs","many","wheel","numbers","doors","turn","later"] vs) H:=by
 let#[cs,x,y,xs,rfl,TK,a7,b0,hx,hy,bn,bl,q,qe]:=h;refine#[E0,?_];unfold wH;with_reducible refine jF (λ σ' H'=>H'=H/\ ∃nt:Addr,SqT K H nt xs/\σ'=[some (.str (tx cs)),some x,some y,some (.ref nt),none,none,none]) ?_ ?_
 rotate_left
 .intro N hN;symm;rcases hy with ⟨rfl,rfl⟩ | ⟨t,rfl,ht⟩
  .symm;show hN _ _ #[rfl,_,TK.sq,rfl]
  .refine CV (λ e=>nomatch e) ?_;symm;show hN _ _ #[rfl,_,ht,rfl]
 rintro σ' _ ⟨rfl,nt,hN,rfl⟩;rename_i H;symm;refine#[_,rfl,hx,?_];by_cases hm: ∃m:Nat,x= .int (m:Int)/\1<=m
 rotate_left
 .have a9: ∀H',Same H H'->E (.ref jl) none H':=qe λ m W g=>hm #[m,g.ex,g.m1]
  cases x with
  | int r=>
   symm;change if true=true then _ else _
   symm;refine Mf (λ h=>hm #[r.toNat,by rw [Int.toNat_of_nonneg ()],()]) ?_;symm;show a9 _ (Same.refl _)
  | _=>
   symm;change if false=true then _ else _
   symm;show a9 _ (Same.refl _)
 let#[m,rfl,ad]:=hm;symm;change if true=true then _ else _
 symm;refine CW () ?_;symm;refine#[nt,xs,rfl,hN,bl,λ W ew av a6=> ?_,λ ne=>qe (λ m W g=>ne W g.ew g.wn g.wr) _ (Same.refl _)];subst ew;rw [Qr] at bn;have aw:1<=W.length:=List.length_pos_iff.mpr av;have uq: ∀ {m':Nat} {as:List Int},GoodS cs (.int (m:Int)) (W.map V.int) m' as->m'=m/\as=W:=λ g=>#[by have:=V.int.inj g.ex;rfl',((List.map_inj_right (λ _ _ e=>V.int.inj e)).mp g.ew).symm]
 symm;refine c7 hN ?_;rw [Qr];symm;refine#[_,rfl,λ h1 h2=> ?_,λ hn=>qe (λ m' as g=>hn ?_) _ (Same.refl _)]
 rotate_left
 .obtain ⟨rfl,rfl⟩:=uq g;have a1:=g.le;have a2:=Nat.mul_pos ad aw;show#[(),()]
 have ar:m*W.length<=40:=()
 have bq:m<=40:=Yl (Nat.le_mul_of_pos_right m aw) ar;have br:W.length<=40:=Yl (Nat.le_mul_of_pos_left W.length ad) ar;symm;intro d hd;symm;refine c7 (xV hd hN) ?_;rw [Qr];symm;refine p7 W.length (Yk _) () () (λ i σ H'=> ∃ (rs:List (Addr×List Dz)) (o5 o6:Option V),H' d=some (.lst (rs.map λ r=>V.ref r.1))/\Same H H'/\rs.length=i*m/\(∀O∈rs,O.1≠d/\RwH H' O)/\(∀ (j:Nat) O,rs[j]? =some O->O.2.map (·.2)=zJ cs m W j)/\σ=[some (.str (tx cs)),some (.int (m:Int)),some y,some (.ref nt),some (.ref d),o5,o6]) #[[],_,_,ao,aB hd _,by simp,by simp,by simp,rfl] ?_ ?_
 .rintro i σ H1 hi ⟨rs,o5,o6,ae,s1,af,al,ag,rfl⟩;have ex:W[i]? =some W[i]:=Ze hi;let#[bc,bd]:=a6 W[i] (List.getElem_mem hi);symm;refine c7 (s1.tup hN) ?_;rw [Qr];refine Dt (m:=(i+1)%W.length) aw (by rw [show(i:Int)+1=((i+1:Nat):Int) by rfl',Int.natCast_emod]) ?_;symm;walk_at "ns";refine eF (SqL.of ae) ?_;symm;refine RW m (Yk _) () () (λ r ys H'=> ∃Y:List (Addr×List Dz),ys=Y.map (λ O=>V.ref O.1)/\Y.length=r/\Same H1 H'/\(∀O∈Y,O.1≠d/\RwH H' O)/\ ∀ (k:Nat) O,Y[k]? =some O->O.2.map (·.2)=Jo cs m (k:Int) W[i] (((i+1)%W.length*m:Nat):Int)) #[[],rfl,rfl,Same.refl _,by simp,by simp] ?_ ?_ ?_
  .rintro r ys H' ⟨Y,rfl,rfl,_⟩;simp
  .rintro r ys H' hr ⟨Y,rfl,ap,s',ac,ah⟩;symm;refine iI ((s1.trans s').tup hN) (v:= .int W[i]) (aP (by rw [Zi,ex];rfl)) ?_;symm;refine#[cs,m,r,W[i],_,rfl,ad,(),bc,bd,λ p H2 zs hp s2 bi hz ez=> ?_];refine#[Y++[(p,zs)],by simp,by simp [ap],s'.trans s2,λ O mr=> ?_,λ k O hk=> ?_]
   .rcases Zp.mp mr with mr | mr
    .exact #[(ac O mr).1,(ac O mr).2.same s2]
    .rw [Za.mp mr];refine#[λ e=> ?_,bi,hz];rw [show p=d from e,s'.get ae] at hp
     cases hp
   .rcases Nat.lt_or_ge k Y.length with w | w
    .rw [List.getElem?_append_left w] at hk;show ah k O hk
    .rw [List.getElem?_append_right w] at hk;have e0:k-Y.length=0:=by
      have:=(Zj.mp hk).1;simp at this;rfl'
     rw [e0] at hk
     cases hk;rw [show k=r by rfl'];rw [ez,Int.natCast_mul]
  .rintro ys H2 ⟨Y,rfl,ap,s2,ac,ah⟩ p hp;symm;have bv:p≠d:=λ e=>by rw [e,s2.get ae] at hp;cases hp
   refine tW (bf hp (s2.get ae)) ao (by rw [Qr,Qr,af,ap];have:=Nat.mul_le_mul (Nat.le_of_lt hi) (Zm m);rw [Nat.mul_comm] at ar;rfl') ?_;symm;have S:Same H2 (upd H2 p (.lst (Y.map λ O=>V.ref O.1))):=aB hp _;have e3:=S.get (s2.get ae);refine#[rs++Y,_,_,by rw [ao,Zg],λ b u hb=> ?_,by rw [Zq,af,ap,Nat.add_mul,Nat.one_mul],λ O mr=> ?_,λ j O hj=> ?_,rfl]
   .rw [aq (λ e=>by rw [e,hd] at hb;cases hb)];show S b u (s2 b u (s1 b u hb))
   .rcases Zp.mp mr with mr | mr
    .exact #[(al O mr).1,(((al O mr).2.same s2).same S).set e3 (al O mr).1]
    .exact #[(ac O mr).1,((ac O mr).2.same S).set e3 (ac O mr).1]
   .rcases Nat.lt_or_ge j rs.length with w | w
    .rw [List.getElem?_append_left w] at hj;show ag j O hj
    .rw [List.getElem?_append_right w] at hj;have hk:j-rs.length<m:=by rw [<- ap];show(Zj.mp hj).1
     rw [ah _ _ hj];have w2:m*i<=j:=by rw [af,Nat.mul_comm] at w;show w
     let#[k,rfl]: ∃k,j=m*i+k:=#[j-m*i,()];have ek:m*i+k-rs.length=k:=by rw [af,Nat.mul_comm i m];rfl'
     rw [ek] at hk ⊢;unfold zJ;rw [Nat.mul_add_mod,Nat.mod_eq_of_lt hk,Nat.mul_add_div (),Nat.div_eq_of_lt hk];simp only [Nat.add_zero];rw [Zr,ex];rfl
 .rintro σ H1 ⟨rs,o5,o6,ae,s1,af,al,ag,rfl⟩;symm;refine c7 (s1.tup hN) ?_;rw [Qr];symm;refine RX W.length (Yk _) () () (λ t=>V.int ((t*m:Nat):Int)) (λ t ht A kA=> ?_) λ e he=> ?_
  .symm;rw [<- Int.natCast_mul];show kA
  have hj: ∀ (j:Nat) O,rs[j]? =some O->(RowG (m*W.length) O.2↔cs.Nodup):=λ j O hj=>by
   have e:=ag j O hj;have e2:O.2.map (·.2.1)=cs.map λ c=>tx [c]:=by
    have:=Yc (List.map (·.1)) e;unfold zJ at this;rw [Fl,Zn] at this;show this
   refine#[λ h=>pB.mp (by rw [<- e2];show h.1),λ h=>#[by rw [e2];show pB.mpr h,λ z mz=> ?_]];have a3:z.2∈zJ cs m W j:=by rw [<- e];show Zb.mpr #[z,mz,rfl]
   let#[#[c,mc,ec],h1,h2]:=mX ad av a3;show#[by rw [ec];show a7 c mc,h1,h2]
  have ai:rs.length=m*W.length:=by rw [af,Nat.mul_comm]
  have a5:1<=rs.length:=by rw [ai];show Nat.mul_pos ad aw
  have ax:((List.range W.length).map λ t:Nat=>((t*m:Nat):Int)).Pairwise (· < ·):=List.pairwise_map.mpr (List.pairwise_lt_range.imp λ {a b} h=>by
   have:=Nat.mul_lt_mul_of_pos_right h ad;rfl')
  have ay: ∀t∈(List.range W.length).map (λ t:Nat=>((t*m:Nat):Int)),0<=t/\t<((m*W.length:Nat):Int):=λ t mt=>by
   let#[k,hk,rfl]:=Zb.mp mt;have:=Nat.mul_lt_mul_of_pos_right (Yy.mp hk) ad;rw [Nat.mul_comm m];show#[(),()]
  have S:Same H1 (upd H1 e (.lst ((List.range W.length).map λ t=>V.int ((t*m:Nat):Int)))):=aB he _;refine#[d,e,rs.map ofR,((List.range W.length).map λ t:Nat=>((t*m:Nat):Int)).map V.int,rfl,?_,by rw [Qr];rfl',λ O mr=> ?_,?_,λ v mv=> ?_,by simp;rfl',λ Y is e1 e2 g1 g2 g3 g4 r H' ds es s' hH hs hp be=> ?_,λ ne H' s'=>qe (λ m' as g=> ?_) _ ((s1.trans S).trans s')]
  .rw [Zn];show SqL.of (S.get ae)
  .obtain ⟨ab,bb,rfl⟩:=Zb.mp mr;let#[j,a4,ej]:=List.mem_iff_getElem.mp bb;have am:rs[j]? =some ab:=by rw [Ze a4,ej]
   have hw:=(al ab bb).2.same S;refine#[by change SqL K _ ab.1 ((ab.2.map ofD).map _);rw [Zn];show SqL.of hw.1,λ g mg=> ?_,?_]
   .obtain ⟨z,mz,rfl⟩:=Zb.mp mg;have a3:z.2∈zJ cs m W j:=by rw [<- ag j ab am];show Zb.mpr #[z,mz,rfl]
    let#[#[c,mc,ec],_]:=mX ad av a3;show#[SqT.of (hw.2 z mz),Ph (by rw [ec];show a7 c mc),trivial]
   .show (ab.2.map ofD).length<_;have:=Yc List.length (ag j ab am);unfold zJ at this;rw [lr,Qr] at this;rw [Qr];rfl'
  .rw [Zn];show SqL.of ao
  .obtain ⟨i,_,rfl⟩:=Zb.mp mv;trivial
  .have bp:rs=Y:=(List.map_inj_right (λ _ _ e=>Jp e)).mp e1;subst bp;have bg:=(List.map_inj_right (λ _ _ e=>V.int.inj e)).mp e2;have hc:cs.Nodup:=by
    have h0:rs[0]? =some rs[0]:=Ze a5;refine(hj 0 _ h0).mp ?_;rw [<- ai];show g3 _ (List.getElem_mem a5)
   refine q m W #[hc,rfl,ad,rfl,av,a6,ar] r H' ds es ((s1.trans S).trans s') hH (by rw [hs.1,ai]) (λ j ps a8=> ?_) ?_
   .have bo:j<rs.length:=by rw [<- hs.1];show(Zj.mp a8).1
    have am:rs[j]? =some rs[j]:=Ze bo;have:=hs.2 j ps _ a8 am;rw [ag j _ am] at this;show this
   .exact Hs.T4 hp be (by rw [bg]) ax
  .obtain ⟨rfl,rfl⟩:=uq g;refine ne rs _ rfl rfl a5 () (λ O mr=> ?_) #[ax.imp λ {a b} h=>(),λ t mt=>by rw [ai];show ay t mt];let#[j,a4,ej]:=List.mem_iff_getElem.mp mr;rw [ai];show(hj j O (by rw [Ze a4,ej])).mpr g.nd
theorem Pk (h:sp_f42 K vs H Q E):vs.length=3:=by
 let#[_,_,_,_,rfl,_]:=h;rfl
theorem Dj.cong {ev':Sd->Prop} {B:Nat->Sd->Sd->Prop} {F:Sd->Nat×Nat->Prop} {W:Nat×Nat->Sd->Prop} (h:Dj ev B F W) (h1: ∀x,ev x↔ev' x) (h2: ∀c x y,B c x y↔B' c x y) (h3: ∀x k,F x k↔F' x k):Dj ev' B' F' W:=by
 have e1:ev=ev':=funext λ x=>propext (h1 x)
 have O:B=B':=funext λ c=>funext λ x=>funext λ y=>propext (h2 c x y)
 have Y:F=F':=funext λ x=>funext λ k=>propext (h3 x k)
 rw [<- e1,<- O,<- Y];show h
def oL:Option Nat->V
 | none=> .non
 | some L=> .int (L:Nat)
def FarV (ls:List (Str×List Nat)) (ds:L2S) (es:List Int) (o:Option Nat):Prop:= ∃N,∃ (S:List Sd) (fz:List Fq),(bU (ds.map (b7 ls)) N).length<=N/\(∀x,x∈S↔Mm.Rch (Ei (ds.map (b7 ls)) N) (O3 (ds.map (b7 ls))) x)/\(fz.map (·.2.1)).Nodup/\Dj (Ob es S) (Jk (QB ls (ds.map (b7 ls))) S) (il fz) (λ _ _=>False)/\(o=none-> ∀z∈qN (ds.map (b7 ls)) (bU (ds.map (b7 ls)) N),∀k,¬il fz (mU z) k)/\ ∀L,o=some L->(∃z∈qN (ds.map (b7 ls)) (bU (ds.map (b7 ls)) N),∃k,il fz (mU z) k/\L=uh z+k.1)/\ ∀z∈qN (ds.map (b7 ls)) (bU (ds.map (b7 ls)) N),∀k,il fz (mU z) k->L<=uh z+k.1
theorem yp {gz:List Fq} (hn:(gz.map (·.2.1)).Nodup): ∀x k l,il gz x k->il gz x l->k=l:=λ x k l ⟨y,W,Y,O⟩ ⟨z,mz,e3,e4⟩=>by rw [<- O,<- e4,dU hn W mz (Y.trans e3.symm)]
theorem FarV.uni {ls:List (Str×List Nat)} {es:List Int} {o:Option Nat} (h:FarV ls ds es o) (h':FarV ls ds es o'):o=o':=by
 let#[N,S,gz,hN,hS,ac,hD,h1,h2]:=h;let#[N2,S2,af,ab,ag,W,ae,k1,k2]:=h';have hm: ∀x,x∈S2↔x∈S:=λ x=>by rw [ag x,hS x,show Ei (ds.map (b7 ls)) N2=Ei (ds.map (b7 ls)) N by unfold Ei;rw [qU ab hN]]
 have O:Dj (Ob es S) (Jk (QB ls (ds.map (b7 ls))) S) (il af) (λ _ _=>False):=ae.cong (λ x=>and_congr (hm x) Iff.rfl) (λ c x y=>and_congr (hm x) Iff.rfl) λ x k=>Iff.rfl
 rw [qU ab hN] at k1 k2
 cases o with
 | none=>
  cases o' with
  | none=>rfl
  | some L=>
   let#[#[z,mz,k,hk,_],_]:=k2 L rfl;show absurd (O.uni hD (yp W) hk) (h1 rfl z mz k)
 | some L=>
  let#[#[z,mz,k,hk,e],ad]:=h2 L rfl
  cases o' with
  | none=>show absurd (hD.uni O (yp ac) hk) (k1 rfl z mz k)
  | some L2=>
   let#[#[z2,ah,al,ai,e2],Y]:=k2 L2 rfl;have a1:=Y z mz k (hD.uni O (yp ac) hk);have a2:=ad z2 ah al (O.uni hD (yp W) ai);show Yc some ()
inductive sp_f35 (K:W.Frag) (vs:List V) (H:Hp) (Q:VK) (E:XK):Prop
 | mk (f ha:Addr) (h:Nat) (ls:List (Str×List Nat)) (ds:L2S) (es:List Int) (h0:vs=[.ref f, .ref ha]) (h1:FnF K H f h ls) (h2:Fo.Wf h ls) (h3:HsG K H ha ds es) (h4:Th ls ds) (h5: ∀o H',FarV ls ds es o->Same H H'->Q (oL o) H'):sp_f35 K vs H Q E
def wI (K:W.Frag) (E:XK) (Eh:XK):TS:=
  (aG (aM (aH (sp_f32 K) [] E0 (aa (aj 0) (aa (aj 1) az))) (aA 2))
  (bh (QG (aZ (aK lY (aj 2) (tC V.non))) (tC V.non) (aK (aV K) (aj 2) (tC (V.int 0))))))
theorem Pn (h:sp_f35 K vs H Q E): ∃Eh,wI K E Eh { nx:=λ _ H'=>Q .non H',rt:=Q } (start ["font","house","told"] vs) H:=by
 let#[f,ha,h,ls,ds,es,rfl,hF,wf,hH,sz,q]:=h;refine#[E0,?_];unfold wI;symm;refine#[f,ha,h,ls,ds,es,rfl,hF,wf,hH,sz,λ N S fz hN hS hn hD=>#[λ h0 H1 W=> ?_,λ r H1 L t0 t1 W er Y O=> ?_]]
 .symm;show q none _ #[N,S,fz,hN,hS,hn,hD,λ _=>h0,λ L e=>by cases e] W
 .symm;rw [Zv (show ¬V.ref r=V.non from λ z=>by cases z)];symm;refine gm er ?_;symm;show q (some L) _ #[N,S,fz,hN,hS,hn,hD,(λ e=>by cases e),(λ L' e=>by cases e;show#[Y,O])] W
def SumD (cs:List Nat) (m:Nat) (ds:L2S) (es:List Int):Prop:=ds.length=m*([1]:List Int).length/\(∀ (j:Nat) ps,ds[j]? =some ps->ps.Perm (zJ cs m [1] j)/\(ps.map (·.1)).Pairwise qg)/\es=(List.range ([1]:List Int).length).map (λ t:Nat=>((t*m:Nat):Int))
theorem SumD.uni {cs:List Nat} {ds':L2S} {es:List Int} (h:SumD cs m ds es) (h':SumD cs m ds' es'):ds=ds'/\es=es':=by
 let#[O,h2,rfl]:=h;let#[k1,k2,rfl]:=h';refine#[List.ext_getElem (O.trans k1.symm) λ i a b=> ?_,rfl];let#[p1,p2]:=h2 i _ (Ze a);let#[W,Y]:=k2 i _ (Ze b);show Hs.SX p1 p2 W Y
theorem SumD.sz {ls:List (Str×List Nat)} {ht:Nat} (wf:Fo.Wf ht ls) {cs:List Nat} {es:List Int} (h:SumD cs m ds es) (hm:1<=m) (hm9:m<=9) (hc:cs.length<=9):Th ls ds:=by
 let#[h1,h2,_]:=h;have Y:ds.length=m:=by rw [h1];show Nat.mul_one m
 refine#[(),(),λ ps O=> ?_,?_]
 .obtain ⟨j,hj⟩:=List.mem_iff_getElem?.mp O;let#[p1,_]:=h2 j ps hj;refine#[?_,λ p mp=> ?_]
  .rw [p1.length_eq];unfold zJ;rw [lr];rfl'
  .have:=(mX hm (by simp) (p1.mem_iff.mp mp)).2;rw [Y];refine#[this.1,?_];have W:=this.2;simp at W;show W
 .rw [Y];show Yl (Nat.mul_le_mul (Nat.mul_le_mul hm9 hm9) (Nat.mul_le_mul_right 9 wf.le)) (by decide)
def FarS (ls:List (Str×List Nat)) (cs:List Nat) (m:Nat) (o:Option Nat):Prop:= ∃ds es,SumD cs m ds es/\FarV ls ds es o
theorem FarS.uni {ls:List (Str×List Nat)} {cs:List Nat} {o:Option Nat} (h:FarS ls cs m o) (h':FarS ls cs m o'):o=o':=by
 let#[ds,es,O,W]:=h;let#[Y,ab,k1,k2]:=h';let#[rfl,rfl]:=O.uni k1;show W.uni k2
structure GuL (ls:List (Str×List Nat)) (cs:List Nat) (w:Int) (mo:Nat) (os:List (Option Nat)):Prop where
 l1:1<=os.length
 lm:os.length<=mo
 fa: ∀ (j:Nat) o,os[j]? =some o->FarS ls cs (j+1) o
 go: ∀ (j:Nat) o,os[j]? =some o->j+1<os.length-> ∃L:Nat,o=some L/\(L:Int)<w
 st:os.length<mo-> ∀ (j:Nat) o,os[j]? =some o->j+1=os.length-> ∀L:Nat,o=some L->w<=(L:Int)
theorem GuL.le {ls:List (Str×List Nat)} {cs:List Nat} {w:Int} (h:GuL ls cs w mo os) (h':GuL ls cs w mo os'):os'.length<=os.length:=by
 rcases Nat.lt_or_ge os.length os'.length with c | c
 .have hl:=h.l1;have ab:=h'.lm;have a1:os.length-1<os.length:=()
  have W:=Ze a1;have O:os'[os.length-1]? =some (os'[os.length-1]'(by rfl')):=Ze ();let#[L,Y,hL]:=h'.go _ _ O ();have eo:=(h.fa _ _ W).uni (h'.fa _ _ O);have:=h.st () _ _ W () L (eo.trans Y);rfl'
 .exact c
theorem GuL.uni {ls:List (Str×List Nat)} {cs:List Nat} {w:Int} (h:GuL ls cs w mo os) (h':GuL ls cs w mo os'):os=os':=
 List.ext_getElem (Nat.le_antisymm (h'.le h) (h.le h')) λ i a b=>(h.fa i _ (Ze a)).uni (h'.fa i _ (Ze b))
inductive sp_f34 (K:W.Frag) (vs:List V) (H:Hp) (Q:VK) (E:XK):Prop
 | mk (f:Addr) (h:Nat) (ls:List (Str×List Nat)) (cs:List Nat) (w:Int) (mo:Nat) (h0:vs=[.ref f, .str (tx cs), .int w, .int (mo:Nat)]) (h1:TupK K bu [.int 1]) (h2:FnF K H f h ls) (h3:Fo.Wf h ls) (h4:(∀c∈cs,Hs.Sg (tx [c]))) (h5:cs.length<=9) (h6:1<=mo) (h7:mo<=9) (h8:(cs.Nodup-> ∀p H' os,Same H H'->H p=none->H' p=some (.lst (os.map oL))->GuL ls cs w mo os->Q (.ref p) H')) (h9:(¬cs.Nodup-> ∀H',Same H H'->E (.ref jl) none H')):sp_f34 K vs H Q E
abbrev Fy (K:W.Frag):Sp:=λ vs H Q _=>sp_f34 K vs H Q E0
abbrev FJ (K:W.Frag) (E:XK):TS:=
  (aG (aM (aH (sp_f35 K) [] E0 (aa (aj 0) (aa (aH (sp_f42 K) [V.non] E (aa (aj 1) (aa (aj 5) az))) az))) (aA 6))
  (aG (cC (uz K "list" cT (aj 4) (aa (aj 6) az)))
  (cF (Ke (aZ (aK lY (aj 6) (tC V.non))) (aZ (aK Lw (aj 6) (aj 2)))) (bh (aj 4)) bF)))
def wJ (K:W.Frag) (E:XK) (Eh:XK):TS:=
  (aG (aM (ir az) (aA 4))
  (aG (dF (zP (aa (tC (V.int 1)) (aa (aK bJ (aj 3) (tC (V.int 1))) az))) (aA 5) (FJ K E))
  (bh (aj 4))))
theorem Pq (h:sp_f34 K vs H Q E): ∃Eh,wJ K E Eh { nx:=λ _ H'=>Q .non H',rt:=Q } (start ["font","signs","wish","most","answer","many","far"] vs) H:=by
 let#[f,h,ls,cs,w,mo,rfl,TK,hF,wf,av,as,a1,ay,q,qe]:=h;refine#[E0,?_];unfold wJ;symm;intro an ac;symm;walk_at "ns";refine Mz mo () () () () () (λ i σ H'=>Same H H'/\ ∃ (W:List (Option Nat)) (o5 o6:Option V),H' an=some (.lst (W.map oL))/\W.length=i/\(∀ (j:Nat) o,W[j]? =some o->FarS ls cs (j+1) o/\ ∃L:Nat,o=some L/\(L:Int)<w)/\(0<i->cs.Nodup)/\σ=[some (.ref f),some (.str (tx cs)),some (.int w),some (.int (mo:Nat)),some (.ref an),o5,o6]) #[aB ac _,[],_,_,ao,rfl,by simp,(),rfl] ?_ ?_
 .rintro i σ H1 hi ⟨s1,W,o5,o6,ae,hl,ad,af,rfl⟩;rw [show(1:Int)+(i:Int)=((i+1:Nat):Int) by rfl'];symm;refine#[cs, .int ((i+1:Nat):Int), .non,[.int 1],rfl,TK,av,(),trivial, .inl #[rfl,rfl],by simp,λ x mx=>by rw [Za.mp mx];trivial,λ m' ws gs r H2 ds es s2 hH ap aw am=> ?_,λ ax H2 s2=>qe (λ nd=>ax (i+1) [1] #[nd,rfl,(),rfl,by simp,by simp,by simp;rfl']) _ (s1.trans s2)];have em:m'=i+1:=by have:=V.int.inj gs.ex;rfl'
  have ew:ws=[1]:=by
   have:=gs.ew
   cases ws with
   | nil=>cases this
   | cons w ws=>
    cases ws with
    | nil=>injection this with h1 _;rw [<- V.int.inj h1]
    | cons _ _=>injection this with _ h2;cases h2
  subst em ew;have al:SumD cs (i+1) ds es:=#[ap,aw,am];have ah:=gs.nd;symm;refine#[f,r,h,ls,ds,es,rfl,(hF.same s1).same s2,wf,hH.g,al.sz wf () () as,λ o H3 ho s3=> ?_];have fo:FarS ls cs (i+1) o:=#[ds,es,al,ho];have ag:=s2.trans s3;symm;refine eF (SqL.of (ag.get ae)) ?_;symm;refine iJ (ag.get ae) (by rw [Qr];rfl') ?_;have Y:upd H3 an (.lst (W.map oL++[oL o])) an=some (.lst ((W++[o]).map oL)):=by rw [ao,Zg];rfl
  have s4:Same H (upd H3 an (.lst (W.map oL++[oL o]))):=λ b u e=>by
   rw [aq (λ z=>by rw [z,ac] at e;cases e)];show(s1.trans ag).get e
  generalize upd H3 an (.lst (W.map oL++[oL o]))=H4 at Y s4 ⊢;have ab: ∀ (j:Nat) o',(W++[o])[j]? =some o'->FarS ls cs (j+1) o'/\(j+1<(W++[o]).length-> ∃L:Nat,o'=some L/\(L:Int)<w):=λ j o' O=>by
   rcases Nat.lt_trichotomy j W.length with c | c | c
   .rw [List.getElem?_append_left c] at O;show#[(ad j o' O).1,λ _=>(ad j o' O).2]
   .rw [c,List.getElem?_concat_length] at O
    cases O;show#[by rw [c,hl];show fo,λ z=>by rw [Zq,Yf] at z;rfl']
   .rw [List.getElem?_eq_none (by rw [Zq,Yf];rfl')] at O
    cases O
  have ai:(∀L:Nat,o=some L->w<=(L:Int))->GuL ls cs w mo (W++[o]):=λ ar=>⟨by rw [Zq];show Nat.le_add_left ..,by rw [Zq,Yf];rfl',λ j o' O=>(ab j o' O).1,λ j o' O z=>(ab j o' O).2 z,λ _ j o' O z L e=>by
   have ej:j=W.length:=by rw [Zq,Yf] at z;rfl'
   rw [ej,List.getElem?_concat_length] at O
   cases O;show ar L e⟩
  symm
  cases o with
  | none=>
   rw [show oL none=V.non from rfl,Zz rfl];symm;show q ah an _ _ s4 ac Y (ai λ L e=>by cases e)
  | some L=>
   rw [Zv (show ¬oL (some L)=V.non from λ z=>by cases z)];change if false=true then _ else _
   rw [if_neg (by decide)];rw [show oL (some L)=V.int (L:Nat) from rfl];symm;rcases Int.lt_or_le (L:Int) w with c | c
   .rw [Zv (by rfl': ¬w<=(L:Int)),if_neg (by decide)];symm;refine#[s4,W++[some L],_,_,Y,by rw [Zq,hl];rfl,λ j o' O=>#[(ab j o' O).1,?_],λ _=>ah,rfl];rcases Nat.lt_trichotomy j W.length with c' | c' | c'
    .exact (ab j o' O).2 (by rw [Zq,Yf];rfl')
    .rw [c',List.getElem?_concat_length] at O
     cases O;show#[L,rfl,c]
    .rw [List.getElem?_eq_none (by rw [Zq,Yf];rfl')] at O
     cases O
   .rw [Zz c,if_pos rfl];symm;show q ah an _ _ s4 ac Y (ai λ L' e=>by cases e;show c)
 .rintro σ H1 ⟨s1,W,o5,o6,ae,hl,ad,af,rfl⟩;symm;refine q (af ()) an _ W s1 ac ae #[(),(),λ j o O=>(ad j o O).1,λ j o O _=>(ad j o O).2,λ z=>()]
theorem Pr (h:sp_f34 K vs H Q E):vs.length=4:=by
 let#[_,_,_,_,_,_,rfl,_]:=h;rfl
inductive sp_f4 (K:W.Frag) (vs:List V) (H:Hp) (Q:VK) (E:XK):Prop
 | mk (a:Addr) (ns:List Int) (k:Nat) (h0:vs=[.ref a, .int k]) (h1:SqL K H a (ns.map V.int)) (h2:Q (.int (Mm.cellAt ns k)) H):sp_f4 K vs H Q E
def FN (K:W.Frag) (E:XK) (Eh:XK):TS:=
  (aG (cF (aZ (aK Bh (aj 1) (cG (bT K) (aa (aj 0) az)))) (bh (aK (cY K) (aj 0) (aj 1))) bF)
  (bh (tC (V.int 0))))
theorem Tv (h:sp_f4 K vs H Q E): ∃W,FN K E W { nx:=λ _ H'=>Q .non H',rt:=Q } (start ["script","k"] vs) H:=by
 let#[a,ns,k,rfl,O,q]:=h;refine#[E0,?_];unfold FN;symm;refine eX O ?_;symm;rw [Qr];refine fW (λ c=> ?_) λ c=> ?_
 .symm;refine cD O (aP (v:=V.int (Mm.cellAt ns k)) ?_) ?_
  .rw [Zi,Ze (),Option.map_some,Mm.getD_some (Ze ())]
  .exact q
 .symm;rw [Mm.getD_none ()] at q;show q
inductive sp_f25 (K:W.Frag) (vs:List V) (H:Hp) (Q:VK) (E:XK):Prop
 | mk (c k:Int) (h0:vs=[.int c, .int k]) (h1:0<=k) (h2:k<=100000) (h3: ∀m:Nat,Q (.int (m:Nat)) H):sp_f25 K vs H Q E
def wK (K:W.Frag) (E:XK) (Eh:XK):TS:=
  (aG (aM (aK bK (aK bJ (aK iH (aK bK (aj 0) (tC (V.int 2147483647))) (aK bJ (aK iH (aj 1) (aj 1)) (tC (V.int 48271)))) (aj 1)) (tC (V.int 2147483629))) (aA 2))
  (bh (aK iW (aK bK (aK iH (aj 2) (aj 2)) (tC (V.int 2147483587))) (tC (V.int 3)))))
theorem Pu (h:sp_f25 K vs H Q E): ∃Y,wK K E Y { nx:=λ _ H'=>Q .non H',rt:=Q } (start ["cell","k","number"] vs) H:=by
 let#[c,k,rfl,k0,k1,q]:=h;refine#[E0,?_];unfold wK;symm;have W:0<=(c%2147483647*(k*k+48271)+k)%2147483629:=Int.emod_nonneg _ (by decide);have O:(c%2147483647*(k*k+48271)+k)%2147483629<2147483629:=Int.emod_lt_of_pos _ (by decide);generalize (c%2147483647*(k*k+48271)+k)%2147483629=n at W O;have h1:0<=n*n%2147483587:=Int.emod_nonneg _ (by decide);generalize n*n%2147483587=m at h1;have h2:0<=m / 3:=()
 have e:m / 3=((m / 3).toNat:Int):=()
 rw [e];show q _
inductive sp_f20 (K:W.Frag) (vs:List V) (H:Hp) (Q:VK) (E:XK):Prop
 | mk (n:Int) (h0:vs=[.int n]) (h1:Q (.str (tx [Hs.yc n])) H):sp_f20 K vs H Q E
def wL (K:W.Frag) (E:XK) (Eh:XK):TS:=
  (aG (aM (tC (V.str (Str.ofString " !\"#$&'()*+,-./0123456789:;<=>?@ABCDEFGHIJKLMNOPQRSTUVWXYZ[\\]^_`"))) (aA 1))
  (aG (aM (aK cB (aj 1) (tC (V.str (Str.ofString "abcdefghijklmnopqrstuvwxyz{|}~")))) (aA 1))
  (bh (aK Hg (aj 1) (aK bK (aj 0) (tC (V.int 94)))))))
theorem Px (h:sp_f20 K vs H Q E): ∃W,wL K E W { nx:=λ _ H'=>Q .non H',rt:=Q } (start ["number","some"] vs) H:=by
 let#[n,rfl,q]:=h;refine#[E0,?_];unfold wL;symm;refine gK (by decide) ?_;symm;have hl:Hs.Gy.cps.toList.length=94:=by ac_nf
 have O:0<=n%94:=Int.emod_nonneg _ (by decide);have Y:n%94<94:=Int.emod_lt_of_pos _ (by decide);refine JP (c:=Hs.yc n) (by decide) ?_ q;change ux Hs.Gy.cps.toList (n%94)=_;rw [Mi O ()];unfold Hs.yc;rw [Zr,Ze ()];rfl
inductive sp_f13 (K:W.Frag) (vs:List V) (H:Hp) (Q:VK) (E:XK):Prop
 | mk (c:Int) (n:Nat) (h0:vs=[.int c, .int n]) (h1:n<=9) (h2: ∀p H' (ss:List Str),Same H H'->H p=none->H' p=some (.lst (ss.map V.str))->ss.length=n->ss.Nodup->(∀s∈ss,Hs.Sg s)->Q (.ref p) H'):sp_f13 K vs H Q E
abbrev FP (K:W.Frag):TS:=
  (aG (cC (uz K "list" cT (aj 3) (aa (aH (sp_f20 K) [] E0 (aa (aj 2) az)) az)))
  (aM (aK bJ (aK bJ (aj 2) (tC (V.int 1))) (aK bK (aH (sp_f25 K) [] E0 (aa (aj 0) (aa (aK bJ (aj 4) (tC (V.int 1))) az))) (tC (V.int 11)))) (aA 2)))
def wM (K:W.Frag) (E:XK) (Eh:XK):TS:=
  (aG (aM (aH (sp_f25 K) [] E0 (aa (aj 0) (aa (tC (V.int 0)) az))) (aA 2))
  (aG (aM (ir az) (aA 3))
  (aG (dF (iB (aa (aj 1) az)) (aA 4) (FP K))
  (bh (aj 3)))))
theorem Py (h:sp_f13 K vs H Q E): ∃Eh,wM K E Eh { nx:=λ _ H'=>Q .non H',rt:=Q } (start ["cell","many","at","found","k"] vs) H:=by
 let#[c,n,rfl,ai,q]:=h;refine#[E0,?_];unfold wM;symm;refine#[_,_,rfl,by decide,by decide,λ W=> ?_];symm;intro p hp;symm;have af: ∀p'∈[p],H p'=none:=λ p' ac=>by rw [Za.mp ac];show hp
 refine p7 n (Yk _) () () (λ i σ H'=> ∃ (ss:List Str) (dd:Nat),ss.length=i/\i<=n/\dd<=11*i/\Sb [p] H H'/\H' p=some (.lst (ss.map V.str))/\ss.Nodup/\(∀s∈ss,∃e:Nat,e<dd/\s=tx [Hs.yc ((W:Int)+(e:Int))])/\ ∃o1,σ=[some (.int c),some (.int (n:Nat)),some (.int ((W:Int)+(dd:Int))),some (.ref p),o1]) #[[],0,rfl,(),(),Sb.of (aB hp _),ao,by simp,by simp,none,by rw [show(W:Int)+((0:Nat):Int)=(W:Int) by rfl'];rfl] ?_ ?_
 .rintro i σ H' hi ⟨ss,dd,hl,_,ag,sb,e,ab,O,o1,rfl⟩;symm;refine eF (SqL.of e) ?_;symm;refine#[_,rfl,?_];symm;refine iJ e (by simp;rfl') ?_;symm;refine#[_,_,rfl,(),(),λ mx=> ?_];symm;let#[d1,ae,ah]:=Mm.dh (mx:Int) 11 ();rw [show(mx:Int)%11=(d1:Int) from ae];have hb:dd<=93:=()
  refine#[ss++[tx [Hs.yc ((W:Int)+(dd:Int))]],dd+1+d1,by simp [hl],(),(),sb.set (by simp),by rw [ao,Zg];rfl,?_,λ s Y=> ?_,some (.int (i:Nat)),?_]
  .rw [Yt];refine#[ab,by simp,λ u mu w mw ew=> ?_];let#[e',ad,eu]:=O u mu;rw [Za.mp mw,eu] at ew;have:=Hs.Ja (List.cons.inj (Dh.mp ew)).1;rfl'
  .rcases Zp.mp Y with Y | Y
   .obtain ⟨e',ad,eu⟩:=O s Y;show#[e',(),eu]
   .exact #[dd,(),Za.mp Y]
  .rw [show(W:Int)+((dd+1+d1:Nat):Int)=(W:Int)+(dd:Int)+1+(d1:Int) by rfl'];rfl
 .rintro σ H' ⟨ss,dd,hl,_,ag,sb,e,ab,O,o1,rfl⟩;symm;show q p H' ss (sb.off af) hp e hl ab λ s Y=>by let#[e',_,eu]:=O s Y;show#[_,eu]
inductive sp_f9 (K:W.Frag) (vs:List V) (H:Hp) (Q:VK) (E:XK):Prop
 | mk (c k:Int) (h:Nat) (h0:vs=[.int c, .int k, .int h]) (h1:0<=k) (h2:k<=99999) (h3:h<=60) (h4: ∀x:Nat,x<2^h->Q (.int (x:Nat)) H):sp_f9 K vs H Q E
def FQ (K:W.Frag) (E:XK) (Eh:XK):TS:=
  (bh (aK bK (aK bJ (aK iH (aH (sp_f25 K) [] E0 (aa (aj 0) (aa (aj 1) az))) (tC (V.int 715827883))) (aH (sp_f25 K) [] E0 (aa (aj 0) (aa (aK bJ (aj 1) (tC (V.int 1))) az)))) (aK QV (tC (V.int 1)) (aj 2))))
theorem Tw (h:sp_f9 K vs H Q E): ∃Eh,FQ K E Eh { nx:=λ _ H'=>Q .non H',rt:=Q } (start ["cell","k","height"] vs) H:=by
 let#[c,k,h,rfl,k0,k1,ab,q]:=h;refine#[E0,?_];unfold FQ;symm;refine#[_,_,rfl,k0,(),λ O=> ?_];symm;refine#[_,_,rfl,(),(),λ W=> ?_];symm;rw [Int.one_mul,Yk];have Y:(0:Int)<2^h:=by rw [<- Bx.rT];show Int.natCast_pos.mpr (Nat.two_pow_pos h)
 have a0:=Int.emod_nonneg ((O:Int)*715827883+(W:Int)) (Int.ne_of_gt Y);have a1:=Int.emod_lt_of_pos ((O:Int)*715827883+(W:Int)) Y;generalize ((O:Int)*715827883+(W:Int))%2^h=x at a0 a1;rw [<- Bx.rT] at a1;rw [show x=(x.toNat:Int) by rfl'];show q _ ()
inductive sp_f21 (K:W.Frag) (vs:List V) (H:Hp) (Q:VK) (E:XK):Prop
 | mk (c:Int) (sz sg:Addr) (h n m:Nat) (ss:List Str) (h0:vs=[.int c, .ref sz, .ref sg]) (h1:SqL K H sz [.int (h:Nat), .int (n:Nat), .int (m:Nat)]) (h2:SqL K H sg (ss.map V.str)) (h3:h<=60) (h4:(1<=n/\n<=40)) (h5:(1<=m/\m<=8)) (h6:n<=ss.length) (h7:ss.Nodup) (h8:(∀s∈ss,Hs.Sg s)) (h9: ∀f H' ls,Same H H'->FnF K H' f h ls->Fo.Wf h ls->Q (.ref f) H'):sp_f21 K vs H Q E
abbrev FT (K:W.Frag):TS:=
  (aG (dF (iB (aa (aK bJ (tC (V.int 1)) (aK bK (aH (sp_f25 K) [] E0 (aa (aj 0) (aa (aK bJ (aj 4) (tC (V.int 70))) az))) (aK (cY K) (aj 1) (tC (V.int 2))))) az)) (aA 6) (cC (uz K "list" cT (aj 5) (aa (aH (sp_f9 K) [] E0 (aa (aj 0) (aa (aK bJ (aK bJ (aK iH (tC (V.int 16)) (aj 4)) (aK iH (tC (V.int 2)) (aj 6))) (tC (V.int 80))) (aa (aK (cY K) (aj 1) (tC (V.int 0))) az)))) az))))
  (cC (uz K "list" cT (aj 3) (aa (dW (aa (aK (cY K) (aj 2) (aj 4)) (aa (cG (fc K) (aa (aj 5) az)) az))) az))))
abbrev FW (K:W.Frag):TS:=
  (aG (cF (aZ (aK zT (aK bK (aj 0) (tC (V.int 5))) (tC (V.int 2)))) (aM (dW (aa (aK (aV K) (aK (cY K) (aj 3) (Qv xJ (tC (V.int 1)))) (tC (V.int 0))) (aa (aK (aV K) (aK (cY K) (aj 3) (tC (V.int 0))) (tC (V.int 1))) az))) (Kh (aj 3) (Qv xJ (tC (V.int 1))) Ah)) bF)
  (bh (dW (aa (aK (cY K) (aj 1) (tC (V.int 0))) (aa (cG (xP K) (aa (cG (qd K) (aa (aj 3) az)) az)) az)))))
def wN (K:W.Frag) (E:XK) (Eh:XK):TS:=
  (aG (aM (ir az) (aA 3))
  (aG (dF (iB (aa (aK (cY K) (aj 1) (tC (V.int 1))) az)) (aA 4) (aG (aM (ir az) (aA 5))
  (FT K)))
  (FW K)))
theorem PB (h:sp_f21 K vs H Q E): ∃Eh,wN K E Eh { nx:=λ _ H'=>Q .non H',rt:=Q } (start ["cell","sizes","signs","letters","k","columns","j"] vs) H:=by
 let#[c,sz,sg,h,n,m,ss,rfl,hZ,hS,as,#[a6,a2],#[a5,a3],ay,av,ap,q]:=h;refine#[E0,?_];unfold wN;have z0: ∀ {H':Hp} {Q:VK},SqL K H' sz [.int (h:Nat), .int (n:Nat), .int (m:Nat)]->Q (.int (h:Nat)) H'->cY K (.ref sz) (.int 0) H' Q:=λ e k=>cD e (aP (j:=0) rfl) k
 have z1: ∀ {H':Hp} {Q:VK},SqL K H' sz [.int (h:Nat), .int (n:Nat), .int (m:Nat)]->Q (.int (n:Nat)) H'->cY K (.ref sz) (.int 1) H' Q:=λ e k=>cD e (aP (j:=1) rfl) k
 have z2: ∀ {H':Hp} {Q:VK},SqL K H' sz [.int (h:Nat), .int (n:Nat), .int (m:Nat)]->Q (.int (m:Nat)) H'->cY K (.ref sz) (.int 2) H' Q:=λ e k=>cD e (aP (j:=2) rfl) k
 symm;intro p hp;symm;refine z1 (ig hp hZ) ?_;have ab: ∀p'∈[p],H p'=none:=λ p' ae=>by rw [Za.mp ae];show hp
 refine p7 n (Yk _) () () (λ i σ H'=> ∃zs:List Lz,zs.map (λ z:Lz=>z.2.1)=ss.take i/\zs.length=i/\Sb [p] H H'/\H' p=some (.lst (zs.map λ z:Lz=>V.ref z.1))/\(∀z∈zs,H' z.1=some (.tup [.str z.2.1, .ref z.2.2.1])/\H' z.2.2.1=some (.tup (nv z.2.2.2))/\(1<=z.2.2.2.length/\z.2.2.2.length<=8)/\ ∀x∈z.2.2.2,x<2^h)/\ ∃o1 o2 o3,σ=[some (.int c),some (.ref sz),some (.ref sg),some (.ref p),o1,o2,o3]) #[[],rfl,rfl,Sb.of (aB hp _),ao,by simp,none,none,none,rfl] ?_ ?_
 .rintro i σ H' hi ⟨zs,Y,W,sb,e,hz,o1,o2,o3,rfl⟩;symm;intro pc af;symm;refine#[_,_,rfl,(),(),λ mx=> ?_];symm;refine z2 (ig af (sb.seq ab hZ)) ?_;let#[w,ew,hw]:=Mm.dh (mx:Int) m ();refine Dt () ew ?_;symm;rw [show 1+(w:Int)=((1+w:Nat):Int) by rfl'];have ai: ∀p'∈[pc],H' p'=none:=λ p' ae=>by rw [Za.mp ae];show af
  refine p7 (1+w) (Yk _) () () (λ j σ H2=> ∃co:List Nat,co.length=j/\(∀x∈co,x<2^h)/\Sb [pc] H' H2/\H2 pc=some (.lst (nv co))/\ ∃o,σ=[some (.int c),some (.ref sz),some (.ref sg),some (.ref p),some (.int (i:Nat)),some (.ref pc),o]) #[[],rfl,by simp,Sb.of (aB af _),ao,_,rfl] ?_ ?_
  .rintro j σ H2 hj ⟨co,am,ag,ac,e2,o,rfl⟩;symm;refine eF (SqL.of e2) ?_;symm;refine z0 (ac.seq ai (sb.seq ab hZ)) ?_;symm;refine#[_,_,h,rfl,(),(),as,λ x hx=> ?_];symm;refine iJ e2 (by simp;rfl') ?_;symm;refine#[co++[x],by simp [am],λ y my=> ?_,ac.set (by simp),by rw [ao,nv,nv,Zg];rfl,_,rfl];rcases Zp.mp my with my | my
   .exact ag y my
   .rw [Za.mp my];show hx
  .rintro σ H2 ⟨co,am,ag,ac,e2,o,rfl⟩;have S2:=ac.off ai;have sS:=sb.seq ab hS;let#[s,hs]: ∃s,ss[i]? =some s:=#[ss[i]'(by rfl'),Ze ()];symm;refine eF (SqL.of (S2.get e)) ?_;symm;refine cD (S2.seq sS) (aP (j:=i) (v:= .str s) (by rw [Zi,hs];rfl)) ?_;symm;refine kZ (SqL.of e2) λ ca ax=> ?_
   symm;intro t ht;symm;have S4:Same H' (upd (upd H2 ca (HO.tup (nv co))) t (HO.tup [V.str s,V.ref ca])):=(S2.new ax).new ht;have e4:=S4.get e;refine iJ e4 (by rw [Qr];rfl') ?_;symm;refine#[zs++[(t,s,ca,co)],by rw [Zg,Y,Yg,hs];rfl,by simp [W],(sb.same S4).set (by simp),by rw [ao,Zg];rfl,λ z O=> ?_,_,_,_,rfl];rcases Zp.mp O with O | O
   .obtain ⟨g1,g2,g3⟩:=hz z O;show#[by rw [aq (bw (S4.get g1) e4 (by intro q;cases q))];show S4.get g1,by rw [aq (bw (S4.get g2) e4 (by intro q;cases q))];show S4.get g2,g3]
   .rw [Za.mp O];have a1:upd (upd H2 ca (HO.tup (nv co))) t (HO.tup [V.str s,V.ref ca]) ca=some (.tup (nv co)):=bf ht ao;show#[by rw [aq (bw ao e4 (by intro q;cases q))];show ao,by rw [aq (bw a1 e4 (by intro q;cases q))];show a1,#[by dsimp only;rfl',by dsimp only;rfl'],ag]
 .rintro σ H1 ⟨zs,Y,W,sb,e,hz,o1,o2,o3,rfl⟩;walk_at "gj";with_reducible refine jF (λ σ' H2=> ∃zs:List Lz,zs.map (λ z:Lz=>z.2.1)=ss.take n/\zs.length=n/\Sb [p] H H2/\H2 p=some (.lst (zs.map λ z:Lz=>V.ref z.1))/\(∀z∈zs,H2 z.1=some (.tup [.str z.2.1, .ref z.2.2.1])/\H2 z.2.2.1=some (.tup (nv z.2.2.2))/\(1<=z.2.2.2.length/\z.2.2.2.length<=8)/\ ∀x∈z.2.2.2,x<2^h)/\σ'=[some (.int c),some (.ref sz),some (.ref sg),some (.ref p),o1,o2,o3]) ?_ ?_
  .rintro σ' H2 ⟨zs,Y,W,sb,e,hz,rfl⟩;symm;refine z0 (sb.seq ab hZ) ?_;symm;refine J9 (zs:=zs.map λ z:Lz=>(z.1,z.2.1,[V.ref z.2.2.1])) (SqL.of (by rw [e,Zn];rfl)) (λ z O=> ?_) (by rw [Zn];change(zs.map λ z:Lz=>z.2.1).Nodup;rw [Y];show List.Nodup.sublist (List.take_sublist _ _) av) (by rw [Qr];rfl') λ r2 us aw al a7=> ?_
   .obtain ⟨y,my,rfl⟩:=Zb.mp O;show SqT.of (hz y my).1
   let#[ad,pv,rfl]:=jW aw;rw [Zn] at al ⊢;symm;refine N8 (SqL.of ao) λ l ob ar hl=> ?_
   symm;intro f hf;have a4:ad.length=n:=by rw [pv.length_eq,W]
   have hv: ∀z∈ad,H2 z.1=some (.tup [.str z.2.1, .ref z.2.2.1])/\H2 z.2.2.1=some (.tup (nv z.2.2.2))/\(1<=z.2.2.2.length/\z.2.2.2.length<=8)/\ ∀x∈z.2.2.2,x<2^h:=λ z O=>hz z (pv.mem_iff.mp O)
   refine q f _ (ad.map λ z:Lz=>(z.2.1,z.2.2.2)) ((sb.off ab).trans (by walk_at "sm")) #[l,ob,ad,ao,rfl,ar,by walk_at "hp",λ z O=>#[by have:=(hv z O).1;walk_at "hp",by have:=(hv z O).2.1;walk_at "hp"]] #[by rw [Qr];rfl',by rw [Qr];rfl',?_,λ y my=> ?_,λ y my=> ?_,λ y my=> ?_]
   .rw [Zn];show al
   .obtain ⟨z,O,rfl⟩:=Zb.mp my;have:z.2.1∈zs.map (λ z:Lz=>z.2.1):=Zb.mpr #[z,pv.mem_iff.mp O,rfl];rw [Y] at this;show ap _ (List.mem_of_mem_take this)
   .obtain ⟨z,O,rfl⟩:=Zb.mp my;show(hv z O).2.2.1
   .obtain ⟨z,O,rfl⟩:=Zb.mp my;show(hv z O).2.2.2
  .intro N hN;symm;refine fW (λ d=> ?_) λ d=> ?_
   .obtain ⟨ys,zl,rfl⟩: ∃ (ys:List Lz) (zl:Lz),zs=ys++[zl]:=#[_,_,(List.dropLast_concat_getLast (by intro z;rw [z] at W;simp at W;rfl')).symm];let#[zf,ah]: ∃zf,(ys++[zl])[0]? =some zf:=#[_,Ze ()];let#[f1,f2,f3,f4]:=hz zf (Zf ah);let#[l1,l2,l3,l4]:=hz zl (by simp);have em:(ys++[zl]).map (λ z:Lz=>V.ref z.1)=ys.map (λ z:Lz=>V.ref z.1)++[V.ref zl.1]:=by rw [Zg];rfl
    symm;refine cD (SqL.of e) (v:= .ref zl.1) (by rw [em];show rK _ _) ?_;symm;refine gm l1 ?_;symm;refine cD (SqL.of e) (aP (j:=0) (v:= .ref zf.1) (by rw [Zi,ah];rfl)) ?_;symm;refine dR f1 ?_;symm;intro t ht;symm;have S4:Same H1 (upd H1 t (HO.tup [V.str zl.2.1,V.ref zf.2.2.1])):=aB ht _;have e4:=S4.get e;refine Jb e4 (by rw [Qr];rfl') ?_;symm;have es:((ys++[zl]).map (λ z:Lz=>V.ref z.1)).set (((ys++[zl]).map (λ z:Lz=>V.ref z.1)).length-1) (V.ref t)=(ys++[(t,zl.2.1,zf.2.2.1,zf.2.2.2)]).map (λ z:Lz=>V.ref z.1):=by
     rw [em,Zq,Yf,Nat.add_sub_cancel,List.set_append,if_neg (Nat.lt_irrefl _),Nat.sub_self,Zg];rfl
    rw [es];refine hN _ _ #[ys++[(t,zl.2.1,zf.2.2.1,zf.2.2.2)],by rw [<- Y,Zg,Zg];rfl,by rw [<- W];simp,(sb.same S4).set (by simp),ao,λ z O=> ?_,rfl];rcases Zp.mp O with O | O
    .obtain ⟨g1,g2,g3⟩:=hz z (Ym _ O);show#[by rw [aq (bw (S4.get g1) e4 (by intro q;cases q))];show S4.get g1,by rw [aq (bw (S4.get g2) e4 (by intro q;cases q))];show S4.get g2,g3]
    .rw [Za.mp O];show#[by rw [aq (bw ao e4 (by intro q;cases q))];show ao,by rw [aq (bw (S4.get f2) e4 (by intro q;cases q))];show S4.get f2,f3,f4]
   .symm;show hN _ _ #[zs,Y,W,sb,e,hz,rfl]
inductive sp_f2 (K:W.Frag) (vs:List V) (H:Hp) (Q:VK) (E:XK):Prop
 | mk (sa:Addr) (ss:List Str) (c:Int) (h0:vs=[.ref sa, .int c]) (h1:SqL K H sa (ss.map V.str)) (h2:ss.length<=9) (h3:ss.Nodup) (h4:(∀s∈ss,Hs.Sg s)) (h5: ∀cs:List Nat,(∀c∈cs,Hs.Sg (tx [c])/\tx [c]∈ss)->cs.Nodup->cs.length<=ss.length->Q (.str (tx cs)) H):sp_f2 K vs H Q E
abbrev Jq (K:W.Frag):TS:=
  (aG (aM (aK bK (aH (sp_f25 K) [] E0 (aa (aj 1) (aa (aK bJ (aj 3) (tC (V.int 1))) az))) (aK bJ (cG (bT K) (aa (aj 2) az)) (tC (V.int 1)))) (aA 4))
  (aM (aK cB (aK cB (yH uM (aj 2) cj (f9 (aj 4))) (aK (cY K) (aj 0) (aj 3))) (yH uM (aj 2) (f9 (aj 4)) cj)) (aA 2)))
def FZ (K:W.Frag) (E:XK) (Eh:XK):TS:=
  (aG (aM (tC (V.str (Str.ofString ""))) (aA 2))
  (aG (dF (iB (aa (cG (bT K) (aa (aj 0) az)) az)) (aA 3) (Jq K))
  (bh (yH uM (aj 2) cj (f9 (aK lW (cG (bT K) (aa (aj 2) az)) (aK iW (aK bK (aj 1) (tC (V.int 3))) (tC (V.int 2)))))))))
theorem Tz (h:sp_f2 K vs H Q E): ∃Eh,FZ K E Eh { nx:=λ _ H'=>Q .non H',rt:=Q } (start ["signs","cell","text","k","at"] vs) H:=by
 let#[sa,ss,c,rfl,ac,am,al,ae,q]:=h;refine#[E0,?_];unfold FZ;symm;refine eX ac ?_;rw [Qr];symm;walk_at "ns";refine p7 ss.length (Yk _) () () (λ i σ H'=>H'=H/\ ∃ (cs:List Nat) (o3 o4:Option V),(∀c∈cs,Hs.Sg (tx [c])/\tx [c]∈ss.take i)/\cs.Nodup/\cs.length=i/\σ=[some (.ref sa),some (.int c),some (.str (tx cs)),o3,o4]) #[rfl,[],_,_,by simp,by simp,rfl,rfl] ?_ ?_
 .rintro i σ H' hi ⟨rfl,cs,o3,o4,W,hn,hl,rfl⟩;let#[s,hs]: ∃s,ss[i]? =some s:=#[_,Ze hi];let#[Y,ai]: ∃Y,s=tx [Y]:=by
   let#[k,e]:=ae s (Zf hs);show#[_,e]
  subst ai;symm;refine#[_,_,rfl,(),(),λ m=> ?_];symm;refine jE (by rw [bB];rfl') ?_;rw [bB];symm;let#[O,ah,ap]:=Mm.dh (m:Int) (cs.length+1) (Nat.succ_pos _);rw [show(m:Int)%((cs.length:Int)+1)=(O:Int) by rw [<- ah];rfl];refine tV (by rw [bB];rfl') ?_;rw [Di ()];symm;refine cD ac (aP (j:=i) (v:= .str (tx [Y])) (by rw [Zi,hs];rfl)) ?_;symm;refine gK (by rw [bB,bB,Yd];simp;rfl') ?_;rw [qI];symm;refine tV (by rw [bB];rfl') ?_;rw [xZ ()];symm;refine gK (by rw [bB,bB,Zq,Yd,List.length_drop];simp;rfl') ?_;rw [qI];symm;have af:Y∉cs:=λ mk=>by
   have h1:=(W Y mk).2;let#[j,hj]:=List.mem_iff_getElem?.mp h1;have ad:j<i:=by
    have:=(Zj.mp hj).1;rw [Yd] at this;rfl'
   rw [List.getElem?_take_of_lt ad] at hj;let#[a1,a2]:=Zj.mp hj;let#[b1,b2]:=Zj.mp hs;show absurd (a2.trans b2.symm) (List.pairwise_iff_getElem.mp al j i a1 b1 ad)
  have ab:(cs.take O++[Y]++cs.drop O).Perm (Y::cs):=by
   have:cs.take O++[Y]++cs.drop O=cs.take O++Y::cs.drop O:=by simp
   rw [this];refine List.perm_middle.trans ?_;rw [List.take_append_drop]
  refine#[rfl,cs.take O++[Y]++cs.drop O,_,_,λ y my=> ?_,ab.nodup_iff.mpr (List.nodup_cons.mpr #[af,hn]),by rw [ab.length_eq,Wp,hl],rfl];have ag:ss.take (i+1)=ss.take i++[tx [Y]]:=by rw [Yg,hs];rfl
  rw [ag];rcases Zk.mp (ab.mem_iff.mp my) with rfl | my
  .exact #[ae _ (Zf hs),Zw _ Zt]
  .exact #[(W y my).1,Ym _ (W y my).2]
 .rintro σ H' ⟨rfl,cs,o3,o4,W,hn,hl,rfl⟩;rw [Yq] at W;symm;refine jE (by rw [bB];rfl') ?_;rw [bB];symm;refine tV (by rw [bB];rfl') ?_;have h3:=Int.emod_nonneg c (show(3:Int)≠0 by decide);have h4:=Int.emod_lt_of_pos c (show(0:Int)<3 by decide);by_cases hz:(cs.length:Int)-c%3 / 2<0
  .have e0:cs=[]:=List.length_eq_zero_iff.mp ();subst e0;rw [show Txt.slice (tx []) none (some (((([]:List Nat).length:Nat):Int)-c%3 / 2))=tx [] by
    rw [show(((([]:List Nat).length:Nat):Int)-c%3 / 2)= -1 by simp at hz ⊢;rfl'];rfl]
   show q [] (by simp) (by simp) (Yr _)
  .obtain ⟨m,em⟩: ∃m:Nat,(cs.length:Int)-c%3 / 2=(m:Int):=#[((cs.length:Int)-c%3 / 2).toNat,()];rw [em,Di ()];show q _ (λ y my=>W y (List.mem_of_mem_take my)) (hn.sublist (List.take_sublist _ _)) (by rw [Yd];rfl')
inductive sp_f1 (K:W.Frag) (vs:List V) (H:Hp) (Q:VK) (E:XK):Prop
 | mk (c:Int) (h0:vs=[.int c]) (h1: ∀w:Int,Q (.int w) H):sp_f1 K vs H Q E
abbrev Jr:TS:=
  (aG (cF (aZ (aK zT (aK bK (aj 0) (tC (V.int 5))) (tC (V.int 3)))) (bh (aK lW (aK lW (tC (V.int 0)) (tC (V.int 1))) (aK bK (aK iW (aj 0) (tC (V.int 5))) (aK JB (tC (V.int 10)) (tC (V.int 60)))))) bF)
  (bh (aK lW (aK bK (aK iW (aj 0) (tC (V.int 5))) (tC (V.int 11))) (tC (V.int 1)))))
def G3 (K:W.Frag) (E:XK) (Eh:XK):TS:=
  (aG (cF (aZ (aK zT (aK bK (aj 0) (tC (V.int 5))) (tC (V.int 4)))) (bh (aK bK (aK iW (aj 0) (tC (V.int 5))) (aK JB (tC (V.int 10)) (tC (V.int 60))))) bF)
  (Jr))
theorem TJ (h:sp_f1 K vs H Q E): ∃O,G3 K E O { nx:=λ _ H'=>Q .non H',rt:=Q } (start ["cell"] vs) H:=by
 let#[c,rfl,q]:=h;refine#[E0,?_];unfold G3;symm;refine fW (λ _=> ?_) λ _=> ?_
 .symm;show q _
 symm;refine fW (λ _=> ?_) λ _=> ?_
 .symm;show q _
 symm;show q _
inductive sp_f5 (K:W.Frag) (vs:List V) (H:Hp) (Q:VK) (E:XK):Prop
 | mk (f:Addr) (h:Nat) (ls:List (Str×List Nat)) (cs:List Nat) (w:Int) (mo:Nat) (h0:vs=[.ref f, .str (tx cs), .int w, .int (mo:Nat)]) (h1:RefG K jl Nt [(jl,true),(JT,false)]) (h2:TupK K bu [.int 1]) (h3:FnF K H f h ls) (h4:Fo.Wf h ls) (h5:(∀c∈cs,Hs.Sg (tx [c]))) (h6:cs.length<=9) (h7:1<=mo) (h8:mo<=9) (h9: ¬cs.Nodup) (h10: ∀r H',Same H H'->H' r=some (.lst [.bl true, .bl true, .bl false])->Q (.ref r) H'):sp_f5 K vs H Q E
abbrev Js (K:W.Frag) (Eh:XK):TS:=
  (aG (Lx K ["font","text","wish","most","kinds","e"] Nt 5 Eh (cC (aH (sp_f34 K) [] Eh (aa (aj 0) (aa (aj 1) (aa (aj 2) (aa (aj 3) az)))))) (aM (ir (aa (cG (dN K) (aa (aj 5) (aa (tC (V.ty "ValueError")) az))) (aa (cG (dN K) (aa (aj 5) (aa (tC (V.ref jl)) az))) (aa (cG (dN K) (aa (aj 5) (aa (tC (V.ref JT)) az))) az)))) (aA 4)))
  (bh (aj 4)))
def G4 (K:W.Frag) (E:XK) (Eh:XK):TS:=
  (aG (aM (ir az) (aA 4))
  (Js K Eh))
theorem TQ (h:sp_f5 K vs H Q E): ∃Eh,G4 K E Eh { nx:=λ _ H'=>Q .non H',rt:=Q } (start ["font","text","wish","most","kinds","e"] vs) H:=by
 let#[f,h,ls,cs,w,mo,rfl,F,TK,hF,wf,ab,Y,ad,W,ae,q]:=h;refine#[λ C _ H'=>C= .ref jl/\Same H H',?_];unfold G4;symm;intro p1 O;symm;refine Su ?_ ?_
 .symm;show#[f,h,ls,cs,w,mo,rfl,TK,hF.same (aB O _),wf,ab,Y,ad,W,λ z=>absurd z ae,λ _ H' s'=>#[rfl,(aB O _).trans s']]
 .rintro _ H1 ⟨rfl,s1⟩;refine#[F.em,λ x hx=> ?_];symm;refine MF ao F.ex F.kv ?_;symm;refine Dg ao F.ex F.kl.1 ?_;symm;refine Dg ao F.ex F.kl.2.1 ?_;symm;intro p4 ac;symm;show q _ _ ((s1.new hx).new ac) ao
inductive sp_f10 (K:W.Frag) (vs:List V) (H:Hp) (Q:VK) (E:XK):Prop
 | mk (f:Addr) (h:Nat) (ls:List (Str×List Nat)) (cs:List Nat) (m:Nat) (h0:vs=[.ref f, .str (tx cs), .int (m:Nat)]) (h1:TupK K bu [.int 1]) (h2:FnF K H f h ls) (h3:Fo.Wf h ls) (h4:(∀c∈cs,Hs.Sg (tx [c]))) (h5:cs.Nodup) (h6:cs.length<=9) (h7:1<=m) (h8:m<=9) (h9: ∀o H',FarS ls cs m o->Same H H'->Q (oL o) H'):sp_f10 K vs H Q E
def wO (K:W.Frag) (E:XK) (Eh:XK):TS:=
  (aG (aM (aH (sp_f32 K) [] E0 (aa (aj 0) (aa (aH (Ft K) [V.non] E0 (aa (aj 1) (aa (aj 2) az))) az))) (aA 3))
  (aG (cF (aZ (aK lY (aj 3) (tC V.non))) (bh (tC V.non)) bF)
  (bh (aK (aV K) (aj 3) (tC (V.int 0))))))
theorem PJ (h:sp_f10 K vs H Q E): ∃Eh,wO K E Eh { nx:=λ _ H'=>Q .non H',rt:=Q } (start ["font","text","many","told"] vs) H:=by
 let#[f,h,ls,cs,m,rfl,TK,hF,wf,ag,al,af,Y,ae,q]:=h;refine#[E0,?_];unfold wO;have W:GoodS cs (.int (m:Nat)) [.int 1] m [1]:=#[al,rfl,Y,rfl,by simp,by simp,by simp;rfl'];symm;refine#[cs, .int (m:Nat), .non,[.int 1],rfl,TK,ag,(),trivial, .inl #[rfl,rfl],by simp,λ x mx=>by rw [Za.mp mx];trivial,λ m' ws gs r H1 ds es s1 hH hl ah ac=> ?_,λ ai=>(ai m [1] W).elim];have em:m'=m:=by have:=V.int.inj gs.ex;rfl'
 have ew:ws=[1]:=by
  have:=gs.ew
  cases ws with
  | nil=>cases this
  | cons w ws=>
   cases ws with
   | nil=>injection this with h1 _;rw [<- V.int.inj h1]
   | cons _ _=>injection this with _ h2;cases h2
 subst em ew;have O:SumD cs m' ds es:=#[hl,ah,ac];symm;refine#[f,r,h,ls,ds,es,rfl,hF.same s1,wf,hH.g,O.sz wf Y ae af,λ N S fz hN hS hn hD=>#[λ h0 H2 s2=> ?_,λ p H2 L t0 t1 s2 er ad ab=> ?_]]
 .symm;show q none _ #[ds,es,O,N,S,fz,hN,hS,hn,hD,(λ _=>h0),(λ L e=>by cases e)] (s1.trans s2)
 .symm;rw [Zv (show ¬V.ref p=V.non from λ z=>by cases z)];symm;refine gm er ?_;symm;show q (some L) _ #[ds,es,O,N,S,fz,hN,hS,hn,hD,(λ e=>by cases e),(λ L' e=>by cases e;show#[ad,ab])] (s1.trans s2)
inductive sp_f19 (K:W.Frag) (vs:List V) (H:Hp) (Q:VK) (E:XK):Prop
 | mk (o:Option Nat) (h0:vs=[oL o]) (h1:Q (.bl true) H):sp_f19 K vs H Q E
def wQ (K:W.Frag) (E:XK) (Eh:XK):TS:=
  (bh (GF (aK lY (aj 0) (tC V.non)) (lD (cG (dZ K) (aa (aj 0) (aa (tC (V.ty "int")) az))) (wY (cG (dZ K) (aa (aj 0) (aa (tC (V.ty "bool")) az)))))))
theorem PN (h:sp_f19 K vs H Q E): ∃O,wQ K E O { nx:=λ _ H'=>Q .non H',rt:=Q } (start ["thing"] vs) H:=by
 let#[o,rfl,q]:=h;refine#[E0,?_];unfold wQ
 cases o with
 | none=>
  symm;rw [Zz (show oL none=V.non from rfl),if_pos rfl];show q
 | some L=>
  symm;rw [Zv (show ¬oL (some L)=V.non from λ z=>by cases z),if_neg (by decide)];symm;refine d7 (.int _) (b:=true) rfl ?_;symm;refine d7 (.int _) (b:=false) rfl ?_;symm;show q
def oD:Option Nat->PyData
 | none=> .none
 | some L=> .int (L:Nat)
theorem yq {K:W.Frag} {H:Hp}: ∀os:List (Option Nat),DpAll K H (os.map oL) (os.map oD)
 | []=> .nil
 | none::r=> .cons .non (yq r)
 | some L::r=> .cons (.int _) (yq r)
theorem TV (n:Nat): ∀o,Sh n (oD o)
 | none=>#[by simp [oD,PyData.canLay0],by simp [oD,PyData.depth]]
 | some L=>du n _
inductive sp_f43 (K:W.Frag) (vs:List V) (H:Hp) (Q:VK) (E:XK):Prop
 | mk (a:Addr) (ns:List Int) (h0:vs=[.ref a]) (h1:RefG K jl Nt [(jl,true),(JT,false)]) (h2:TupK K bu [.int 1]) (h3:SqL K H a (ns.map V.int)) (h4:ns.length<=63) (h5: ∀H',Q (.bl true) H'):sp_f43 K vs H Q E
abbrev G5 (K:W.Frag):TS:=
  (aG (aM (aK cB (aK cB (yH uM (aj 6) cj (f9 (aj 9))) (aK Hg (aj 6) (aK bK (aK iW (aj 8) (tC (V.int 9))) (cG (bT K) (aa (aj 6) az))))) (yH uM (aj 6) (f9 (aj 9)) cj)) (aA 6))
  (bh (aK (rEqD K) (aH (sp_f5 K) [] E0 (aa (aj 5) (aa (aj 6) (aa (aj 7) (aa (aj 3) az))))) (ir (aa (tC (V.bl true)) (aa (tC (V.bl true)) (aa (tC (V.bl false)) az)))))))
abbrev G6 (K:W.Frag):TS:=
  (aG (cF (Ke (lB (lV K (aH (sp_f19 K) [] E0 (aa (aK (cY K) (aj 10) (aj 11)) az)))) (aZ (aK KH (aK (cY K) (aj 10) (aj 11)) (aH (sp_f10 K) [] E0 (aa (aj 5) (aa (aj 6) (aa (aK bJ (aj 11) (tC (V.int 1))) az))))))) (bh (tC (V.bl false))) bF)
  (cF (pF (aZ (aK Bh (aK bJ (aj 11) (tC (V.int 1))) (cG (bT K) (aa (aj 10) az)))) (Ke (aZ (aK lY (aK (cY K) (aj 10) (aj 11)) (tC V.non))) (aZ (aK Lw (aK (cY K) (aj 10) (aj 11)) (aj 7))))) (bh (tC (V.bl false))) bF))
abbrev G7 (K:W.Frag):TS:=
  (aG (aM (cG (pW K) (aa (aj 10) az)) (aA 12))
  (aG (cC (uz K "list" cT (aj 10) (aa (tC (V.int 0)) az)))
  (bh (GF (aK zT (aK bK (aj 1) (tC (V.int 6))) (tC (V.int 5))) (aK (rEqD K) (aH (Fy K) [] E0 (aa (aj 5) (aa (aj 6) (aa (aj 7) (aa (aj 3) az))))) (aj 12))))))
abbrev G8 (K:W.Frag):TS:=
  (aG (cF (pF (aZ (aK Bh (cG (bT K) (aa (aj 10) az)) (aj 3))) (pF (aZ (aK Bj (aK (cY K) (aj 10) (Qv xJ (tC (V.int 1)))) (tC V.non))) (aZ (aK Bh (aK (cY K) (aj 10) (Qv xJ (tC (V.int 1)))) (aj 7))))) (bh (tC (V.bl false))) bF)
  (G7 K))
abbrev G9 (K:W.Frag):TS:=
  (aG (cF (Ke (lB (lV K (cG (dZ K) (aa (aj 10) (aa (tC (V.ty "list")) az))))) (lB (aZ (fM su su (tC (V.int 1)) (cG (bT K) (aa (aj 10) az)) (aj 3))))) (bh (tC (V.bl false))) bF)
  (aG (dF (iB (aa (cG (bT K) (aa (aj 10) az)) az)) (aA 11) (G6 K))
  (G8 K)))
abbrev Ga (K:W.Frag):TS:=
  (aG (cF (pF (aZ (aK zT (aK bK (aj 8) (tC (V.int 9))) (tC (V.int 1)))) (aZ (aK uJ (cG (bT K) (aa (aj 6) az)) (tC (V.int 0))))) (aG (aM (aK bK (aH (sp_f25 K) [] E0 (aa (aj 8) (aa (tC (V.int 6)) az))) (aK bJ (cG (bT K) (aa (aj 6) az)) (tC (V.int 1)))) (aA 9))
  (G5 K)) bF)
  (aG (aM (aH (Fy K) [] E0 (aa (aj 5) (aa (aj 6) (aa (aj 7) (aa (aj 3) az))))) (aA 10))
  (G9 K)))
abbrev Gb (K:W.Frag):TS:=
  (aG (aM (aH (sp_f2 K) [] E0 (aa (yH (Ai K) (aj 4) cj (f9 (aK bJ (aK (cY K) (aj 2) (tC (V.int 1))) (aK bK (aH (sp_f4 K) [] E0 (aa (aj 0) (aa (tC (V.int 3)) az))) (tC (V.int 2)))))) (aa (aK iW (aH (sp_f4 K) [] E0 (aa (aj 0) (aa (tC (V.int 3)) az))) (tC (V.int 2))) az))) (aA 6))
  (aG (aM (aH (sp_f1 K) [] E0 (aa (aH (sp_f4 K) [] E0 (aa (aj 0) (aa (tC (V.int 4)) az))) az)) (aA 7))
  (aG (aM (aH (sp_f4 K) [] E0 (aa (aj 0) (aa (tC (V.int 5)) az))) (aA 8))
  (Ga K))))
abbrev Ge (K:W.Frag):TS:=
  (aG (aM (aH (sp_f13 K) [] E0 (aa (aH (sp_f4 K) [] E0 (aa (aj 0) (aa (tC (V.int 1)) az))) (aa (aK bJ (aK (cY K) (aj 2) (tC (V.int 1))) (tC (V.int 1))) az))) (aA 4))
  (aG (aM (aH (sp_f21 K) [] E0 (aa (aH (sp_f4 K) [] E0 (aa (aj 0) (aa (tC (V.int 2)) az))) (aa (aj 2) (aa (aj 4) az)))) (aA 5))
  (Gb K)))
abbrev Gf (K:W.Frag):TS:=
  (aG (cF (aZ (aK zT (aK bK (aj 1) (tC (V.int 6))) (tC (V.int 5)))) (aG (aM (ir (aa (aK (cY K) (aj 2) (tC (V.int 0))) (aa (tC (V.int 2)) (aa (tC (V.int 1)) az)))) (aA 2))
  (aM (aK bJ (tC (V.int 1)) (aK bK (aH (sp_f25 K) [] E0 (aa (aj 1) (aa (tC (V.int 3)) az))) (tC (V.int 9)))) (aA 3))) bF)
  (Ge K))
abbrev zF (K:W.Frag):TS:=
  (aG (aM (ir (aa (aK bJ (tC (V.int 1)) (aK bK (aH (sp_f25 K) [] E0 (aa (aj 1) (aa (tC (V.int 1)) az))) (tC (V.int 5)))) (aa (aK bJ (tC (V.int 1)) (aK bK (aH (sp_f25 K) [] E0 (aa (aj 1) (aa (tC (V.int 2)) az))) (tC (V.int 3)))) (aa (tC (V.int 2)) az)))) (aA 2))
  (aG (aM (aK bJ (tC (V.int 1)) (aK bK (aH (sp_f25 K) [] E0 (aa (aj 1) (aa (tC (V.int 3)) az))) (tC (V.int 4)))) (aA 3))
  (Gf K)))
def wR (K:W.Frag) (E:XK) (Eh:XK):TS:=
  (aG (aM (aH (sp_f4 K) [] E0 (aa (aj 0) (aa (tC (V.int 0)) az))) (aA 1))
  (zF K))
theorem PP (h:sp_f43 K vs H Q E): ∃Eh,wR K E Eh { nx:=λ _ H'=>Q .non H',rt:=Q } (start ["script","cell","sizes","most","signs","font","text","wish","twice","at","found","k","kept"] vs) H:=by
 let#[a,ns,rfl,F,TK,hS,b0,q]:=h;refine#[E0,?_];unfold wR;symm;refine#[a,ns,0,rfl,hS,?_];generalize Mm.cellAt ns 0=cell;walk_at "ns";symm;refine#[_,_,rfl,by decide,by decide,λ m1=> ?_];symm;refine#[_,_,rfl,by decide,by decide,λ m2=> ?_];symm;intro p hp;walk_at "ns";symm;refine#[_,_,rfl,by decide,by decide,λ m3=> ?_];let#[w1,e1,l1]:=Mm.dh (m1:Int) 5 ();let#[w2,e2,l2]:=Mm.dh (m2:Int) 3 ();let#[w3,e3,l3]:=Mm.dh (m3:Int) 4 ();let#[w4,e4,l4]:=Mm.dh (cell:Int) 6 ();walk_at "ns";walk_at "gj";with_reducible refine jF (λ σ' H'=>Same H H'/\ ∃ (sz:Addr) (h n m mo:Nat),H' sz=some (.lst [.int (h:Nat), .int (n:Nat), .int (m:Nat)])/\h<=60/\(1<=n/\n<=3)/\(1<=m/\m<=8)/\(1<=mo/\mo<=9)/\σ'=[some (.ref a),some (.int cell),some (.ref sz),some (.int (mo:Nat)),none,none,none,none,none,none,none,none,none]) ?_ ?_
 rotate_left
 .intro N hN;symm;refine fW (λ _=> ?_) λ _=> ?_
  .symm;refine cD (SqL.of ao) (aP (j:=0) (v:= .int (1+(m1:Int)%5)) rfl) ?_;symm;intro p2 a6;walk_at "ns";symm;refine#[_,_,rfl,by decide,by decide,λ m4=> ?_];let#[w5,O,l5]:=Mm.dh (m4:Int) 9 ();symm;refine hN _ _ #[(aB hp _).new a6,p2,1+w1,2,1,1+w5,by rw [ao];simp;rfl',(),(),(),(),by simp;rfl']
  .symm;refine hN _ _ #[aB hp _,p,1+w1,1+w2,2,1+w3,by rw [ao];simp;rfl',(),(),(),(),by simp;rfl']
 rintro σ' H1 ⟨s1,sz,h,n,m,mo,ac,a8,⟨bn,b6⟩,⟨bg,a7⟩,⟨av,as⟩,rfl⟩;clear e1 e2 e3 e4 l1 l2 l3 l4;replace hS:=s1.seq hS;symm;refine#[a,ns,1,rfl,hS,?_];symm;refine cD (SqL.of ac) (aP (j:=1) (v:= .int (n:Nat)) rfl) ?_;symm;rw [show(n:Int)+1=((n+1:Nat):Int) by rfl'];refine#[_,n+1,rfl,(),λ sg H2 ss s2 a4 af b5 nd ar=> ?_];walk_at "ns";symm;refine#[a,ns,2,rfl,s2.seq hS,?_];symm;refine#[_,sz,sg,h,n,m,ss,rfl,SqL.of (s2.get ac),SqL.of af,a8,#[bn,()],#[bg,a7],(),nd,ar,λ f H3 ls s3 hF wf=> ?_];have S3:=s2.trans s3;replace hS:=S3.seq hS;replace ac:=S3.get ac;replace af:=s3.get af;clear s1 s2 s3 S3;walk_at "ns";symm;refine cD (SqL.of ac) (aP (j:=1) (v:= .int (n:Nat)) rfl) ?_;symm;refine#[a,ns,3,rfl,hS,?_];generalize Mm.cellAt ns 3=c3;symm;refine JQ (SqL.of af) λ p4 a1=> ?_
 rw [qH (),<- List.map_take];have al:(ss.take ((n:Int)+c3%2).toNat).length<=4:=by rw [Yd];rfl'
 have ap:(ss.take ((n:Int)+c3%2).toNat).Nodup:=List.Nodup.sublist (List.take_sublist _ _) nd;have ad: ∀s∈ss.take ((n:Int)+c3%2).toNat,Hs.Sg s:=λ s hs=>ar s (List.mem_of_mem_take hs)
 generalize ss.take ((n:Int)+c3%2).toNat=tt at al ap ad ⊢;have S4:Same H3 (upd H3 p4 (HO.lst (tt.map V.str))):=aB a1 _;have e4:upd H3 p4 (HO.lst (tt.map V.str)) p4=some (HO.lst (tt.map V.str)):=ao;generalize upd H3 p4 (HO.lst (tt.map V.str))=H4 at S4 e4 ⊢;replace hS:=S4.seq hS;replace hF:=hF.same S4;symm;refine#[a,ns,3,rfl,hS,?_];symm;refine#[p4,tt,_,rfl,SqL.of e4,(),ap,ad,λ cs ab aw bo=> ?_];replace ab: ∀c∈cs,Hs.Sg (tx [c]):=λ c hc=>(ab c hc).1
 replace bo:cs.length<=4:=()
 clear S4 e4 ap ad al a1 af ac nd ar a4;walk_at "ns";symm;refine#[a,ns,4,rfl,hS,?_];symm;refine#[_,rfl,λ w=> ?_];walk_at "ns";symm;refine#[a,ns,5,rfl,hS,?_];generalize Mm.cellAt ns 5=tw;walk_at "ns";have ay: ∀ {H':Hp} {Q':VK} {b1 b2 b3:Bool},∀r,H' r=some (.lst [.bl b1, .bl b2, .bl b3])->(∀p,H' p=none->Q' (.bl true) (upd H' p (.lst [.bl b1, .bl b2, .bl b3])))-> ∀p,H' p=none->rEqD K (.ref r) (.ref p) (upd H' p (.lst [.bl b1, .bl b2, .bl b3])) Q':=λ {H' Q' b1 b2 b3} r er hq p hp=>
  rEqD.same (d:= .list ([b1,b2,b3].map PyData.bool)) (n:=1) (.lst (xs:=[b1,b2,b3].map V.bl) (SqL.of (bf hp er)) (DpAll.bls _)) (.lst (xs:=[b1,b2,b3].map V.bl) (SqL.of ao) (DpAll.bls _)) (xY λ d hd=>by let#[b,_,rfl]:=Zb.mp hd;show Ss 0 b) (by decide) (hq p hp)
 walk_at "gj";with_reducible refine jF (λ σ' H'=>H'=H4/\σ'=[some (.ref a),some (.int cell),some (.ref sz),some (.int (mo:Nat)),some (.ref sg),some (.ref f),some (.str (tx cs)),some (.int w),some (.int tw),none,none,none,none]) ?_ ?_
 rotate_left
 .intro N hN;symm;refine fW (λ _=> ?_) λ _=> ?_
  .symm;refine jE (by rw [bB];rfl') ?_;rw [bB];symm;refine fW (λ bq=> ?_) λ _=> ?_
   .walk_at "ns";symm;refine#[_,_,rfl,by decide,by decide,λ m6=> ?_];symm;refine jE (by rw [bB];rfl') ?_;rw [bB];symm;let#[W,a9,b9]:=Mm.dh (m6:Int) (cs.length+1) (Nat.succ_pos _);rw [show(m6:Int)%((cs.length:Int)+1)=(W:Int) by rw [<- a9];rfl];walk_at "ns";symm;refine tV (by rw [bB];rfl') ?_;rw [Di ()];symm;refine jE (by rw [bB];rfl') ?_;rw [bB];symm;let#[j,ej,hj]:=Mm.dh (tw / 9) cs.length ();rw [show tw / 9%(cs.length:Int)=(j:Int) from ej];refine JP (c:=cs[j]) (by rw [bB];rfl') (aP (by rw [qJ];show Ze hj)) ?_;symm;refine gK (i:=tx (cs.take W)) (j:=tx [cs[j]]) (by rw [bB,bB,Yd];simp;rfl') ?_;rw [qI];symm;refine tV (by rw [bB];rfl') ?_;rw [xZ ()];symm;refine gK (by rw [bB,bB,Zq,Yd,List.length_drop];simp;rfl') ?_;rw [qI];have am:(cs.take W++[cs[j]]++cs.drop W).Perm (cs[j]::cs):=by
     have e0:cs.take W++[cs[j]]++cs.drop W=cs.take W++cs[j]::cs.drop W:=by simp
     rw [e0];refine List.perm_middle.trans ?_;rw [List.take_append_drop]
    walk_at "ns";symm;refine#[f,h,ls,cs.take W++[cs[j]]++cs.drop W,w,mo,rfl,F,TK,hF,wf,λ c hc=> ?_,by rw [am.length_eq,Wp];rfl',av,as,λ z=> ?_,λ r H5 s5 O=> ?_]
    .rcases Zk.mp (am.mem_iff.mp hc) with rfl | z
     .exact ab _ (List.getElem_mem hj)
     .exact ab c z
    .exact (List.nodup_cons.mp (am.nodup_iff.mp z)).1 (List.getElem_mem hj)
    .symm;show ay r O λ p hp=>q _
   .symm;show hN _ _ #[rfl,rfl]
  .symm;show hN _ _ #[rfl,rfl]
 rintro σ' bi ⟨rfl,rfl⟩;symm;refine#[f,h,ls,cs,w,mo,rfl,TK,hF,wf,ab,(),av,as,λ _ p5 H5 os s5 bc O hG=> ?_,λ z=>absurd aw z];have ai:(os.map oL).length=os.length:=Qr ..;have g1:=hG.l1;have g2:=hG.lm;have ah:=hF;replace hF:=hF.same s5;walk_at "ns";symm;refine d7 (.lst O) (b:=true) rfl ?_;symm;refine eX (SqL.of O) ?_;rw [ai];symm;rw [Zz (by rfl':(1:Int)<=(os.length:Int)),if_pos rfl];walk_at "ns";symm;rw [Zz (by rfl':(os.length:Int)<=(mo:Int))];symm;refine eX (SqL.of O) ?_;rw [ai];symm;refine p7 os.length (Yk _) () () (λ i σ H'=>Same H5 H'/\ ∃ag,σ=[some (.ref a),some (.int cell),some (.ref sz),some (.int (mo:Nat)),some (.ref sg),some (.ref f),some (.str (tx cs)),some (.int w),some (.int tw),none,some (.ref p5),ag,none]) #[Same.refl _,_,rfl] ?_ ?_
 .rintro i σ H' hi ⟨s6,ag,rfl⟩;let#[o,ho]: ∃o,os[i]? =some o:=#[_,Ze hi];have hm:(os.map oL)[i]? =some (oL o):=by rw [Zi,ho];rfl
  replace hF:=hF.same s6;replace O:=s6.get O;have fo:=hG.fa i o ho;symm;refine cD (SqL.of O) (aP (j:=i) (v:=oL o) hm) ?_;symm;refine#[o,rfl,?_];symm;refine cD (SqL.of O) (aP (j:=i) (v:=oL o) hm) ?_;symm;rw [show(i:Int)+1=((i+1:Nat):Int) by rfl'];refine#[f,h,ls,cs,i+1,rfl,TK,hF,wf,ab,aw,(),(),(),λ o' H7 bp s7=> ?_]
  cases fo.uni bp;symm;refine RL (by cases o<;>rfl) ?_;rw [Zz rfl];replace O:=s7.get O;symm;refine eX (SqL.of O) ?_;rw [ai];symm;refine fW (λ a5=> ?_) λ _=> ?_
  .obtain ⟨L,rfl,hL⟩:=hG.go i o ho ();symm;refine cD (SqL.of O) (aP (j:=i) (v:=oL (some L)) hm) ?_;symm;rw [Zv (show ¬oL (some L)=V.non from λ z=>by cases z),if_neg (by decide)];symm;refine cD (SqL.of O) (aP (j:=i) (v:=oL (some L)) hm) ?_;rw [show oL (some L)=V.int (L:Nat) from rfl];symm;rw [Zv (by rfl': ¬w<=(L:Int)),if_neg (by decide)];symm;show#[s6.trans s7,_,rfl]
  .symm;show#[s6.trans s7,_,rfl]
 .rintro σ H6 ⟨s6,ag,rfl⟩;replace O:=s6.get O;replace hF:=hF.same s6;let#[ys,Y,rfl]: ∃ (ys:List (Option Nat)) (Y:Option Nat),os=ys++[Y]:=#[_,_,(List.dropLast_concat_getLast (List.ne_nil_of_length_pos ())).symm];have ae:ux ((ys++[Y]).map oL) (-1)=some (oL Y):=by rw [Zg];show rK _ _
  have bb:(ys++[Y])[ys.length]? =some Y:=List.getElem?_concat_length;walk_at "gj";with_reducible refine jF (λ σ' H'=>H'=H6/\σ'=[some (.ref a),some (.int cell),some (.ref sz),some (.int (mo:Nat)),some (.ref sg),some (.ref f),some (.str (tx cs)),some (.int w),some (.int tw),none,some (.ref p5),ag,none]) ?_ ?_
  rotate_left
  .intro N hN;symm;refine eX (SqL.of O) ?_;rw [ai];symm;refine fW (λ a5=> ?_) λ _=> ?_
   .symm;refine cD (SqL.of O) ae ?_;symm
    cases Y with
    | none=>
     rw [show oL none=V.non from rfl,Zz rfl];symm;show hN _ _ #[rfl,rfl]
    | some L=>
     have:=hG.st () ys.length _ bb (by simp) L rfl;rw [Zv (show ¬oL (some L)=V.non from λ z=>by cases z)];symm;refine cD (SqL.of O) ae ?_;rw [show oL (some L)=V.int (L:Nat) from rfl];symm;rw [Zv (by rfl': ¬ (L:Int)<w),if_neg (by decide)];symm;show hN _ _ #[rfl,rfl]
   .symm;show hN _ _ #[rfl,rfl]
  rintro σ' H8 ⟨rfl,rfl⟩;symm;refine Df (SqL.of O) λ pk ax=> ?_
  have a2:upd H8 pk (.lst ((ys++[Y]).map oL)) p5=some (.lst ((ys++[Y]).map oL)):=bf ax O;walk_at "ns";symm;refine eF (SqL.of a2) ?_;symm;refine iJ a2 () ?_;have ek:upd (upd H8 pk (.lst ((ys++[Y]).map oL))) p5 (.lst ((ys++[Y]).map oL++[.int 0])) pk=some (.lst ((ys++[Y]).map oL)):=by
   rw [aq (aF O ax).symm];show ao
  have S9:Same bi (upd (upd H8 pk (.lst ((ys++[Y]).map oL))) p5 (.lst ((ys++[Y]).map oL++[.int 0]))):=λ b u e=>by
   rw [aq (λ z=>by rw [z,bc] at e;cases e)];show((s5.trans s6).new ax).get e
  replace ah:=ah.same S9;generalize upd (upd H8 pk (.lst ((ys++[Y]).map oL))) p5 (.lst ((ys++[Y]).map oL++[.int 0]))=H9 at ek ah ⊢;walk_at "ns";symm;refine fW (λ _=>q _) λ _=> ?_
  symm;refine#[f,h,ls,cs,w,mo,rfl,TK,ah,wf,ab,(),av,as,λ _ bv b4 ca be br bd a3=> ?_,λ z=>absurd aw z]
  cases hG.uni a3;symm;show rEqD.same (d:= .list ((ys++[Y]).map oD)) (n:=1) (.lst (SqL.of bd) (yq _)) (.lst (SqL.of (be.get ek)) (yq _)) (xY λ d hd=>by let#[o,_,rfl]:=Zb.mp hd;show TV 0 o) (by decide) (q _)
theorem PQ (h:sp_f43 K vs H Q E):vs.length=1:=by
 let#[_,_,rfl,_]:=h;rfl
end Pg
set_option Elab.async false
set_option linter.all false
set_option maxRecDepth 100000
namespace Pg
open PySem L2 PySem.W
set_option maxHeartbeats 0
variable {d:Nat} {n:Str} {sp:Sp} {c:Value} {st:Stmt} {w:World} {t:Option Addr} {mg:Str->Option Value}
theorem PX:FnScope ["thing"] ["thing"] (au (top 2)):=by ac_rfl
theorem Q0:FnScope ["thing"] ["thing"] (au (top 3)):=by ac_rfl
theorem Gg:FnScope ["column","dots"] ["column"] (au (top 4)):=by ac_rfl
theorem Q3:FnScope ["one","other"] ["one","other"] (au (top 5)):=by ac_rfl
theorem TX:FnScope ["one","other"] ["one","other"] (au (top 13)):=by ac_rfl
theorem Q4:FnScope ["one","other"] ["one","other"] (au (top 12)):=by ac_rfl
theorem Q5:FnScope ["letters","doors"] ["letters","doors"] (au (top 16)):=by ac_rfl
theorem Gh:FnScope ["font","house","letters"] ["font","house"] (au (top 15)):=by ac_rfl
theorem Q6:FnScope ["font","over","costs","sign","columns","wide"] ["font","over"] (au (top 20)):=by ac_rfl
theorem TY:FnScope ["ways","texts","waiting","here","sign","columns","room"] ["ways"] (au (top 19)):=by ac_rfl
theorem U0:FnScope ["way","ahead","over","wide"] ["way","ahead","over"] (au (top 21)):=by ac_rfl
theorem Q7:FnScope ["font","ways","costs","sign","columns","found","room","place","later","way","stand"] ["font","ways"] (au (top 18)):=by ac_rfl
theorem Q8:FnScope ["ways","costs","stand"] ["ways","costs","stand"] (au (top 22)):=by ac_rfl
theorem Gi:FnScope ["font","house","ways","costs","found","waiting","stand"] ["font","house"] (au (top 23)):=by ac_rfl
theorem Q9:FnScope ["onward","backward","stand","steps","sign","cost","later"] ["onward"] (au (top 27)):=by ac_rfl
theorem Qa:FnScope ["stand","ends"] ["stand","ends"] (au (top 28)):=by ac_rfl
theorem Qc:FnScope ["waiting","rest","backs","cost","earlier"] ["waiting","rest","backs"] (au (top 26)):=by ac_rfl
theorem Qd:FnScope ["onward","ends","backward","found","waiting","rest","reached","stand"] ["onward","ends"] (au (top 25)):=by ac_rfl
theorem Qe:FnScope ["texts","sign","passes","longer"] ["texts","sign","passes"] (au (top 31)):=by ac_rfl
theorem U3:FnScope ["ways","fork","text","way","later"] ["ways","fork"] (au (top 30)):=by ac_rfl
theorem Qf:FnScope ["steps","found","rest","step"] ["steps","found","rest"] (au (top 33)):=by ac_rfl
theorem Qg:FnScope ["font","onward","found","stand","texts","letters","step"] ["font","onward","found","stand","texts"] (au (top 32)):=by ac_rfl
theorem wU:FnScope ["font","house","ways","onward","found","pairs","least","texts"] ["font","house"] (au (top 29)):=by ac_rfl
theorem Gj:FnScope ["rooms"] ["rooms"] (au (top 37)):=by ac_rfl
theorem Gk:FnScope ["room","rooms"] ["room","rooms"] (au (top 40)):=by ac_rfl
theorem Gm:FnScope ["pairs","rooms","made","sign","room"] ["pairs","rooms"] (au (top 38)):=by ac_rfl
theorem Gp:FnScope ["ends","rooms","made","end"] ["ends","rooms"] (au (top 39)):=by ac_rfl
theorem wV:FnScope ["doors","ends","rooms"] ["doors","ends"] (au (top 36)):=by ac_rfl
theorem JX:FnScope ["numbers","number"] ["numbers"] (au (top 45)):=by ac_rfl
theorem Qh:FnScope ["signs","many","rest","number","later"] ["signs","many","rest","number","later"] (au (top 46)):=by ac_rfl
theorem mY:FnScope ["signs","many","wheel","numbers","doors","turn","later"] ["signs","many","wheel"] (au (top 44)):=by ac_rfl
theorem Qi:FnScope ["font","house","told"] ["font","house"] (au (top 49)):=by ac_rfl
theorem Gq:FnScope ["font","signs","wish","most","answer","many","far"] ["font","signs","wish","most"] (au (top 48)):=by ac_rfl
theorem U4:FnScope ["script","k"] ["script","k"] (au (top 51)):=by ac_rfl
theorem Qj:FnScope ["cell","k","number"] ["cell","k"] (au (top 52)):=by ac_rfl
theorem Qk:FnScope ["number","some"] ["number"] (au (top 53)):=by ac_rfl
theorem Ql:FnScope ["cell","many","at","found","k"] ["cell","many"] (au (top 54)):=by ac_rfl
theorem U5:FnScope ["cell","k","height"] ["cell","k","height"] (au (top 55)):=by ac_rfl
theorem Qm:FnScope ["cell","sizes","signs","letters","k","columns","j"] ["cell","sizes","signs"] (au (top 56)):=by ac_rfl
theorem U6:FnScope ["signs","cell","text","k","at"] ["signs","cell"] (au (top 57)):=by ac_rfl
theorem U7:FnScope ["cell"] ["cell"] (au (top 58)):=by ac_rfl
theorem JZ:FnScope ["font","text","wish","most","kinds","e"] ["font","text","wish","most"] (au (top 59)):=by ac_rfl
theorem Qn:FnScope ["font","text","many","told"] ["font","text","many"] (au (top 60)):=by ac_rfl
theorem Qo:FnScope ["thing"] ["thing"] (au (top 61)):=by ac_rfl
theorem Gr:FnScope ["script","cell","sizes","most","signs","font","text","wish","twice","at","found","k","kept"] ["script"] (au (top 62)):=by ac_rfl
inductive DI (K:Frag) (n:Str) (st:Stmt) (dv:Value):Prop
 | mk {f:Addr} {oc kV dc pm cd ct:Value} {od an:Option Addr} {sl:Array (Option Value)} (a:nsIn K mainGlobals n=some (some (.ref f))) (l:K.lookup f=some #[oc,od, .func (fnOf n n (cg st) (bL st) (au st) dv kV dc pm an cd ct),sl]) (q:codeIn K cd n=true) (k:keepIn K (.ref f)=true):DI K n st dv
def Xe:Option Addr->Value
 | none=> .none
 | some t=> .ref t
theorem iK {K:Frag} {i:Nat} (h:Jt K n=Ju t n i):DI K n (top i) (Xe t):=by
 unfold Jt Ju at h;split at h
 .rename_i f hf;split at h
  .rename_i c od d sl hl;let#[t',W,e]:=Ye.mp h;simp only [Prod.mk.injEq] at e;let#[rfl,e1,e2,e3,e4,e5,e6,e7,e8,Y,O]:=e;let#[dn,dq,dp,db,ds,dg,dc,dd,dk,ac,ag,ae,ab,af,ad]:=d;dsimp only at e1 e2 e3 e4 e5 e6 e7 e8 Y W;subst e1 e2 e3 e4 e5 e6 e7 e8;split at W
   .cases W;show .mk hf hl Y O
   .cases W;show .mk hf hl Y O
   .cases W
  .cases h
 .cases h
theorem mZ {K:Frag} {C:Addr} (h:V5 K C=Qs):ExcK K C:=by
 simp only [V5,Qs,Prod.mk.injEq,List.cons.injEq,and_true] at h;let#[a,#[b,c,d,e],f,g,i]:=h;show#[a,b,c,d,e,f,g,i]
theorem eY {β γ:Type} {f:β->γ} {l:List β} {r:List γ} (h:l.map f=r) (i:Nat) {b:β} {c:γ} (e1:l[i]? =some b) (e2:r[i]? =some c):f b=c:=by
 rw [<- h,Zi,e1] at e2;show Yi e2
theorem wW {K:Frag} {a:Addr} {vs:List Value} (h:V6 K a=some (c,vs)): ∃te tn W,K.lookup a=some #[c,te, .seq vs.toArray tn,W]:=by
 unfold V6 at h;split at h
 .rename_i O;cases h;show#[_,_,_,O]
 .cases h
theorem ck {P:Program} {K:Frag} {base h:Heap} {ps:List Str} (X:K.In h) (G:h.Ns mainGlobals mg) (D:DI K n st .none)
  (b: ∀ (kV W Y:Value) (an:Option Addr) (O ct:Value) (us:List Value),us.length=ps.length->bindArgs (fnOf n n (cg st) (bL st) (au st) .none kV W Y an O ct) #[us,[]]=pure (ps.zip us))
  (o: ∀f fd,Fun K n n st f fd->FnOk P w K mg base Hm d f fd ps sp):Cal P w K mg base d n ps sp:=by
 let#[a,l,q,k]:=D;show#[_,_,o _ _ (lO l q k),(lO l q k).binds b,k,mg_of X G a]
theorem Qp {P:Program} {K:Frag} {base h:Heap} {ps:List Str} (X:K.In h) (G:h.Ns mainGlobals mg) (D:DI K n st .none)
  (b: ∀ (kV W Y:Value) (an:Option Addr) (O ct:Value) (us:List Value),us.length=ps.length->bindArgs (fnOf n n (cg st) (bL st) (au st) .none kV W Y an O ct) #[us,[]]=pure (ps.zip us))
  (o: ∀f fd,Fun K n n st f fd->FnOk P w K mg base (iY P w) d f fd ps sp):CalX P w K mg base d n ps sp:=by
 let#[a,l,q,k]:=D;show#[_,_,o _ _ (lO l q k),(lO l q k).binds b,k,mg_of X G a]
theorem cq {P:Program} {K:Frag} {base:Heap} {ps:List Str} (h:CalX P w K mg base d n ps sp):Cal P w K mg base d n ps (λ vs H Q _=>sp vs H Q E0):=by
 let#[_,_,o,b]:=h;show#[_,_,o.quiet,b]
section
abbrev v0 {X:Cx}:= @pv X 0
abbrev v1 {X:Cx}:= @pv X 1
abbrev v2 {X:Cx}:= @pv X 2
abbrev v3 {X:Cx}:= @pv X 3
abbrev v4 {X:Cx}:= @pv X 4
abbrev v5 {X:Cx}:= @pv X 5
abbrev v6 {X:Cx}:= @pv X 6
abbrev v7 {X:Cx}:= @pv X 7
abbrev v8 {X:Cx}:= @pv X 8
abbrev v9 {X:Cx}:= @pv X 9
abbrev yr {X:Cx}:= @pv X 10
abbrev QD {X:Cx}:= @pv X 11
abbrev Xf {X:Cx}:= @pv X 12
set_option hygiene false
local macro_rules | `(#[$a]) => `(xn $a eO) | `(#[$a, $b,*]) => `(xn $a #[$b,*])
local macro_rules | `(($a, $b)) => `(rB $a (aD $b)) | `(($a, $b, $c,*)) => `(rB $a ($b, $c,*))
local macro_rules | `($a + $b) => `(xu (Hv K rfl) $a $b (λ _ _ => rfl))
local macro_rules | `($a - $b) => `(xu (Bg K rfl) $a $b (λ _ _ => rfl))
local macro_rules | `($a < $b) => `(Ac $a rfl (by assumption) (by decide +kernel) $b)
local macro_rules | `($a > $b) => `(lR ($a X G e2 z_isinstance z_bool z_int z_len z_str z_ord z_sum z_zip z_dict z_min z_enumerate z_max z_tuple z_sorted z_range z_ValueError z_list g_LEFT_OUT g_MOST_ROOMS g_GREATEST_ON_WHEEL k_BlotError k_NotAlike k_NoSign k_NoHouse) hr (by decide) rfl $b)
local macro_rules | `($a && $b) => `(jo (i := $a) nd rfl (Or.inl rfl) $b)
local macro_rules | `(↑$a) => `(pG (i := $a) nd rfl (Or.inl rfl))
local macro_rules | `($a :: $b :: $c) => `(jt PassesOwn.never rfl $a $b $c)
local macro_rules | `($a ++ $b) => `(pX K rfl PySem.F.plainAttrs_list PySem.F.slot_list_append PySem.F.type_list_append yJ $a $b)
local macro_rules | `($a ^ $b ^ $c ^ $d) => `(Cal pWo w K mg base $a $b $c ($d K))
local macro_rules | `($a / $b / $c / $d / $e / $f / $g / $h) => `(QS $a $b rfl $c (show CScope (au (top $d)) _ from ⟨rfl, by decide +kernel, by decide +kernel, by decide +kernel⟩) (show capOk $a $b ($e : List Str) _ = true from by decide +kernel) (λ _ _ _ _ _ _ => $f) (λ _ _ _ _ _ _ => $g) (λ _ _ _ _ _ _ => $h)) | `($a / $b / $c / $d / $e / $f) => `(ck (st := top $b) X G (iK (eY e2 $a rfl rfl)) (by first | exact λ _ _ _ _ _ _ => ar1 λ _ => rfl | exact λ _ _ _ _ _ _ => ar2 λ _ _ => rfl | exact λ _ _ _ _ _ _ => Xb λ _ _ _ => rfl | exact λ _ _ _ _ _ _ => WL λ _ _ _ _ => rfl | exact λ _ _ _ _ _ _ => Xc λ _ _ _ _ _ => rfl) λ _ _ F => F.ok $c (λ _ _ _ _ h => by cases h; subst_vars; rfl) λ cdv A outer s H vs Q E hr h => by have nd := ($c).nd; obtain ⟨Eh, h⟩ := $d h; exact ⟨$e K E Eh, $f, h⟩) | `($a / $b) => `(pG (i := $a) (show List.Nodup ($b : List Str) by decide +kernel) rfl (Or.inl rfl))
section
variable {w:World} {K:Frag} {h:Heap} {mg:Str->Option Value} {base:Heap} (X:K.In h) (G:h.Ns mainGlobals mg) (e2:Qt.map (λ d=>Jt K d.1)=Qt.map (λ d=>Ju none d.1 d.2)) (z_isinstance:mg "isinstance"=none) (z_bool:mg "bool"=none) (z_int:mg "int"=none) (z_len:mg "len"=none) (z_str:mg "str"=none) (z_ord:mg "ord"=none) (z_sum:mg "sum"=none) (z_zip:mg "zip"=none) (z_dict:mg "dict"=none) (z_min:mg "min"=none) (z_enumerate:mg "enumerate"=none) (z_max:mg "max"=none) (z_tuple:mg "tuple"=none) (z_sorted:mg "sorted"=none) (z_range:mg "range"=none) (z_ValueError:mg "ValueError"=none) (z_list:mg "list"=none) {gv_LEFT_OUT:Value} (g_LEFT_OUT:mg "LEFT_OUT"=some gv_LEFT_OUT/\RelV (V.int 37) gv_LEFT_OUT) {gv_MOST_ROOMS:Value} (g_MOST_ROOMS:mg "MOST_ROOMS"=some gv_MOST_ROOMS/\RelV (V.int 40) gv_MOST_ROOMS) {gv_GREATEST_ON_WHEEL:Value} (g_GREATEST_ON_WHEEL:mg "GREATEST_ON_WHEEL"=some gv_GREATEST_ON_WHEEL/\RelV (V.int 1000) gv_GREATEST_ON_WHEEL) (k_BlotError:mg "BlotError"=some (.ref Nt)/\ExcK K Nt) (k_NotAlike:mg "NotAlike"=some (.ref V3)/\ExcK K V3) (k_NoSign:mg "NoSign"=some (.ref JT)/\ExcK K JT) (k_NoHouse:mg "NoHouse"=some (.ref jl)/\ExcK K jl)
include X G e2 z_isinstance z_bool z_int z_len z_str z_ord z_sum z_zip z_dict z_min z_enumerate z_max z_tuple z_sorted z_range z_ValueError z_list g_LEFT_OUT g_MOST_ROOMS g_GREATEST_ON_WHEEL k_BlotError k_NotAlike k_NoSign k_NoHouse
theorem Gs:1^"is_whole"^["thing"]^sp_f26:=0 / 2 / PX / Nu / vH / (aD (aL (lE (cu K rfl< #[v0,fH (v:= .ty "int") (u:= .type "int") rfl z_int (by ac_nf) rfl]) (jm (zL (cu K rfl< #[v0,fH (v:= .ty "bool") (u:= .type "bool") rfl z_bool (by ac_nf) rfl]))))))
theorem U8:1^"is_sign"^["thing"]^sp_f31:=1 / 3 / Q0 / Ny / vI / (bH (PW.pt (rA (fJ (cA K rfl (cu K rfl< #[v0,fH (v:= .ty "str") (u:= .type "str") rfl z_str (by ac_nf) rfl]) (λ _=>rfl))) (lC (aO xm (aJ K rfl< #[v0]) ak (aN _))))) (aD (aL j4)) aQ,
  aL (lE (zW oK oK cN v0 cN) (jm (d9 xm (zZ< #[v0]) (gR rfl g_LEFT_OUT.1 g_LEFT_OUT.2) (aN _)))))
theorem U9:1^"inked"^["column"]^sp_f39:=2 / 4 / Gg / Nz / vJ / (1&&ak,
  gw PassesOwn.never (aO lG v0 ak (aN _)) (0&&aC Kw v0 (aC iU v0 ak),
  Kq (i:=1) Gg.nd rfl (Or.inl rfl) ak Kr),
  aL v1)
theorem Ua:2^"apart"^["one","other"]^sp_f37:=3 / 5 / Q3 / NB / vK / (aD (aL (U9> #[aC Ky v0 v1])))
theorem VR:1^"check_alike"^["one","other"]^sp_f7:=4 / 13 / TX / Td / DQ / (aD (bH (aO xm (aJ K rfl< #[v0]) (aJ K rfl< #[v1]) (aN _)) (aD zN) aQ))
theorem Ub:3^"gap"^["one","other"]^sp_f44:=5 / 12 / Q4 / NK / vL / (bD (VR> #[v0,v1]),
  aL (yQ K rfl rfl< #[[none,none] / ["left","right"] / BZ K rfl rfl rfl z_zip #[v0,v1] / 12 / ["one","other"] / cV K rfl rfl (aR (0 / ["left","right"]) (aR (1 / ["left","right"]) cO)) / dG / (Ua> #[v0,v1])]))
theorem Uc:1^"lettered"^["letters","doors"]^sp_f24:=6 / 16 / Q5 / NP / vM / (aD (aL ([none,none,some 0] / ["sign","room","letters"] / jc K rfl v1 / 16 / ["letters","doors"] / cV K rfl rfl (aR (0 / ["sign","room","letters"]) (aR (1 / ["sign","room","letters"]) cO)) / pQ (gr (uC (bY hr) v0 v2) (by with_unfolding_all rfl)) / bM #[v0,dX (bY hr) v2 v0 (λ _ _=>rfl),v1])))
theorem K1:2^"ways_of"^["font","house"]^sp_f30:=7 / 15 / Gh / NQ / vN / (jo (i:=2) Gh.nd rfl (Or.inr rfl) (cJ (jf K rfl rfl) rfl z_dict (by ac_nf) #[v0+ak]),
  aL ([none,some 2] / ["doors","letters"] / jc K rfl (v1+ak) / 15 / ["font","house","letters"] / (0 / ["doors","letters"]) / dG / (Uc> #[v1,v0])))
theorem K3:4^"costs_over"^["font","over"]^sp_f14:=8 / 20 / Q6 / NT / vP / (2&&jb,
  jc K rfl (v0+ak)::cV K rfl rfl (aR ↑3 (aR ↑4 cO))::(5&&yD rfl< #[aJ K rfl< #[v4],aJ K rfl< #[v1]],
  gW (bY hr) v2 v3 (Ub> #[bW (jg K rfl) v4 cQ (cR v5),bW (jg K rfl) v1 cQ (cR v5)]) rfl),
  aL v2)
theorem Ud:1^"texts_to_rooms"^["ways"]^sp_f0:=9 / 19 / TY / Te / DX / (1&&Ho (rQ ak cN xF) rfl rfl (by simp) (by decide),
  2&&cP #[ak],
  gw PassesOwn.never (aO lG (aJ K rfl< #[v2]) ak (aN _)) (3&&pX K rfl PySem.F.plainAttrs_list PySem.F.slot_list_pop PySem.F.type_list_pop Am v2 #[ak],
  bN K rfl (v0-v3)::cV K rfl rfl (aR ↑4 (aR ↑5 (aR ↑6 cO)))::aD (bH (gr (oH (bY hr) v6 v1) (by with_unfolding_all rfl)) (gW (bY hr) v1 v6 (aC bV (dX (bY hr) v1 v3 (λ _ _=>rfl)) v4) rfl,
  bD (v2++ #[v6])) aQ)),
  aL v1)
theorem Ue:1^"stand_behind"^["way","ahead","over"]^sp_f6:=10 / 21 / U0 / Tf / Ea / (3&&aJ K rfl< #[v0+ak],
  bH (aO jO v3 (aJ K rfl< #[v2]) (aN _)) (aD (aL (bM #[v0+ak,v1,bW (jg K rfl) v2 (cR v3) cQ]))) aQ,
  aL (bM #[v1,v0+ak,bW (jg K rfl) (v0+ak) (cR (aJ K rfl< #[v2])) cQ]))
theorem K4:5^"forks"^["font","ways"]^sp_f38:=11 / 18 / Q7 / O1 / vQ / (2&&jb,
  jc K rfl (v0+ak)::cV K rfl rfl (aR ↑3 (aR ↑4 cO))::aD (gW (bY hr) v2 v3 (K3> #[v0,v4]) rfl),
  5&&cP eO,
  BR (Ud> #[v1]):: ↑6::aD (Bp K rfl rfl rfl z_enumerate #[v1-v6]::cV K rfl rfl (aR ↑7 (aR ↑8 cO))::aD (bN K rfl (bW (rZ K rfl) (v1-v6) cQ (cR v7)):: ↑9::(10&&Ue> #[v9,v8+ak,v8+ak],
  bD (v5++ #[bM #[dX (bY hr) (dX (bY hr) v2 (v8+ak) (λ _ _=>rfl)) (v9+ak) (λ _ _=>rfl),yr,v6,v9,v8]])))),
  aL v5)
theorem Ug:2^"steps_by"^["ways","costs","stand"]^sp_f27:=12 / 22 / Q8 / O2 / vR / (aD (aL ([none,some 1,some 2] / ["way","costs","stand"] / bN K rfl (v0-(v2+ak)) / 22 / ["ways","costs","stand"] / (0 / ["way","costs","stand"]) / dG / bM #[v0+ak,dX (bY hr) v1 (v0+ak) (λ _ _=>rfl),Ue> #[v0,v2+ak,v2+ak]])))
theorem Uh:6^"all_steps"^["font","house"]^sp_f22:=13 / 23 / Gi / O6 / vX / (2&&K1> #[v0,v1],
  3&&Ax,
  4&&qx,
  Jz (i:=5) [none] ["fork"] rfl Gi.nd rfl rfl (bN K rfl (K4> #[v0,v2])) (show CScope (au (top 23)) _ from ⟨rfl,by ac_nf,by ac_nf,by ac_nf⟩) (show capOk [none] ["fork"] (["font","house","ways","costs","found","waiting","stand"]:List Str) _=true from by ac_nf) (λ _ _ _ _ _ _=>(0 / ["fork"])) (λ _ _ _ _ _ _=>dG) (λ _ _ _ _ _ _=>(v0+ak)),
  gw PassesOwn.never (aO lG (aJ K rfl< #[v5]) ak (aN _)) (6&&Hx K rfl PySem.F.plainAttrs_list PySem.F.slot_list_pop PySem.F.type_list_pop Lh v5,
  bH (gr (oZ (cW hr) v6 v4) (by with_unfolding_all rfl)) (bH (gr (oH (bY hr) (v6+ak) v3) (by with_unfolding_all rfl)) (aD (gW (bY hr) v3 (v6+ak) (K3> #[v0,v6+ak]) rfl)) aQ,
  qy (cW hr) v4 v6 (Ug> #[v2,dX (bY hr) v3 (v6+ak) (λ _ _=>rfl),v6]) rfl,
  bD (pX K rfl PySem.F.plainAttrs_list PySem.F.slot_list_extend PySem.F.type_list_extend oh v5 #[[none] / ["step"] / bN K rfl (fV (cW hr) v4 v6 (λ _ _=>rfl)) / 23 / ["font","house","ways","costs","found","waiting","stand"] / (0 / ["step"]) / dG / (v0+ak)])) aQ),
  aL v4)
theorem Ui:1^"steps_back"^["onward"]^sp_f18:=14 / 27 / Q9 / O7 / vZ / (1&&qx,
  tH v0:: ↑2::aD (qy (cW hr) v1 v2 (cP eO) rfl),
  zm v0::cV K rfl rfl (aR ↑2 (aR ↑3 cO))::aD (bN K rfl v3::cV K rfl rfl (aR ↑4 (aR ↑5 (aR ↑6 cO)))::aD (bD (fV (cW hr) v1 v6 (λ _ _=>rfl)++ #[bM #[v5,v2]]))),
  aL v1)
theorem Uj:1^"is_even"^["stand","ends"]^sp_f33:=15 / 28 / Qa / O8 / w6 / (aD (aL (lE (d9 j6 (aJ K rfl< #[v0+ak]) ak (aN _)) (lE (d9 (lU K rfl) (v0+ak) v1 (by with_unfolding_all rfl)) (jm (d9 (lU K rfl) (v0+ak) v1 (by with_unfolding_all rfl)))))))
theorem Uk:1^"let_wait"^["waiting","rest","backs"]^sp_f28:=16 / 26 / Qc / Oa / wg / (aD (bN K rfl v2::cV K rfl rfl (aR ↑3 (aR ↑4 cO))::aD (bD (Im (bY hr) v0 (bM #[aC aY (v1+ak) v3,aC aY (v1+ak) ak]) (cP eO) ⟨rfl,rfl,rfl,rfl⟩++ #[v4]))))
theorem Ul:2^"rests"^["onward","ends"]^sp_f40:=17 / 25 / Qd / Od / wj / (2&&Ui> #[v0],
  3&&qx,
  4&&Cj (bY hr) (bM #[ak,ak]) ([none,some 1] / ["stand","ends"] / tH v0 / 25 / ["onward","ends","backward","found","waiting","rest","reached","stand"] / (0 / ["stand","ends"]) / pQ (cA K rfl (Uj> #[v0,v1]) (λ _=>rfl)) / v0),
  gw PassesOwn.never (aO lG (zj< #[v4]) ak (aN _)) (5&&zp rfl (bY hr)< #[v4],
  6&&Il (bY hr) v4 v5 ⟨rfl,rfl,rfl,rfl⟩,
  bN K rfl v6:: ↑7::aD (bH (gr (oZ (cW hr) v7 v3) (by with_unfolding_all rfl)) (qy (cW hr) v3 v7 v5 rfl,
  bD (Uk> #[v4,v5,fV (cW hr) v2 v7 (λ _ _=>rfl)])) aQ)),
  aL v3)
theorem K5:1^"grown"^["texts","sign","passes"]^sp_f41:=18 / 31 / Qe / Oe / wk / (3&&aC bV (v0+ak) v1,
  aL (lF (cA K rfl v2 (λ _=>rfl)) (bM #[v0+ak,v3]) (bM #[v3,v0+ak])))
theorem W3:2^"texts_of_fork"^["ways","fork"]^sp_f3:=19 / 30 / U3 / Tp / Ew / (2&&dX (bY hr) (Ud> #[v0]) (v1+ak) (λ _ _=>rfl),
  3&&v1+ak,
  4&&v1+ak,
  aL (K5> #[bM #[v2,aC bV v2 (v4+ak)],v3+ak,d9 lG (aJ K rfl< #[v3+ak]) (aJ K rfl< #[v4+ak]) (aN _)]))
theorem Um:1^"step_on"^["steps","found","rest"]^sp_f29:=20 / 33 / Qf / Oh / wu / (bN K rfl v0:: ↑3::aD (bH (aO (pU K rfl hr.units) (CQ (cW hr) v1 (v3+ak) ⟨rfl,rfl,rfl,rfl⟩) (bM #[aC iU (v2+ak) (v3+ak),aC iU (v2+ak) ak]) (aN _)) (aD (aL v3)) aQ),
  aL dJ)
theorem Uo:2^"led_on"^["font","onward","found","stand","texts"]^sp_f36:=21 / 32 / Qg / Oi / ww / (5&&cJ (jf K rfl rfl) rfl z_dict (by ac_nf) #[v0+ak],
  gw PassesOwn.never (aO (Hw K rfl hr.units) (fV (cW hr) v2 v3 (λ _ _=>rfl)) (bM #[ak,ak]) (aN _)) (6&&Um> #[fV (cW hr) v1 v3 (λ _ _=>rfl),v2,fV (cW hr) v2 v3 (λ _ _=>rfl)],
  4&&K5> #[v4,v6+ak,d9 lG (aJ K rfl< #[dX (bY hr) v5 (v6+ak) (λ _ _=>rfl)]) (aJ K rfl< #[v3+ak]) (aN _)],
  3&&v6+ak),
  aL v4)
theorem K6:7^"farness"^["font","house"]^sp_f32:=22 / 29 / wU / Oo / wy / (2&&K1> #[v0,v1],
  3&&Uh> #[v0,v1],
  jo (i:=4) wU.nd rfl (Or.inr rfl) (Ul> #[v3,v1+ak]),
  Jz (i:=5) [none,some 4] ["fork","found"] rfl wU.nd rfl rfl (bN K rfl (K4> #[v0,v2])) (show CScope (au (top 29)) _ from ⟨rfl,by ac_nf,by ac_nf,by ac_nf⟩) (show capOk [none,some 4] ["fork","found"] (["font","house","ways","onward","found","pairs","least","texts"]:List Str) _=true from by ac_nf) (λ _ _ _ _ _ _=>(0 / ["fork","found"])) (λ _ _ _ _ _ _=>pQ (gr (M5 (cW hr) (v0+ak) v1) (by with_unfolding_all rfl))) (λ _ _ _ _ _ _=>(bM #[aC aY (v0+ak) (fV (cW hr) v1 (v0+ak) (λ _ _=>rfl)+ak),v0])),
  bH (aO j6 (aJ K rfl< #[v5]) ak (aN _)) (aD (aL dJ)) aQ,
  6&&tO K rfl rfl (Ih hr)< #[v5],
  7&&Uo> #[v0,v3,v4,v6+ak+ak,W3> #[v2,v6+ak]],
  aL (bM #[v6+ak,vz K rfl rfl< #[v7],vA K rfl rfl< #[v7]]))
theorem Uq:1^"sums_doors"^["signs","many","rest","number","later"]^sp_f12:=29 / 46 / Qh / Pb / wG / (aD (aL ([none,none,some 4,some 2,some 3,some 1] / ["worth","sign","later","rest","number","many"] / Ci rfl rfl z_enumerate #[v0] (Hd ak KR) / 46 / ["signs","many","rest","number","later"] / cV K rfl rfl (aR (0 / ["worth","sign","later","rest","number","many"]) (aR (1 / ["worth","sign","later","rest","number","many"]) cO)) / dG / bM #[v1,aC aY v2 (aC bj (aC aY v3 (aC eN v0 v4)) v5)])))
theorem Ur:8^"far_of"^["font","house"]^sp_f35:=30 / 49 / Qi / Pn / wI / (2&&K6> #[v0,v1],
  aL (lF (aO ju v2 dJ (aN _)) dJ (v2+ak)))
theorem wX:1^"_law_cell_at"^["script","k"]^sp_f4:=32 / 51 / U4 / Tv / FN / (bH (aO rH v1 (aJ K rfl< #[v0]) (aN _)) (aD (aL (v0-v1))) aQ,
  aL ak)
theorem gQ:1^"_law_mix"^["cell","k"]^sp_f25:=33 / 52 / Qj / Pu / wK / (2&&aC bj (aC aY (aC eN (aC bj v0 ak) (aC aY (aC eN v1 v1) ak)) v1) ak,
  aL (aC fL (aC bj (aC eN v2 v2) ak) ak))
theorem Us:1^"_law_sign"^["number"]^sp_f20:=34 / 53 / Qk / Px / wL / (1&&cN,
  1&&aC bV v1 cN,
  aL (xu Ag v1 (aC bj v0 ak) (λ _ _=>rfl)))
theorem Ut:2^"_law_signs"^["cell","many"]^sp_f13:=35 / 54 / Ql / Py / wM / (2&&gQ> #[v0,ak],
  3&&cP eO,
  cI rfl z_range #[v1]:: ↑4::(bD (v3++ #[Us> #[v2]]),
  2&&aC aY (aC aY v2 ak) (aC bj (gQ> #[v0,aC aY v4 ak]) ak)),
  aL v3)
theorem W4:2^"_law_column"^["cell","k","height"]^sp_f9:=36 / 55 / U5 / Tw / FQ / (aD (aL (aC bj (aC aY (aC eN (gQ> #[v0,v1]) ak) (gQ> #[v0,aC aY v1 ak])) (aC Kv ak v2))))
theorem Uu:3^"_law_font"^["cell","sizes","signs"]^sp_f21:=37 / 56 / Qm / PB / wN / (3&&cP eO,
  cI rfl z_range #[v1-ak]:: ↑4::(5&&cP eO,
  cI rfl z_range #[aC aY ak (aC bj (gQ> #[v0,aC aY v4 ak]) (v1-ak))]:: ↑6::aD (bD (v5++ #[W4> #[v0,aC aY (aC aY (aC eN ak v4) (aC eN ak v6)) ak,v1-ak]])),
  bD (v3++ #[bM #[v2-v4,cJ (cU K rfl) rfl z_tuple (by ac_nf) #[v5]]])),
  bH (aO j6 (aC bj v0 ak) ak (aN _)) (aD (Km (bM #[v3-wZ pI ak+ak,v3-ak+ak]) (Kl v3 (wZ pI ak) set_list))) aQ,
  aL (bM #[v1-ak,cJ (uR K rfl) rfl z_tuple (by ac_nf) #[sJ K rfl< #[v3]]]))
theorem W5:2^"_law_shuffled"^["signs","cell"]^sp_f2:=38 / 57 / U6 / Tz / FZ / (2&&cN,
  cI rfl z_range #[aJ K rfl< #[v0]]:: ↑3::(4&&aC bj (gQ> #[v1,aC aY v3 ak]) (aC aY (aJ K rfl< #[v2]) ak),
  2&&aC bV (aC bV (bW m8 v2 cQ (cR v4)) (v0-v3)) (bW m8 v2 (cR v4) cQ)),
  aL (bW m8 v2 cQ (cR (aC iU (aJ K rfl< #[v2]) (aC fL (aC bj v1 ak) ak)))))
theorem W6:1^"_law_wished_by"^["cell"]^sp_f1:=39 / 58 / U7 / TJ / G3 / (bH (aO j6 (aC bj v0 ak) ak (aN _)) (aD (aL (aC bj (aC fL v0 ak) (aC zR ak ak)))) aQ,
  bH (aO j6 (aC bj v0 ak) ak (aN _)) (aD (aL (aC iU (aC iU ak ak) (aC bj (aC fL v0 ak) (aC zR ak ak))))) aQ,
  aL (aC iU (aC bj (aC fL v0 ak) ak) ak))
theorem Uv:1^"_law_good"^["thing"]^sp_f19:=42 / 61 / Qo / PN / wQ / (aD (aL (Jv (d9 ju v0 dJ (aN _)) (jm (lE (cu K rfl< #[v0,fH (v:= .ty "int") (u:= .type "int") rfl z_int (by ac_nf) rfl]) (jm (zL (cu K rfl< #[v0,fH (v:= .ty "bool") (u:= .type "bool") rfl z_bool (by ac_nf) rfl]))))))))
end
theorem Qq {K:Frag} {h:Heap} {fa:Addr} (X:K.In h) (G:h.Ns mainGlobals mg) (hfa:mg "law"=some (.ref fa)) (e:obs K=ans)
  : ∃fd:FuncData,(∀ (s:Shared) (v:Value),BindsTo s fd ⟨[v],[]⟩ [Prod.mk "script" v])/\ ∀base:Heap,K.In base->base.Ns mainGlobals mg->FnOk pWo w K mg base Hm 11 fa fd ["script"] (sp_f43 K):=by
 have e1:nms.map (nsIn K mainGlobals)=W7:=Yc (·.1) e;have e2:Qt.map (λ d=>Jt K d.1)=Qt.map (λ d=>Ju none d.1 d.2):=Yc (·.2.1) e;have e3:=Yc (·.2.2.1) e;have e4:=Yc (·.2.2.2.1) e;have e5:=Yc (·.2.2.2.2.1) e;obtain @⟨_,_,kV,dc,pm,cd,ct,_,an,_,a,lL,qL,kL⟩:=iK (eY e2 43 rfl rfl:Jt K "law"=Ju none "law" 62)
 cases hfa.symm.trans (mg_of X G a);refine ⟨fnOf "law" "law" (cg (top 62)) (bL (top 62)) (au (top 62)) .none kV dc pm an cd ct,λ s v=> .of_eq rfl,λ base _ _=> ?_⟩;have z_isinstance:mg "isinstance"=none:=mg_none_of X G (eY e1 0 rfl rfl);have z_bool:mg "bool"=none:=mg_none_of X G (eY e1 1 rfl rfl);have z_int:mg "int"=none:=mg_none_of X G (eY e1 2 rfl rfl);have z_len:mg "len"=none:=mg_none_of X G (eY e1 3 rfl rfl);have z_str:mg "str"=none:=mg_none_of X G (eY e1 4 rfl rfl);have z_ord:mg "ord"=none:=mg_none_of X G (eY e1 5 rfl rfl);have z_sum:mg "sum"=none:=mg_none_of X G (eY e1 6 rfl rfl);have z_zip:mg "zip"=none:=mg_none_of X G (eY e1 7 rfl rfl);have z_dict:mg "dict"=none:=mg_none_of X G (eY e1 8 rfl rfl);have z_min:mg "min"=none:=mg_none_of X G (eY e1 9 rfl rfl);have z_enumerate:mg "enumerate"=none:=mg_none_of X G (eY e1 10 rfl rfl);have z_max:mg "max"=none:=mg_none_of X G (eY e1 11 rfl rfl);have z_tuple:mg "tuple"=none:=mg_none_of X G (eY e1 12 rfl rfl);have z_sorted:mg "sorted"=none:=mg_none_of X G (eY e1 13 rfl rfl);have z_range:mg "range"=none:=mg_none_of X G (eY e1 14 rfl rfl);have z_ValueError:mg "ValueError"=none:=mg_none_of X G (eY e1 15 rfl rfl);have z_list:mg "list"=none:=mg_none_of X G (eY e1 16 rfl rfl);have g_LEFT_OUT:mg "LEFT_OUT"=some (.int 37 189)/\RelV (V.int 37) (.int 37 189):=⟨mg_of X G (eY e1 17 rfl rfl),_,rfl⟩;have g_MOST_ROOMS:mg "MOST_ROOMS"=some (.int 40 477)/\RelV (V.int 40) (.int 40 477):=⟨mg_of X G (eY e1 18 rfl rfl),_,rfl⟩;have g_GREATEST_ON_WHEEL:mg "GREATEST_ON_WHEEL"=some (.int 1000 525)/\RelV (V.int 1000) (.int 1000 525):=⟨mg_of X G (eY e1 19 rfl rfl),_,rfl⟩;have k_BlotError:mg "BlotError"=some (.ref Nt)/\ExcK K Nt:=⟨mg_of X G (eY e1 20 rfl rfl),mZ (eY e3 0 rfl rfl)⟩;have k_NotAlike:mg "NotAlike"=some (.ref V3)/\ExcK K V3:=⟨mg_of X G (eY e1 21 rfl rfl),mZ (eY e3 1 rfl rfl)⟩;have k_NoSign:mg "NoSign"=some (.ref JT)/\ExcK K JT:=⟨mg_of X G (eY e1 22 rfl rfl),mZ (eY e3 2 rfl rfl)⟩;have k_NoHouse:mg "NoHouse"=some (.ref jl)/\ExcK K jl:=⟨mg_of X G (eY e1 23 rfl rfl),mZ (eY e3 3 rfl rfl)⟩;obtain ⟨_,_,_,t_PLAIN_WHEEL⟩:=wW (eY e5 1 rfl rfl);have k_PLAIN_WHEEL:mg "PLAIN_WHEEL"=some (.ref bu)/\TupK K bu [V.int 1]:=⟨mg_of X G (eY e1 24 rfl rfl),L2.JG t_PLAIN_WHEEL⟩;have x_f11:CalX pWo w K mg base 1 "check_rooms" ["rooms"] (sp_f11 K):=Qp (st:=top 37) X G (iK (eY e2 23 rfl rfl)) (λ _ _ _ _ _ _=>ar1 λ _=>rfl) λ _ _ F=>F.okX Gj (λ _ _ _ _ h=>Ot h) λ cdv A outer s H vs Q E hr h=>by
  have nd:=Gj.nd;obtain ⟨Eh,h⟩:=Oq h;exact ⟨wA K E Eh,(aD (bH (fJ (j7 jO jO ak v0 (gR rfl g_MOST_ROOMS.1 g_MOST_ROOMS.2))) (aD (di Xs cM rfl rfl k_NoHouse.1 k_NoHouse.2.1 #[cN])) aQ)),h⟩
 have x_f17:CalX pWo w K mg base 2 "check_room" ["room","rooms"] (sp_f17 K):=Qp (st:=top 40) X G (iK (eY e2 24 rfl rfl)) (λ _ _ _ _ _ _=>ar2 λ _ _=>rfl) λ _ _ F=>F.okX Gk (λ _ _ _ _ h=>Ov h) λ cdv A outer s H vs Q E hr h=>by
  have nd:=Gk.nd;obtain ⟨Eh,h⟩:=Ou h;exact ⟨wB K E Eh,(aD (bH (fJ (PW.pt (iQ (cA K rfl (Gs> #[v0]) (λ _=>rfl)) (gU (j7 jO rH ak v0 v1))))) (aD (di Xs cM rfl rfl k_NoHouse.1 k_NoHouse.2.1 #[cN])) aQ)),h⟩
 have x_f15:CalX pWo w K mg base 3 "made_doors" ["pairs","rooms"] (sp_f15 K):=Qp (st:=top 38) X G (iK (eY e2 25 rfl rfl)) (λ _ _ _ _ _ _=>ar2 λ _ _=>rfl) λ _ _ F=>F.okX Gm (λ _ _ _ _ h=>Oz h) λ cdv A outer s H vs Q E hr h=>by
  have nd:=Gm.nd;obtain ⟨Eh,h⟩:=Ox h;exact ⟨wC K E Eh,(2&&jb,
   jt m7 rfl (bN K rfl v0) (cV K rfl rfl (aR ↑3 (aR ↑4 cO))) (bH (fJ (cA K rfl (U8> #[v3]) (λ _=>rfl))) (aD (di Xs cM rfl rfl k_NoHouse.1 k_NoHouse.2.1 #[cN])) aQ,
   bH (gr (uC (bY hr) v3 v2) (by with_unfolding_all rfl)) (aD (di Xs cM rfl rfl k_NoHouse.1 k_NoHouse.2.1 #[cN])) aQ,
   bD (dH x_f17 hr (by decide) rfl (E:=E) (bZ λ _ _ z=>z) #[v4,v1]),
   gW (bY hr) v2 v3 v4 rfl),
   aL (cJ (cU K rfl) rfl z_tuple (by ac_nf) #[yZ rfl rfl z_sorted v2])),h⟩
 have x_f23:CalX pWo w K mg base 3 "made_ends" ["ends","rooms"] (sp_f23 K):=Qp (st:=top 39) X G (iK (eY e2 26 rfl rfl)) (λ _ _ _ _ _ _=>ar2 λ _ _=>rfl) λ _ _ F=>F.okX Gp (λ _ _ _ _ h=>OJ h) λ cdv A outer s H vs Q E hr h=>by
  have nd:=Gp.nd;obtain ⟨Eh,h⟩:=OD h;exact ⟨wD K E Eh,(2&&jb,
   jt m7 rfl (bN K rfl v0) ↑3 (bD (dH x_f17 hr (by decide) rfl (E:=E) (bZ λ _ _ z=>z) #[v3,v1]),
   bH (gr (uC (bY hr) v3 v2) (by with_unfolding_all rfl)) (aD (di Xs cM rfl rfl k_NoHouse.1 k_NoHouse.2.1 #[cN])) aQ,
   gW (bY hr) v2 v3 j4 rfl),
   aL (cJ (cU K rfl) rfl z_tuple (by ac_nf) #[sO rfl< #[v2]])),h⟩
 have x_f16:CalX pWo w K mg base 4 "make_house" ["doors","ends"] (sp_f16 K):=Qp (st:=top 36) X G (iK (eY e2 27 rfl rfl)) (λ _ _ _ _ _ _=>ar2 λ _ _=>rfl) λ _ _ F=>F.okX wV (λ _ _ _ _ h=>Pa h) λ cdv A outer s H vs Q E hr h=>by
  have nd:=wV.nd;obtain ⟨Eh,h⟩:=P0 h;exact ⟨wF K E Eh,(jo (i:=2) wV.nd rfl (Or.inr rfl) (aJ K rfl< #[v0]),
   bD (dH x_f11 hr (by decide) rfl (E:=E) (bZ λ _ _ z=>z) #[v2]),
   aL (bM #[cJ (cU K rfl) rfl z_tuple (by ac_nf) #[LQ (E:=E) [none,some 2] ["pairs","rooms"] BW rfl rfl rfl (bN K rfl v0) (show CScope (au (top 36)) _ from ⟨rfl,by ac_nf,by ac_nf,by ac_nf⟩) (show capOk [none,some 2] ["pairs","rooms"] (["doors","ends","rooms"]:List Str) _=true from by ac_nf) (λ _ _ _ _ _ _ _=>(0 / ["pairs","rooms"])) (λ _ _ _ _ _ _ _=>dG) (λ _ _ _ _ _ _ _ hpx=>(dH x_f15 hr (by decide) rfl (E:=E) hpx #[v0,v1]))],dH x_f23 hr (by decide) rfl (E:=E) (bZ λ _ _ z=>z) #[v1,v2]])),h⟩
 have x_f8:CalX pWo w K mg base 2 "check_wheel" ["numbers"] (sp_f8 K):=Qp (st:=top 45) X G (iK (eY e2 28 rfl rfl)) (λ _ _ _ _ _ _=>ar1 λ _=>rfl) λ _ _ F=>F.okX JX (λ _ _ _ _ h=>Tu h) λ cdv A outer s H vs Q E hr h=>by
  have nd:=JX.nd;obtain ⟨Eh,h⟩:=Tt h;exact ⟨Fp K E Eh,(bH (aO j6 (aJ K rfl< #[v0]) ak (aN _)) (aD (di Xs cM rfl rfl k_NoHouse.1 k_NoHouse.2.1 #[cN])) aQ,
   jt m7 rfl (jc K rfl v0) ↑1 (aD (bH (fJ (PW.pt (iQ (cA K rfl (Gs> #[v1]) (λ _=>rfl)) (gU (j7 jO jO ak v1 (gR rfl g_GREATEST_ON_WHEEL.1 g_GREATEST_ON_WHEEL.2)))))) (aD (di Xs cM rfl rfl k_NoHouse.1 k_NoHouse.2.1 #[cN])) aQ))),h⟩
 obtain ⟨_,_,_,t_f42⟩:=wW (eY e5 0 rfl rfl);obtain ⟨a_f42,l,q,k_f42⟩:=iK (Yi (Yc (·[0]?) e4):Jt K "sums"=Ju (some 245) "sums" 44);have F_f42:=HW (st:=top 44) l q k_f42 t_f42;have o_f42:FnOk pWo w K mg base (iY pWo w) 5 _ _ ["signs","many","wheel"] (sp_f42 K):=F_f42.okX mY (λ _ _ _ _ h=>Pk h) λ cdv A outer s H vs Q E hr h=>by
  have nd:=mY.nd;obtain ⟨Eh,h⟩:=Pj h;exact ⟨wH K E Eh,(jo (i:=3) mY.nd rfl (Or.inr rfl) (lF (aO ju v2 dJ (aN _)) (gR (v:= .ref bu) rfl k_PLAIN_WHEEL.1 rfl) v2),
   bH (fJ (PW.pt (iQ (cA K rfl (Gs> #[v1]) (λ _=>rfl)) (gU (aO zV v1 ak (aN _)))))) (aD (di Xs cM rfl rfl k_NoHouse.1 k_NoHouse.2.1 #[cN])) aQ,
   bD (dH x_f8 hr (by decide) rfl (E:=E) (bZ λ _ _ z=>z) #[v3]),
   bD (dH x_f11 hr (by decide) rfl (E:=E) (bZ λ _ _ z=>z) #[aC eN v1 (aJ K rfl< #[v3])]),
   4&&cP eO,
   jt m7 rfl (cI rfl z_range #[aJ K rfl< #[v3]]) (pG (i:=5) mY.nd rfl (Or.inr rfl)) (jo (i:=6) mY.nd rfl (Or.inr rfl) (aC eN (aC bj (aC aY v5 ak) (aJ K rfl< #[v3])) v1),
   bD (pX K rfl PySem.F.plainAttrs_list PySem.F.slot_list_extend PySem.F.type_list_extend oh v4 #[[none,some 0,some 1,some 3,some 5,some 6] / ["rest","signs","many","numbers","turn","later"] / cI rfl z_range #[v1] / 44 / ["signs","many","wheel","numbers","doors","turn","later"] / (0 / ["rest","signs","many","numbers","turn","later"]) / dG / (Uq> #[v1,v2,v0,v3+v4,v5])])),
   aL (dH x_f16 hr (by decide) rfl (E:=E) (bZ λ _ _ z=>z) #[v4,[none,some 1] / ["turn","many"] / cI rfl z_range #[aJ K rfl< #[v3]] / 44 / ["signs","many","wheel","numbers","doors","turn","later"] / (0 / ["turn","many"]) / dG / aC eN v0 v1])),h⟩
 have xd_f42:CalXD pWo w K mg base 5 "sums" ["signs","many","wheel"] [V.non] (sp_f42 K):=⟨_,_,_,o_f42,F_f42.binds (es:=[Value.none]) (λ _ _ _ _ _ _ us hl=>ar2 (P:=λ us=> ∃k:Option (Array Value)->Sem (List (Str×Value)),bindArgs _ ⟨us,[]⟩=seqItems? _ >>= k/\k (some _)=pure (List.zip _ (HAppend.hAppend us [Value.none]))) (λ _ _=>⟨_,rfl,rfl⟩) us (by simpa using hl)), .cons rfl .nil,k_f42,mg_of X G a_f42⟩;have cd_f42:CalD pWo w K mg base 5 "sums" ["signs","many","wheel"] [V.non] (Ft K):=⟨_,_,_,o_f42.quiet,F_f42.binds (es:=[Value.none]) (λ _ _ _ _ _ _ us hl=>ar2 (P:=λ us=> ∃k:Option (Array Value)->Sem (List (Str×Value)),bindArgs _ ⟨us,[]⟩=seqItems? _ >>= k/\k (some _)=pure (List.zip _ (HAppend.hAppend us [Value.none]))) (λ _ _=>⟨_,rfl,rfl⟩) us (by simpa using hl)), .cons rfl .nil,k_f42,mg_of X G a_f42⟩;have x_f34:CalX pWo w K mg base 9 "guards" ["font","signs","wish","most"] (sp_f34 K):=Qp (st:=top 48) X G (iK (eY e2 31 rfl rfl)) (λ _ _ _ _ _ _=>WL λ _ _ _ _=>rfl) λ _ _ F=>F.okX Gq (λ _ _ _ _ h=>Pr h) λ cdv A outer s H vs Q E hr h=>by
  have nd:=Gq.nd;obtain ⟨Eh,h⟩:=Pq h;exact ⟨wJ K E Eh,(4&&cP eO,
   jt m7 rfl (yz rfl z_range #[ak,aC aY v3 ak]) ↑5 (6&&Ur> #[v0,Ca xd_f42 hr (by decide) rfl (E:=E) (bZ λ _ _ z=>z) #[v1,v5]],
   bD (v4++ #[v6]),
   bH (PW.pt (rA (aO ju v6 dJ (aN _)) (lC (aO zV v6 v2 (aN _))))) (aD (aL v4)) aQ),
   aL v4),h⟩
 have c_f34:=cq x_f34;have c_f5:10^"_law_refused"^["font","text","wish","most"]^sp_f5:=40 / 59 / JZ / TQ / G4 / (4&&cP eO,
   Ly (i:=5) Eh JZ.nd rfl rfl rfl k_BlotError.1 rfl rfl (λ _ _ hp=>(aD (bD (dH x_f34 hr (by decide) rfl (E:=Eh) hp #[v0,v1,v2,v3])))) (λ _ _=>(aD (4&&cP #[eV K rfl< #[v5,fH (v:= .ty "ValueError") (u:= .type "ValueError") rfl z_ValueError (by ac_nf) rfl],eV K rfl< #[v5,gR (v:= .ref jl) rfl k_NoHouse.1 rfl],eV K rfl< #[v5,gR (v:= .ref JT) rfl k_NoSign.1 rfl]]))),
   aL v4)
 have c_f10:8^"_law_far_of"^["font","text","many"]^sp_f10:=41 / 60 / Qn / PJ / wO / (3&&K6> #[v0,HX cd_f42 hr (by decide) rfl #[v1,v2]],
   bH (aO ju v3 dJ (aN _)) (aD (aL dJ)) aQ,
   aL (v3+ak))
 have F:=lO (st:=top 62) lL qL kL;exact F.ok Gr (λ _ _ _ _ h=>PQ h) λ cdv A outer s H vs Q E hr h=>by
  have nd:=Gr.nd;obtain ⟨Eh,h⟩:=PP h;exact ⟨wR K E Eh,(1&&wX> #[v0,ak],
   2&&cP #[aC aY ak (aC bj (gQ> #[v1,ak]) ak),aC aY ak (aC bj (gQ> #[v1,ak]) ak),ak],
   3&&aC aY ak (aC bj (gQ> #[v1,ak]) ak),
   bH (aO j6 (aC bj v1 ak) ak (aN _)) (2&&cP #[v2-ak,ak,ak],
   3&&aC aY ak (aC bj (gQ> #[v1,ak]) ak)) aQ,
   4&&Ut> #[wX> #[v0,ak],aC aY (v2-ak) ak],
   5&&Uu> #[wX> #[v0,ak],v2,v4],
   6&&W5> #[bW (rZ K rfl) v4 cQ (cR (aC aY (v2-ak) (aC bj (wX> #[v0,ak]) ak))),aC fL (wX> #[v0,ak]) ak],
   7&&W6> #[wX> #[v0,ak]],
   8&&wX> #[v0,ak],
   bH (PW.pt (iQ (aO j6 (aC bj v8 ak) ak (aN _)) (gU (aO lG (aJ K rfl< #[v6]) ak (aN _))))) (9&&aC bj (gQ> #[v8,ak]) (aC aY (aJ K rfl< #[v6]) ak),
   6&&aC bV (aC bV (bW m8 v6 cQ (cR v9)) (xu Ag v6 (aC bj (aC fL v8 ak) (aJ K rfl< #[v6])) (λ _ _=>rfl))) (bW m8 v6 (cR v9) cQ),
   aL (d9 (pU K rfl hr.units) (lR c_f5 hr (by decide) rfl #[v5,v6,v7,v3]) (cP #[j4,j4,j4]) (aN _))) aQ,
   10&&lR c_f34 hr (by decide) rfl #[v5,v6,v7,v3],
   bH (PW.pt (rA (fJ (cA K rfl (cu K rfl< #[yr,fH (v:= .ty "list") (u:= .type "list") rfl z_list (by ac_nf) rfl]) (λ _=>rfl))) (lC (fJ (j7 jO jO ak (aJ K rfl< #[yr]) v3))))) (aD (aL j4)) aQ,
   cI rfl z_range #[aJ K rfl< #[yr]]:: ↑11::(bH (PW.pt (rA (fJ (cA K rfl (Uv> #[yr-QD]) (λ _=>rfl))) (lC (aO xm (yr-QD) (lR c_f10 hr (by decide) rfl #[v5,v6,aC aY QD ak]) (aN _))))) (aD (aL j4)) aQ,
   bH (PW.pt (iQ (aO rH (aC aY QD ak) (aJ K rfl< #[yr]) (aN _)) (gU (PW.pt (rA (aO ju (yr-QD) dJ (aN _)) (lC (aO zV (yr-QD) v7 (aN _)))))))) (aD (aL j4)) aQ),
   bH (PW.pt (iQ (aO rH (aJ K rfl< #[yr]) v3 (aN _)) (iQ (aO Ha (yr-wZ pI ak) dJ (aN _)) (gU (aO rH (yr-wZ pI ak) v7 (aN _)))))) (aD (aL j4)) aQ,
   12&&cJ (nA K rfl) rfl z_list (by ac_nf) #[yr],
   bD (yr++ #[ak]),
   aL (Jv (d9 j6 (aC bj v1 ak) ak (aN _)) (jm (d9 (pU K rfl hr.units) (lR c_f34 hr (by decide) rfl #[v5,v6,v7,v3]) Xf (aN _))))),h⟩
end
theorem fin:PySem.Challenge.rw_blotsure_k62_guards.Holds:=by
 refine holds_law said λ said=>holds_open (q:=vw) (loose:=["sums"]) (Xt:=λ s=>xlAt vw [] s&&recOk [] s) (XP:=XL vw []) (Ya:=λ _=>ans) (YP:=λ _ h=> ∃K:Frag,K.In h/\obs K=ans) left (λ w s e=>⟨_,pC,e⟩) (λ w h h' ⟨K,X,e⟩ k=>⟨K,Frag.In.keeps X k,e⟩) (λ s e=>xl_of s (Bool.and_eq_true_iff.mp e).1) XL.keeps (by rfl) (by rfl) (by rfl) (λ s e=>recFacts_of (Bool.and_eq_true_iff.mp e).2) (by rfl) said (by ac_nf) ⟨rfl,rfl,rfl,rfl,rfl,by ac_nf⟩ ?hw ?hc
 case hw=>w_witness2
 rintro w s s' mg mb G ⟨K,X,e⟩;obtain ⟨_,_,_,t_PLAIN_WHEEL⟩:=wW (eY (Yc (·.2.2.2.2.1) e) 1 rfl rfl);have r0:=Yi (Yc (·.2.2.2.2.2[0]?) e);exact L2.Hl (n:=63) (k:=11) (x:="script") (CX:=λ _=>L2.Hm) (K:=λ _=>K) (YP:=λ _ h=>K.In h) (sp:=λ _=>sp_f43 K) rfl (by decide) rfl ⟨rfl,by decide,by decide⟩ (λ _ _ Y=>Y) (λ _ _ _ _ KX G hmg=>Qq KX G hmg e) (λ _ _ a ns hl _ hS=>⟨a,ns,rfl,L2.RefG.mk (mZ (eY (Yc (·.2.2.1) e) 3 rfl rfl)) (Yc (·.1) r0) (Yc (·.2.1) r0) ⟨Option.some.inj (Yc (·.2.2.1[0]?) r0),Yi (Yc (·.2.2.1[1]?) r0),trivial⟩,L2.JG t_PLAIN_WHEEL,hS,hl,λ _=>rfl⟩) (λ _ _ _ _ _ z=>z) w s s' mg mb G X
end Pg
open PySem PySem.W PyProof.Rows
theorem PySem.Challenge.cw_blotsure_k62_guards_holds : PySem.Challenge.rw_blotsure_k62_guards.Holds :=
 Pg.fin
