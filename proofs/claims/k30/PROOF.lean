import PyProof.Rows.All
import Wide.All
import OpenK.AllK
import Wide.FinOn
import Lean
import PyProof.EqAt
import PyProof.EqKinds
import PyProof.TupleCall
import PyProof.Rows.StrLawsPart
import PyProof.Rows.SortStr
import PyProof.Rows.SortWalk
import PyProof.Rows.SortRuns
import PyProof.Rows.SortShell
import KE.KItemsList
import KE.KDictList
import KE.KDictOf
import PyProof.DictUpdate
import PyProof.WalksMore
import PyProof.AttrMiss
import PyProof.IsiH_tuple
import PyProof.Rows.Range3
import KE.KIntText
import PyProof.StrCalls
import PyProof.StrBlock2
import PyProof.Rows.StrNews
import PyProof.StrLawsTight
import PyProof.Rows.StrSplitAre
import KE.KxLen
import PyProof.Rows.StrMul
import PyProof.Rows.StrJoinMade
import PyProof.Rows.StrItems
import PyProof.CollectIter
import PyProof.JoinWalk
import PyProof.ListStr
import PyProof.Rows.StrJoinRep
import KE.KRevIter
import PyProof.Rows.Tup
import PyProof.WalkInts
import PyProof.StrOps
import PyProof.EnumMake
import PyProof.Draws
import PyProof.Rows.CallKwBuiltin
import PyProof.MinMaxWalk
import KE.KEqDict
import PyProof.TupleOfStr
import PyProof.RangeFor
import PyProof.ListRange
import KE.RegMulBits
import PyProof.CollectStr
import PyProof.Rows.SeqMore
import PyProof.Rows.TupDisplay
import PyProof.ListMulRoad
import PyProof.IsiH_list
import PyProof.SetNew
import PyProof.SetRoads
import PyProof.Rows.StrClose3
import PySem.Challenge.RW_blotsure_k30_whole_houses_joined
abbrev Qb:=@List.getElem?_eq_getElem
abbrev Qr:=@List.length_map
abbrev Za:=@PySem.wpAny_bind
abbrev Zb:=@List.getD_eq_getElem?_getD
abbrev Zc:=@List.mem_map
abbrev Zd:=@PySem.Heap.get?_push_of_some
abbrev Ze:=@List.mem_singleton
abbrev Zf:=@List.getElem?_eq_some_iff
abbrev Zg:=@List.getElem?_map
abbrev Zh:=@PySem.wpAny_pure
abbrev Zi:=@Int.toNat_natCast
abbrev Zj:=@List.mem_of_getElem?
abbrev Zk:=@List.map_map
abbrev Zl:=@List.getElem_mem
abbrev Zm:=@PySem.Heap.lt_size
abbrev Zn:=@Nat.le_refl
abbrev Zo:=@PySem.Heap.get?_push_size
abbrev Zp:=@List.mem_cons
abbrev Zq:=@List.map_append
abbrev Zr:=@List.mem_cons_of_mem
abbrev Zs:=@Nat.lt_of_lt_of_le
abbrev Zt:=@Bool.false_ne_true
abbrev Zu:=@List.mem_iff_getElem
abbrev Zv:=@List.mem_append
abbrev Zw:=@Nat.le_trans
abbrev Zx:=@Option.some.inj
abbrev Zy:=@List.mem_cons_self
abbrev Zz:=@List.map_cons
abbrev Yb:=@List.getElem?_eq_none
abbrev Yc:=@Nat.ne_of_lt
abbrev Yd:=@Option.map_eq_some_iff
abbrev Ye:=@List.getElem?_append_left
abbrev Yf:=@List.size_toArray
abbrev Yg:=@List.mem_append_right
abbrev Yh:=@decide_eq_true
abbrev Yi:=@List.not_mem_nil
abbrev Yj:=@List.take_add_one
abbrev Yk:=@Array.length_toList
abbrev Yl:=@List.length_append
abbrev Ym:=@Bool.false_eq_true
abbrev Yn:=@congrArg
abbrev Yo:=@decide_eq_false
abbrev Yp:=@List.getElem?_append_right
abbrev Yq:=@List.nodup_append
abbrev Yr:=@List.idxOf_lt_length_of_mem
abbrev Ys:=@List.length_take
abbrev Yt:=@Array.getElem?_eq_getElem
abbrev Yu:=@Nat.zero_le
abbrev Yv:=@List.length_range
abbrev Yw:=@PySem.Obj.data_mapFields
abbrev Yx:=@Int.toNat_of_nonneg
abbrev Yy:=@List.take_length
abbrev Yz:=@PySem.PassesOwn.never
abbrev Xa:=@Nat.lt_of_le_of_lt
abbrev Xb:=@PySem.F.excBase_ValueError
abbrev Xc:=@PySem.Heap.SameBut.update
abbrev Xd:=@List.append_nil
abbrev Xe:=@PySem.wpAny_mono
abbrev Xf:=@List.getElem_map
abbrev Xg:=@List.map_inj_right
abbrev Xh:=@Nat.le_of_lt
abbrev Xi:=@PySem.wpAny_newObj_type
abbrev Xj:=@PySem.wpAny_call_entry
abbrev Xk:=@bne_self_eq_false
abbrev Xl:=@List.pairwise_map
abbrev Xm:=@PySem.Heap.get?_update_self
abbrev Xn:=@List.mem_range
abbrev Xo:=@List.mem_append_left
abbrev Xp:=@PySem.sizeLine_eq
abbrev Xq:=@PyProof.Rows.wpS_bind
abbrev Xr:=@Array.getElem?_toList
abbrev Xs:=@PySem.F.plainAttrs_list
abbrev Xu:=@List.map_congr_left
abbrev Xv:=@List.nodup_cons
abbrev Xw:=@Bool.and_eq_true
abbrev Xx:=@List.length_cons
abbrev Xy:=@List.take_of_length_le
abbrev Xz:=@Nat.mul_comm
abbrev Wa:=@PySem.F.slot_list_append
abbrev Wb:=@PySem.F.type_list_append
abbrev Wc:=@List.length_nil
abbrev Wd:=@Nat.lt_irrefl
abbrev We:=@List.eq_nil_of_length_eq_zero
abbrev Wg:=@PySem.Heap.get?_update_other
abbrev Wh:=@Int.emod_lt_of_pos
abbrev Wi:=@PySem.wpAny_holding
abbrev Wj:=@PyProof.Rows.callWith_type1
abbrev Wl:=@Nat.lt_or_ge
abbrev Wm:=@PySem.wpAny_setField
abbrev Wn:=@PySem.W.kia_one
abbrev Wo:=@List.find?_cons
abbrev Wp:=@Int.emod_nonneg
abbrev Wq:=@Array.getElem?_eq_none
abbrev Wr:=@List.length_pos_of_mem
abbrev Ws:=@or_false
abbrev Wt:=@List.drop_eq_getElem_cons
abbrev Wu:=@List.filterMap_cons
abbrev Wv:=@PySem.wpAny_truthy_bool
abbrev Ww:=@of_decide_eq_true
abbrev Wx:=@List.append_assoc
abbrev Wy:=@List.length_singleton
abbrev Wz:=@PySem.Obj.isFreed_of_fields
set_option Elab.async false
set_option linter.all false
set_option maxRecDepth 100000
noncomputable section
local macro_rules | `(tactic| ac_rfl) => `(tactic| exact ⟨rfl,rfl,rfl,by decide+kernel,rfl,by decide+kernel,by decide+kernel⟩)
local macro_rules | `(tactic| ac_nf) => `(tactic| decide+kernel)
theorem oI {α:Sort _} {a:α} {p:Prop}:a=a\/p:=.inl rfl
set_option maxHeartbeats 4000000
local macro_rules | `(tactic| rfl') => `(tactic| first | lia | omega)
namespace L2
open PySem
def cT (s:Stmt):Arguments:=match s with
 | .FunctionDef _ a _ _ _ _ _ _ _ _=>a
 | _=>{ posonlyargs:=[],args:=[],vararg:=none,kwonlyargs:=[],kw_defaults:=[],kwarg:=none,defaults:=[] }
def c7 (s:Stmt):List Stmt:=match s with
 | .FunctionDef _ _ b _ _ _ _ _ _ _=>b
 | _=>[]
def aC (s:Stmt):Scope:=match s with
 | .FunctionDef _ _ _ _ _ _ sc _ _ _=>sc
 | _=>{ kind:= .function,names:=[],isGenerator:=false,isCoroutine:=false }
end L2
abbrev pW:=PySem.Challenge.pw_blotsure_k30_whole_houses_joined
abbrev L1S:=List (PySem.Str×Int)
abbrev L2S:=List L1S
namespace Pg
open PySem L2 PySem.W
set_option maxHeartbeats 0
def top (i:Nat):Stmt:=pW.main.body.getD i (.Pass ⟨0,0,0,0⟩)
def JC (as:List Addr) (h:Heap):Frag:=as.filterMap λ a=>(h.get? a).map λ o=>(a,o)
theorem qP {h:Heap}: ∀ {as:List Addr},(JC as h).In h
 | [],_,_,e=>nomatch e
 | a::as,b,o,e=>by
  unfold JC at e;rw [Wu] at e
  cases q:h.get? a with
  | none=>rw [q] at e;exact qP (as:=as) b o e
  | some o'=>
   rw [q] at e;simp only [Option.map_some,List.lookup_cons] at e;split at e
   ·rename_i z;rw [eq_of_beq z,q];exact e
   ·exact qP (as:=as) b o e
abbrev DO:=Str×Str×Arguments×FuncBody×Scope×Addr×List (Str×Addr)×Addr×Bool×Bool
def JD (K:Frag) (n:Str):Option (Option Addr×DO):=match nsIn K mainGlobals n with
 | some (some (.ref f))=>match K.lookup f with
  | some ⟨_,_, .func d,_⟩=>(match d.defaults with | .none=>some none | .ref t=>some (some t) | _=>none).map λ t=>(t,d.name,d.qualname,d.params,d.body,d.scope,d.globals,d.closure,d.builtins,codeIn K d.code n,keepIn K (.ref f))
  | _=>none
 | _=>none
def JF (t:Option Addr) (n:Str) (i:Nat):Option (Option Addr×DO):=some (t,n,n,cT (top i), .stmts (c7 (top i)),aC (top i),mainGlobals,[],builtinsNs,true,true)
def QK (K:Frag) (C:Addr):Bool×List (Option (Option Value))×List (Option Bool):=
 (excIn K C [.type "ValueError", .type "Exception", .type "BaseException", .type "object"] "ValueError.__new__",[findIn K (.ref C) "__getattribute__",findIn K (.ref C) "__getattr__",findIn K (.ref C) "__class__",specialIn K (.builtin "object.__class__") "__get__"],[takesIn K (.builtin "object.__class__"),mroIn K C (.type "object"),subIn K (.ref C) (.type "BaseException")])
def Qz:Bool×List (Option (Option Value))×List (Option Bool):=(true,[some (some (.builtin "BaseException.__getattribute__")),some none,some (some (.builtin "object.__class__")),some (some (.builtin "getset_descriptor.__get__"))],[some true,some true,some true])
def QL (K:Frag) (a:Addr):Option (Value×List Value):=match K.lookup a with
 | some ⟨c,_, .seq its _,_⟩=>some (c,its.toList)
 | _=>none
def nms:List Str:=(["isinstance","bool","int","len","str","ord","tuple","sorted","range","enumerate","set","list","any","LEFT_OUT","MOST_ROOMS","GREATEST_ON_WHEEL","BlotError","NoHouse","PLAIN_WHEEL"]:List String).map Str.ofString
def Rr:List (Option (Option Value)):=[some none,some none,some none,some none,some none,some none,some none,some none,some none,some none,some none,some none,some none,some (some (.int 37 189)),some (some (.int 40 243)),some (some (.int 1000 349)),some (some (.ref 38)),some (some (.ref 51)),some (some (.ref 127))]
def QB:List (Str×Nat):=((["is_whole","is_sign","check_rooms","check_room","made_doors","made_ends","make_house","room_behind","goes","takes","door_to_depth","depths","tail","beginnings","numbers_of","book","check_wheel","sums_doors","leads_of_both","both","padded","_law_cell_at","_law_signs","_law_house","_law_door","_law_text","_law_state","_law_on","_law_table","_law_tail","_law_made","_law_part","law"]:List String).map Str.ofString).zip [2,3,10,13,11,12,9,15,14,16,19,18,20,25,26,24,28,29,31,30,32,34,35,36,37,38,39,40,41,42,43,44,45]
def obs (K:Frag):=(nms.map (nsIn K mainGlobals),QB.map (λ d=>JD K d.1),[38,51].map (QK K),[JD K "sums"],[147,127].map (QL K))
def ans:List (Option (Option Value))×List (Option (Option Addr×DO))×List (Bool×List (Option (Option Value))×List (Option Bool))×List (Option (Option Addr×DO))×List (Option (Value×List Value)):=(Rr,QB.map (λ d=>JF none d.1 d.2),[Qz,Qz],[JF (some 147) "sums" 27],[some (.type "tuple",[.none]),some (.type "tuple",[.int 1 347])])
def vw:Program:={ pW with main:={ pW.main with body:=[1,2,3,5,6,8,9,10,11,12,13,14,15,16,18,19,20,22,23,24,25,26,28,29,30,31,32,34,35,36,37,38,39,40,41,42,43,44,45].filterMap (pW.main.body[·]?) } }
theorem said:PySem.Challenge.rw_blotsure_k30_whole_houses_joined.wellSaid=true:=by kernel_rfl
theorem left:LeftO pW vw ["sums"] (λ s=>xlAt vw [] s&&recOk [] s) (λ s=>obs (JC [2,3,15,17,18,20,21,22,24,25,27,28,29,36,37,38,39,42,49,50,51,54,57,58,59,61,62,64,65,66,68,69,71,72,73,75,76,78,79,80,82,83,85,86,87,89,90,92,93,94,96,97,99,100,101,103,104,106,107,108,111,112,113,115,116,118,119,120,122,123,125,126,127,128,131,132,133,135,136,138,139,140,142,143,145,146,147,148,151,152,153,155,156,158,159,160,163,164,165,168,169,170,172,173,175,176,177,180,181,182,184,185,187,188,189,191,192,194,195,196,199,200,201,203,204,206,207,208,210,211,213,214,215,217,218,220,221,222,224,225,227,228,229,232,233,234,236,237,239,240,241,243,244,246,247,248,250,251,253,254,255,258,259] s.heap)) (λ _=>ans) 3212:=λ w=>by kernel_rfl
end Pg
set_option Elab.async false
set_option linter.all false
set_option maxRecDepth 100000
namespace L2
open PySem PySem.Spec PyProof.Rows
abbrev Key:=Sum Int Str
def mC:Key->Value->Bool
 | .inl k,v=>Value.isInt k v
 | .inr x,v=>Value.isStrOf x v
def QM (w:World):Key->Int
 | .inl k=>hashInt k
 | .inr x=>hashStr w x
theorem bB: ∀ {k:Key} {v:Value},mC k v=true->(∃i t,k=Sum.inl i/\v=Value.int i t)\/(∃x t,k=Sum.inr x/\v=Value.str x t)
 | .inl i,v,h=>by
  obtain ⟨t,e⟩:=Value.isInt_shape (k:=i) (v:=v) h;exact .inl ⟨i,t,rfl,e⟩
 | .inr x,v,h=>by
  obtain ⟨t,e⟩:=Value.isStrOf_shape (x:=x) (v:=v) h;exact .inr ⟨x,t,rfl,e⟩
theorem zH (i:Int) (t:Tok):mC (.inl i) (.int i t)=true:=by simp [mC,Value.isInt]
theorem zJ (x:Str) (t:Tok):mC (.inr x) (.str x t)=true:=by simp [mC,Value.isStrOf]
theorem JG (a b:Int):decide ((Sum.inl a:Key)=Sum.inl b)=(a==b):=by
 by_cases e:a=b
 ·subst e;simp
 ·have h: ¬ (Sum.inl a:Key)=Sum.inl b:=λ q=>e (Sum.inl.inj q)
  rw [Yo h];exact (beq_eq_false_iff_ne.mpr e).symm
theorem JH (a b:Str):decide ((Sum.inr a:Key)=Sum.inr b)=decide (a=b):=by
 by_cases e:a=b
 ·subst e;simp
 ·have h: ¬ (Sum.inr a:Key)=Sum.inr b:=λ q=>e (Sum.inr.inj q)
  rw [Yo h,Yo e]
theorem JK (a:Int) (b:Str):decide ((Sum.inl a:Key)=Sum.inr b)=false:=Yo (λ q=>nomatch q)
theorem JL (a:Str) (b:Int):decide ((Sum.inr a:Key)=Sum.inl b)=false:=Yo (λ q=>nomatch q)
def bI (prog:Program) (w:World):PySem.KeyKind prog w Key where
 is:=mC
 hash:=QM w
 inj:=λ v a b ha hb=>by
  rcases bB ha with ⟨i,t,rfl,rfl⟩ | ⟨x,t,rfl,rfl⟩
  ·rcases bB hb with ⟨j,u,rfl,e⟩ | ⟨y,u,rfl,e⟩
   ·injection e with e1 _;rw [e1]
   ·exact nomatch e
  ·rcases bB hb with ⟨j,u,rfl,e⟩ | ⟨y,u,rfl,e⟩
   ·exact nomatch e
   ·injection e with e1 _;rw [e1]
 byValue:=λ k v h=>by
  rcases bB h with ⟨i,t,rfl,rfl⟩ | ⟨x,t,rfl,rfl⟩<;>rfl
 pyHash:=λ hv h=>by
  rcases bB hv with ⟨i,t,rfl,rfl⟩ | ⟨x,t,rfl,rfl⟩
  ·exact wpAny_pyHash_int h
  ·exact wpAny_pyHash_str h
 eqBool:=λ hu hv h=>by
  rcases bB hu with ⟨i,t,rfl,rfl⟩ | ⟨x,t,rfl,rfl⟩
  ·rcases bB hv with ⟨j,u,rfl,rfl⟩ | ⟨y,u,rfl,rfl⟩
   ·rw [JG] at h;exact wpAny_eqBool_int h
   ·rw [JK] at h;exact SeqAt.EqAt.int_str i t y u _ _ _ _ h
  ·rcases bB hv with ⟨j,u,rfl,rfl⟩ | ⟨y,u,rfl,rfl⟩
   ·rw [JL] at h;exact SeqAt.EqAt.str_int x t j u _ _ _ _ h
   ·rw [JH] at h;exact wpAny_eqBool_str h
 «strs»:=λ k x t v h=>by
  rcases bB h with ⟨i,u,rfl,e⟩ | ⟨y,u,rfl,e⟩
  ·exact nomatch e
  ·injection e with e1 _
   subst e1
   cases v<;>rfl
theorem gZ (prog:Program) (w:World) (k:Key) (v:Value):(bI prog w).is k v=mC k v:=rfl
theorem u0 (prog:Program) (w:World) (i:Int) (t:Tok):(bI prog w).is (.inl i) (.int i t)=true:=zH i t
theorem u5 (prog:Program) (w:World) (x:Str) (t:Tok):(bI prog w).is (.inr x) (.str x t)=true:=zJ x t
inductive V where
 | non | bl (b:Bool) | int (i:Int) | str (x:Str) | byt (b:Array UInt8) | flt (b:UInt64) | ref (a:Addr) | ty (n:String)
 deriving DecidableEq
def RelV:V->Value->Prop
 | .non,u=>u=Value.none
 | .bl b,u=>u=Value.bool b
 | .int i,u=> ∃t,u=Value.int i t
 | .str x,u=> ∃t,u=Value.str x t
 | .byt b,u=> ∃t,u=Value.bytes b t
 | .flt b,u=> ∃t,u=Value.float b t
 | .ref a,u=>u=Value.ref a
 | .ty n,u=>u=Value.type n
abbrev Vals:List V->List Value->Prop:=Paired RelV
theorem Vals.length {xs:List V} {us:List Value} (r:Vals xs us):xs.length=us.length:=Paired.length r
theorem Vals.get: ∀ {xs:List V} {us:List Value} {i:Nat} {x:V},Vals xs us->xs[i]? =some x-> ∃u,us[i]? =some u/\RelV x u
 | _,_,_,_, .nil,e=>by simp at e
 | _,_,0,_, .cons r _,e=>by simp at e;subst e;exact ⟨_,rfl,r⟩
 | _,_,i+1,x, .cons _ t,e=>by
  obtain ⟨u,h1,h2⟩:=Vals.get (i:=i) (x:=x) t (by simpa using e);exact ⟨u,by simpa using h1,h2⟩
theorem Vals.set {x:V} {u:Value} (r:RelV x u): ∀ {xs:List V} {us:List Value} (i:Nat),Vals xs us->Vals (xs.set i x) (us.set i u)
 | _,_,_, .nil=> .nil
 | _,_,0, .cons _ t=> .cons r t
 | _,_,i+1, .cons q t=> .cons q (Vals.set r i t)
theorem Vals.append: ∀ {xs ys:List V} {us ws:List Value},Vals xs us->Vals ys ws->Vals (xs++ys) (us++ws)
 | _,_,_,_, .nil,s=>s
 | _,_,_,_, .cons r t,s=> .cons r (Vals.append t s)
theorem Vals.take: ∀ {xs:List V} {us:List Value} (n:Nat),Vals xs us->Vals (xs.take n) (us.take n)
 | _,_,0,_=> .nil
 | _,_,_+1, .nil=> .nil
 | _,_,n+1, .cons r t=> .cons r (Vals.take n t)
theorem Vals.drop: ∀ {xs:List V} {us:List Value} (n:Nat),Vals xs us->Vals (xs.drop n) (us.drop n)
 | _,_,0,r=>r
 | _,_,_+1, .nil=> .nil
 | _,_,n+1, .cons _ t=>Vals.drop n t
def RelO:Option V->Option Value->Prop
 | some v,some u=>RelV v u
 | none,none=>True
 | _,_=>False
def KV {κ:Type}:List (κ×V)->List (κ×Value)->Prop:=Paired λ (p:κ×V) (q:κ×Value)=>p.1=q.1/\RelV p.2 q.2
def kV:Key->V
 | .inl i=> .int i
 | .inr x=> .str x
inductive HO where
 | lst (xs:List V)
 | tup (xs:List V)
 | dK (kvs:List (Key×V)) | dT (kvs:List (List Key×V))
 | set (S:Int->Bool) (n:Nat)
 | ins (C dx:Addr) (fs:List (Str×V))
 | own (x:Addr)
 | xd (fs:List (Str×V))
 | met (f x:Addr)
 | rng (lo hi:Int)
 | frz (o:Obj) (u:HO)
 | tbl (ps:Array Value)
 | ext (φ:Heap->Prop)
abbrev Hp:=Addr->Option HO
def upd (H:Hp) (a:Addr) (o:HO):Hp:=λ b=>if b=a then some o else H b
theorem au {H:Hp} {a:Addr} {o:HO}:upd H a o a=some o:=by unfold upd;rw [if_pos rfl]
theorem aD {H:Hp} {a b:Addr} {o:HO} (h:b≠a):upd H a o b=H b:=by unfold upd;rw [if_neg h]
theorem Ga {H:Hp} {a:Addr} {o u:HO}:upd (upd H a o) a u=upd H a u:=by
 funext b;unfold upd;split<;>rfl
theorem du {H:Hp} {a b:Addr} {o u:HO} (h:H a=some o) (h':H b=some u) (d:o≠u):a≠b:=by
 intro e;subst e;rw [h] at h';exact d (Zx h')
theorem aU {H:Hp} {a b:Addr} {o:HO} (h:H a=some o) (h':H b=none):a≠b:=by
 intro e;subst e;rw [h] at h';cases h'
section
variable (P:Program) (w:World)
def ObjOk (H:Hp) (h:Heap) (a:Addr):HO->Prop
 | .lst xs=>xs.length<=sizeLine/\ ∃ (its:List Value) (n:Nat),Vals xs its/\h.get? a=some { cls:= .type "list",data:= .seq its.toArray n }
 | .tup xs=>xs.length<=sizeLine/\ ∃its:List Value,Vals xs its/\IsTup h a its.toArray
 | .dK kvs=>kvs.length<=sizeLine/\(a==sysModules)=false/\ ∃vs,KV kvs vs/\h.DictOf (bI P w) a vs
 | .dT kvs=>kvs.length<=sizeLine/\(a==sysModules)=false/\ ∃xs:List (List Key×Addr×Value),
   Paired (λ (p:List Key×V) (q:List Key×Addr×Value)=>p.1=q.1/\H q.2.1=some (.tup (p.1.map kV))/\RelV p.2 q.2.2) kvs xs/\
   ∃o es ep,h.get? a=some o/\o.ExactDict/\o.data= .dict es ep/\es.toList=xs.map (entryOfKey (tupleKind (bI P w)))/\(xs.map (·.1)).Nodup
 | .set S n=>h.SetOf (intKind P w) a S n
 | .ins C dx fs=>H dx=some (.own a)/\fs.length<=1000/\dx≠a/\h.get? a=some (PySem.W.instObj C dx)/\
   ∃mA,h.Ns1 dx mA/\(∀f,RelO (fs.lookup f) (mA f))/\PySem.Within mA (fs.map (·.1))
 | .own _=> ∃o,h.get? a=some o
 | .xd fs=> ∃mA,h.Ns1 a mA/\ ∀f,RelO (fs.lookup f) (mA f)
 | .rng lo hi=> ∃t u v,h.get? a=some { cls:= .type "range",data:= .fields #[.int lo t, .int hi u, .int 1 v] }
 | .frz o u=>h.get? a=some o/\ObjOk H h a u
 | .tbl ps=>h.get? a=some { cls:= .none,data:= .fields ps }
 | .met f x=>h.get? a=some (PySem.W.methodObj (.ref f) (.ref x))
 | .ext φ=>φ h/\(∃o,h.get? a=some o)/\ ∀h1 h2:Heap,φ h1->(∀o,h1.get? a=some o->h2.get? a=some o)->φ h2
def HOk (H:Hp) (h:Heap):Prop:= ∀a o,H a=some o->ObjOk P w H h a o
end
section
variable {P:Program} {w:World} {H H':Hp} {h h':Heap} {a:Addr} {o:HO}
theorem ObjOk.lt (x:ObjOk P w H h a o):a<h.objs.size:=by
 cases o with
 | lst xs=>obtain ⟨_,_,_,_,e⟩:=x;exact Zm e
 | tup xs=>obtain ⟨_,_,_,p⟩:=x;exact p.lt
 | dK kvs=>obtain ⟨_,_,_,_,o,_,_,e,_⟩:=x;exact Zm e
 | dT kvs=>obtain ⟨_,_,_,_,o,_,_,e,_⟩:=x;exact Zm e
 | set S n=>obtain ⟨o,_,_,_,e,_⟩:=x;exact Zm e
 | ins C dx fs=>obtain ⟨_,_,_,e,_⟩:=x;exact Zm e
 | own y=>obtain ⟨_,e⟩:=x;exact Zm e
 | xd fs=>obtain ⟨_,⟨_,_,_,e,_⟩,_⟩:=x;exact Zm e
 | rng lo hi=>obtain ⟨_,_,_,e⟩:=x;exact Zm e
 | frz ob u=>obtain ⟨e,_⟩:=x;exact Zm e
 | tbl ps=>exact Zm (show h.get? a=some _ from x)
 | met f y=>exact Zm (show h.get? a=some _ from x)
 | ext φ=>obtain ⟨_,⟨_,e⟩,_⟩:=x;exact Zm e
theorem Paired.mapP {α β:Type} {F G:α->β->Prop}: ∀ {l₁:List α} {l₂:List β},Paired F l₁ l₂->(∀a b,F a b->G a b)->Paired G l₁ l₂
 | _,_, .nil,_=> .nil
 | _,_, .cons r t,f=> .cons (f _ _ r) (Paired.mapP t f)
theorem ObjOk.stay (x:ObjOk P w H h a o) (k: ∀b u,(b=a\/H b=some (.own a))->h.get? b=some u->h'.get? b=some u)
  (ho: ∀b,H b=some (.own a)->H' b=some (.own a)) (ht: ∀b xs,H b=some (.tup xs)->H' b=some (.tup xs)):ObjOk P w H' h' a o:=by
 induction o with
 | lst xs=>obtain ⟨z,its,n,r,e⟩:=x;exact ⟨z,its,n,r,k _ _ (.inl rfl) e⟩
 | tup xs=>obtain ⟨z,its,r,ob,e,c⟩:=x;exact ⟨z,its,r,ob,k _ _ (.inl rfl) e,c⟩
 | dK kvs=>obtain ⟨z,y,vs,r,ob,es,ep,e,c⟩:=x;exact ⟨z,y,vs,r,ob,es,ep,k _ _ (.inl rfl) e,c⟩
 | dT kvs=>
  obtain ⟨z,y,xs,r,ob,es,ep,e,c⟩:=x;exact ⟨z,y,xs,Paired.mapP r λ p q z=>⟨z.1,ht _ _ z.2.1,z.2.2⟩,ob,es,ep,k _ _ (.inl rfl) e,c⟩
 | set S n=>obtain ⟨ob,es,ep,t,e,c⟩:=x;exact ⟨ob,es,ep,t,k _ _ (.inl rfl) e,c⟩
 | ins C dx fs=>
  obtain ⟨d,z,ne,e,mA,⟨od,es,ep,e2,c⟩,r⟩:=x;exact ⟨ho _ d,z,ne,k _ _ (.inl rfl) e,mA,⟨od,es,ep,k _ _ (.inr d) e2,c⟩,r⟩
 | own y=>obtain ⟨ob,e⟩:=x;exact ⟨ob,k _ _ (.inl rfl) e⟩
 | xd fs=>obtain ⟨mA,⟨od,es,ep,e,c⟩,r⟩:=x;exact ⟨mA,⟨od,es,ep,k _ _ (.inl rfl) e,c⟩,r⟩
 | rng lo hi=>obtain ⟨t,u,v,e⟩:=x;exact ⟨t,u,v,k _ _ (.inl rfl) e⟩
 | frz ob u ih=>obtain ⟨e,q⟩:=x;exact ⟨k _ _ (.inl rfl) e,ih q⟩
 | tbl ps=>
  have e:h.get? a=some { cls:= .none,data:= .fields ps }:=x;show h'.get? a=some { cls:= .none,data:= .fields ps };exact k a _ (.inl rfl) e
 | met f y=>
  have e:h.get? a=some (PySem.W.methodObj (.ref f) (.ref y)):=x;show h'.get? a=some (PySem.W.methodObj (.ref f) (.ref y));exact k a _ (.inl rfl) e
 | ext φ=>obtain ⟨p,⟨o,e⟩,st⟩:=x;exact ⟨st _ _ p λ o q=>k _ _ (.inl rfl) q,⟨o,k _ _ (.inl rfl) e⟩,st⟩
theorem HOk.lt (x:HOk P w H h) (e:H a=some o):a<h.objs.size:=(x a o e).lt
theorem HOk.fresh (x:HOk P w H h) (e:h.objs.size<=a):H a=none:=by
 cases q:H a with
 | none=>rfl
 | some u=>exact absurd (Zs (x.lt q) e) (Wd _)
theorem HOk.kept (x:HOk P w H h) (k: ∀b u,h.get? b=some u->h'.get? b=some u):HOk P w H h':=λ a o e=>
 (x a o e).stay (λ b u _ q=>k b u q) (λ _ q=>q) λ _ _ q=>q
theorem HOk.laid (x:HOk P w H h) (k: ∀b u,h.get? b=some u->h'.get? b=some u) (hp:h.objs.size<=a) (new:ObjOk P w (upd H a o) h' a o):HOk P w (upd H a o) h':=λ b u e=>by
 have hn:=x.fresh hp;by_cases hb:b=a
 ·subst hb;rw [au] at e;cases e;exact new
 ·rw [aD hb] at e;exact (x b u e).stay (λ c v _ q=>k c v q) (λ c q=>by rw [aD (aU q hn)];exact q) λ c xs q=>by rw [aD (aU q hn)];exact q
end
def Rd (H:Hp) (a:Addr) (u:HO):Prop:=H a=some u\/ ∃o,H a=some (.frz o u)
theorem Rd.of {H:Hp} {a:Addr} {u:HO} (h:H a=some u):Rd H a u:= .inl h
theorem Rd.ok {P:Program} {w:World} {H:Hp} {h:Heap} {a:Addr} {u:HO} (r:Rd H a u) (x:HOk P w H h):ObjOk P w H h a u:=by
 rcases r with r | ⟨o,r⟩
 ·exact x a u r
 ·obtain ⟨_,q⟩:=x a _ r;exact q
def Nz:Option HO->Prop
 | some (.lst _)=>True
 | some (.dK _)=>True
 | some (.dT _)=>True
 | some (.set _ _)=>True
 | some (.ins _ _ _)=>True
 | some (.ext _)=>True
 | _=>False
section
variable {P:Program} {w:World} {H:Hp} {h h':Heap} {x e:Addr} {o':HO}
theorem HOk.write (ok:HOk P w H h) (mu:Nz (H x)) (he:e=x\/H e=some (.own x)) (k: ∀b u,b≠e->h.get? b=some u->h'.get? b=some u) (heo: ∃u,h'.get? e=some u)
  (new:ObjOk P w (upd H x o') h' x o'):HOk P w (upd H x o') h':=λ b u q=>by
 have nown: ∀c y,H c=some (.own y)->c≠x:=λ c y r z=>by subst z;rw [r] at mu;exact mu
 have ntup: ∀c xs,H c=some (.tup xs)->c≠x:=λ c xs r z=>by subst z;rw [r] at mu;exact mu
 by_cases hb:b=x
 ·subst hb;rw [au] at q;cases q;exact new
 ·rw [aD hb] at q;by_cases hbe:b=e
  ·have q':H b=some (.own x):=by
    rcases he with z | z
    ·exact absurd (hbe.trans z) hb
    ·rw [hbe];exact z
   rw [q] at q';cases q';obtain ⟨v,hv⟩:=heo;exact ⟨v,by rw [hbe];exact hv⟩
  ·refine (ok b u q).stay (λ c v hc r=>k c v ?_ r) (λ c r=>by rw [aD (nown c b r)];exact r) λ c xs r=>by rw [aD (ntup c xs r)];exact r
   rcases hc with rfl | hc
   ·exact hbe
   ·rintro rfl;rcases he with z | z
    ·exact nown c b hc z
    ·rw [hc] at z;cases z;exact hb rfl
end
structure Un (fs ex:List Addr) (H H':Hp) (h h':Heap):Prop where
 keep: ∀b o,h.get? b=some o->H b=none->b∉fs->b∉ex->h'.get? b=some o
 slot: ∀b o,h.get? b=some o->H b=none->b∈fs->b∉ex-> ∃sl,h'.get? b=some { o with slots:=sl }
 free: ∀b o,h.get? b=some o->H b=none->b∉ex->H' b=none
 there: ∀b o,h.get? b=some o->b∉ex-> ∃o',h'.get? b=some o'
 tups: ∀b xs,H b=some (.tup xs)->H' b=some (.tup xs)
 frzs: ∀b o u,H b=some (.frz o u)->H' b=some (.frz o u)
 tbls: ∀b ps,H b=some (.tbl ps)-> ∃more,H' b=some (.tbl (ps++more))
section
variable {fs fs' ex ex':List Addr} {H H1 H2:Hp} {h h1 h2 h':Heap} {a x e:Addr} {o:HO}
theorem Un.any (u:Un fs ex H H1 h h1) {b:Addr} {ob:Obj} (q:h.get? b=some ob) (n:H b=none) (hx:b∉ex): ∃sl,h1.get? b=some { ob with slots:=sl }:=by
 by_cases hb:b∈fs
 ·exact u.slot b ob q n hb hx
 ·exact ⟨ob.slots,u.keep b ob q n hb hx⟩
theorem Un.trans (a:Un fs ex H H1 h h1) (b:Un fs ex H1 H2 h1 h2):Un fs ex H H2 h h2 where
 keep:=λ c ob q n hc hx=>b.keep c ob (a.keep c ob q n hc hx) (a.free c ob q n hx) hc hx
 slot:=λ c ob q n hc hx=>by
  obtain ⟨sl,e1⟩:=a.slot c ob q n hc hx;obtain ⟨sl',e2⟩:=b.slot c _ e1 (a.free c ob q n hx) hc hx;exact ⟨sl',e2⟩
 free:=λ c ob q n hx=>by
  obtain ⟨o',e1⟩:=a.there c ob q hx;exact b.free c o' e1 (a.free c ob q n hx) hx
 there:=λ c ob q hx=>by
  obtain ⟨o',e1⟩:=a.there c ob q hx;exact b.there c o' e1 hx
 tups:=λ c xs q=>b.tups c xs (a.tups c xs q)
 frzs:=λ c ob xs q=>b.frzs c ob xs (a.frzs c ob xs q)
 tbls:=λ c ps q=>by
  obtain ⟨m1,e1⟩:=a.tbls c ps q;obtain ⟨m2,e2⟩:=b.tbls c _ e1;exact ⟨m1++m2,by rw [e2,Array.append_assoc]⟩
theorem Un.kept (k: ∀b u,h.get? b=some u->h'.get? b=some u):Un fs ex H H h h':=
 ⟨λ b ob q _ _ _=>k b ob q,λ b ob q _ _ _=>⟨ob.slots,k b ob q⟩,λ _ _ _ n _=>n,λ b ob q _=>⟨ob,k b ob q⟩,λ _ _ q=>q,λ _ _ _ q=>q,λ _ ps q=>⟨#[],by rw [q];simp⟩⟩
theorem Un.refl:Un fs ex H H h h:=Un.kept λ _ _ q=>q
theorem Un.laid (k: ∀b u,h.get? b=some u->h'.get? b=some u) (hp:h.objs.size<=a) (hn:H a=none):Un fs ex H (upd H a o) h h' where
 keep:=λ b u q _ _ _=>k b u q
 slot:=λ b u q _ _ _=>⟨u.slots,k b u q⟩
 free:=λ b u q n _=>by rw [aD (Yc (Zs (Zm q) hp))];exact n
 there:=λ b u q _=>⟨u,k b u q⟩
 tups:=λ b xs q=>by rw [aD (aU q hn)];exact q
 frzs:=λ b u xs q=>by rw [aD (aU q hn)];exact q
 tbls:=λ b ps q=>⟨#[],by rw [aD (aU q hn),q];simp⟩
theorem Un.write (mu:Nz (H x)) (he:e=x\/H e=some (.own x)) (k: ∀b u,b≠e->h.get? b=some u->h'.get? b=some u) (heo: ∃u,h'.get? e=some u):Un fs ex H (upd H x o) h h':=by
 have hx: ∀b,H b=none->b≠x:=λ b n z=>by subst z;rw [n] at mu;exact mu
 have hb: ∀b,H b=none->b≠e:=λ b n z=>by
  subst z;rcases he with r | r
  ·exact hx b n r
  ·rw [n] at r;cases r
 have hm: ∀b u,H b=some u-> ¬Nz (some u)->b≠x:=λ b u q nm z=>by subst z;rw [q] at mu;exact nm mu
 refine ⟨λ b u q n _ _=>k b u (hb b n) q,λ b u q n _ _=>⟨u.slots,k b u (hb b n) q⟩,λ b u q n _=>by rw [aD (hx b n)];exact n,λ b u q _=> ?_,
  λ b xs q=>by rw [aD (hm b _ q λ z=>z)];exact q,λ b u xs q=>by rw [aD (hm b _ q λ z=>z)];exact q,λ b ps q=>⟨#[],by rw [aD (hm b _ q λ z=>z),q];simp⟩⟩
 by_cases hbe:b=e
 ·subst hbe;exact heo
 ·exact ⟨u,k b u hbe q⟩
theorem Un.mono (u:Un fs ex H H1 h h1) (hs: ∀b∈fs,b∈fs') (hx: ∀b∈ex,b∈ex'):Un fs' ex' H H1 h h1:=
 ⟨λ b ob q n hb he=>u.keep b ob q n (λ z=>hb (hs b z)) λ z=>he (hx b z),λ _ _ q n _ he=>u.any q n λ z=>he (hx _ z),λ b ob q n he=>u.free b ob q n λ z=>he (hx b z),λ b ob q he=>u.there b ob q λ z=>he (hx b z),u.tups,u.frzs,u.tbls⟩
end
def QC (h:Heap) (H:Hp):List Addr:=(List.range h.objs.size).filter λ a=>(H a).isSome
def qQ (h:Heap) (H:Hp):Heap:=PySem.W.hideAll h (QC h H)
theorem zK (h:Heap) (H:Hp):(qQ h H).objs.size=h.objs.size:=PySem.W.hideAll_size _ _
theorem Be {h:Heap} {H:Hp} {b:Addr} {o:Obj} (e:h.get? b=some o) (n:H b=none):(qQ h H).get? b=some o:=
 PySem.W.hideAll_get _ e λ hm=>by
  have q:(H b).isSome=true:=(List.mem_filter.mp hm).2;rw [n] at q;simp at q
theorem Gb {h:Heap} {H:Hp} {b:Addr} {o:Obj} (e:(qQ h H).get? b=some o):h.get? b=some o/\H b=none:=by
 have e':h.get? b=some o:=PySem.W.of_hideAll (QC h H) e;refine ⟨e',?_⟩
 cases q:H b with
 | none=>rfl
 | some x=>
  have hm:b∈QC h H:=List.mem_filter.mpr ⟨List.mem_range.mpr (Zm e'),by simp [q]⟩;have z:(qQ h H).get? b=none:=PySem.W.hideAll_none (QC h H) hm;rw [z] at e;cases e
def Ge (g h:Heap) (L:Addr):List (Addr×Obj):=(List.range h.objs.size).filterMap λ a=>if a=L\/(g.get? a).isSome=true then none else (h.get? a).map λ o=>(a,o)
def rest (g h:Heap) (L d:Addr):List (Addr×Obj):=(Ge g h L).filter λ p=>decide (p.1≠d)
structure Mod (K:W.Frag) (mg:Str->Option Value) (base:Heap):Prop where
 kin:K.In base
 glob:base.Ns mainGlobals mg
 blt: ∃mb,base.Ns builtinsNs mb/\ ∀x:Str,x≠"__name__"->mb x=bootBuiltins x
 nolimit:base.NoLimit
structure Cx where
 prog:Program
 w:World
 K:W.Frag
 mg:Str->Option Value
 base:Heap
 A:Around
 N:List Str
 s₀:Shared
 H₀:Hp
 env:Env
 outer:List Env
 stack:List Env
 ex:List Addr
 fn:Str->Bool
 calm:Bool
 pn:List (Addr×Obj)
 xe:Value->Shared->Prop
def frs (l:List Env):List Addr:=l.filterMap (·.frame)
abbrev Cx.fs (X:Cx):List Addr:=frs X.outer
def QQ (sc:Scope) (x:Str):Prop:=sc.names.lookup x=some .local\/sc.names.lookup x=some .cell\/sc.names.lookup x=some .free
def Loc (sc:Scope) (x:Str):Prop:=sc.names.lookup x=some .local\/sc.names.lookup x=some .cell
def Look (env:Env) (h:Heap) (m:Str->Option Value) (x:Str) (u:Value):Prop:=
 (env.kindOf x=some .local/\m x=some u)\/((env.kindOf x=some .cell\/env.kindOf x=some .free)/\ ∃c,env.cells.lookup x=some c/\h.IsCell c (some u))
structure Cx.Ok (X:Cx):Prop where
 mod:Mod X.K X.mg X.base
 kind:X.env.scope.kind= .function
 glob:X.env.globals=mainGlobals
 blt:X.env.builtins=builtinsNs
 above:X.s₀.heap.objs.size<=X.env.locals
 inj: ∀x y c,X.env.cells.lookup x=some c->X.env.cells.lookup y=some c->x=y
 has: ∀x,(X.env.kindOf x=some .cell\/X.env.kindOf x=some .free)-> ∃c,X.env.cells.lookup x=some c
 cab: ∀x c,X.fn x=true->X.env.cells.lookup x=some c->X.s₀.heap.objs.size<=c
 hd:X.calm=true->X.A.handled=none
 frames:X.A.frames=some X.stack
 stk:X.stack=X.outer\/(X.stack=X.env::X.outer/\X.env.frame=some X.env.locals)
 exf: ∀b∈X.ex,b≠X.env.locals/\ ∀x c,X.env.cells.lookup x=some c->c≠b
 bs: ∀b o,X.base.get? b=some o->X.s₀.heap.get? b=some o/\X.H₀ b=none
 bsz:X.base.objs.size<=X.s₀.heap.objs.size
 noex: ∀b o,X.base.get? b=some o->b∉X.ex
 exfs: ∀b∈X.ex,b∉X.fs
 funs:X.s₀.heap.FunFrames X.base X.outer
 frf: ∀b∈X.fs,X.H₀ b=none
structure Inv (X:Cx) (pins:List (Addr×Obj)) (σ:List (Option V)) (H:Hp) (s:Shared):Prop where
 ok:X.Ok
 os:s.os=X.s₀.os
 bare:AllBare s.gens
 base:Un X.fs X.ex X.H₀ H X.s₀.heap s.heap
 loc: ∃m,s.heap.Ns X.env.locals m/\ ∀ (i:Nat) (x:Str) (v:V),X.N[i]? =some x->σ[i]? =some (some v)->QQ X.env.scope x-> ∃u,RelV v u/\Look X.env s.heap m x u
 cell: ∀x c,X.env.cells.lookup x=some c-> ∃v,s.heap.IsCell c v
 free:H X.env.locals=none
 freeC: ∀x c,X.env.cells.lookup x=some c->H c=none
 pin: ∀p∈X.pn++pins,s.heap.get? p.1=some p.2/\H p.1=none/\p.1≠X.env.locals/\p.1∉X.fs/\ ∀v,p.2.data≠ .cell v
 hok:HOk X.prog X.w H s.heap
 len:σ.length=X.N.length
section
variable {X:Cx} {pins:List (Addr×Obj)} {σ:List (Option V)} {H H':Hp} {s:Shared} {h':Heap}
theorem Cx.Ok.nofr (ok:X.Ok) {b:Addr} {o:Obj} (e:X.base.get? b=some o):b∉X.fs:=λ hb=>by
 have:=(ok.funs.mem hb).1;rw [e] at this;cases this
theorem Inv.bs (I:Inv X pins σ H s): ∀b o,X.base.get? b=some o->s.heap.get? b=some o/\H b=none:=λ b o e=>
 ⟨I.base.keep b o (I.ok.bs b o e).1 (I.ok.bs b o e).2 (I.ok.nofr e) (I.ok.noex b o e),I.base.free b o (I.ok.bs b o e).1 (I.ok.bs b o e).2 (I.ok.noex b o e)⟩
theorem Inv.bk (I:Inv X pins σ H s): ∀b o,X.base.get? b=some o->s.heap.get? b=some o:=λ b o e=>(I.bs b o e).1
theorem Inv.mod (I:Inv X pins σ H s):Mod X.K X.mg X.base:=I.ok.mod
theorem Inv.kIn (I:Inv X pins σ H s):X.K.In s.heap:=I.ok.mod.kin.keeps I.bk
theorem Inv.lt (I:Inv X pins σ H s):X.env.locals<s.heap.objs.size:=let ⟨_,hn,_⟩:=I.loc;hn.lt
theorem Inv.sz (I:Inv X pins σ H s):X.s₀.heap.objs.size<=s.heap.objs.size:=Zw I.ok.above (Xh I.lt)
theorem Inv.nofs (I:Inv X pins σ H s) {a:Addr} (h:s.heap.objs.size<=a):a∉X.fs:=λ hb=>by
 obtain ⟨_,o,ho,_⟩:=I.ok.funs.mem hb;exact absurd (Zs (Zm ho) (Zw I.sz h)) (Wd _)
theorem Inv.cne (I:Inv X pins σ H s): ∀x c,X.env.cells.lookup x=some c->c≠X.env.locals:=λ x c e z=>by
 obtain ⟨v,o,ho,hd⟩:=I.cell x c e;obtain ⟨m,⟨o',es,ep,ho',hd',_⟩,_⟩:=I.loc;rw [z,ho'] at ho;cases ho;rw [hd'] at hd;cases hd
theorem Inv.funs (I:Inv X pins σ H s):s.heap.FunFrames X.base X.outer:=by
 have all: ∀ (l:List Env),(∀b∈frs l,b∈X.fs)->X.s₀.heap.FunFrames X.base l->s.heap.FunFrames X.base l:=by
  intro l;induction l with
  | nil=>intro _ _;trivial
  | cons env r ih=>
   intro hs hl;obtain ⟨hk,⟨L,o,hf,hn,ho,hd⟩,hr⟩:=hl;have hL:L∈X.fs:=hs L (by unfold frs;rw [Wu,hf];exact Zy);obtain ⟨sl,e⟩:=I.base.slot L o ho (I.ok.frf L hL) hL λ z=>I.ok.exfs L z hL
   exact ⟨hk,⟨L,_,hf,hn,e,hd⟩,ih (λ b hb=>hs b (by unfold frs;rw [Wu,hf];exact Zr _ hb)) hr⟩
 exact all X.outer (λ _ hb=>hb) I.ok.funs
theorem Inv.stack (I:Inv X pins σ H s):s.heap.FunFrames X.base X.stack:=by
 rcases I.ok.stk with e | ⟨e,hf⟩
 ·rw [e];exact I.funs
 ·rw [e];obtain ⟨m,hn,_⟩:=I.loc;refine .cons (by rw [I.ok.kind];decide) hf hn ?_ I.funs;exact Heap.get?_none_of_le (Zw I.ok.bsz I.ok.above)
theorem Inv.stkSub (I:Inv X pins σ H s): ∀b∈frs X.stack,b∈X.env.locals::X.fs:=λ b hb=>by
 rcases I.ok.stk with e | ⟨e,hf⟩
 ·rw [e] at hb;exact Zr _ hb
 ·rw [e] at hb;unfold frs at hb;rw [Wu,hf] at hb;exact hb
theorem Inv.stkFree (I:Inv X pins σ H s): ∀b∈frs X.stack,H b=none:=λ b hb=>by
 rcases Zp.mp (I.stkSub b hb) with e | hb
 ·rw [e];exact I.free
 ·obtain ⟨_,o,ho,_⟩:=I.ok.funs.mem hb;exact I.base.free b o ho (I.ok.frf b hb) λ z=>I.ok.exfs b z hb
theorem Inv.step {g':Array GenState} {t':Nat} {d':Drawn} {ch:List Addr} (I:Inv X pins σ H s)
  (hch: ∀b∈ch,(b∈X.ex\/X.s₀.heap.objs.size<=b)/\b≠X.env.locals/\(∀x c,X.env.cells.lookup x=some c->c≠b)/\ ∀p∈X.pn++pins,p.1≠b)
  (keep: ∀b o,b≠X.env.locals->b∉X.fs->b∉ch->s.heap.get? b=some o->H b=none->h'.get? b=some o)
  (slot: ∀b o,b≠X.env.locals->b∈X.fs->b∉ch->s.heap.get? b=some o->H b=none-> ∃sl,h'.get? b=some { o with slots:=sl }) (free: ∀b o,b∉ch->s.heap.get? b=some o->H b=none->H' b=none)
  (there: ∀b o,b∉ch->s.heap.get? b=some o-> ∃o',h'.get? b=some o')
  (tups: ∀b xs,H b=some (.tup xs)->H' b=some (.tup xs)) (frzs: ∀b o u,H b=some (.frz o u)->H' b=some (.frz o u)) (tbls: ∀b ps,H b=some (.tbl ps)-> ∃more,H' b=some (.tbl (ps++more)))
  (ns: ∀m,s.heap.Ns X.env.locals m->h'.Ns X.env.locals m) (hok:HOk X.prog X.w H' h') (hg:AllBare g'):
  Inv X pins σ H' { s with heap:=h',gens:=g',drawn:=d',toks:=t' }:=by
 have neL: ∀b o,X.s₀.heap.get? b=some o->b≠X.env.locals:=λ b o e=>Yc (Zs (Zm e) I.ok.above)
 have neC: ∀b o,X.s₀.heap.get? b=some o->b∉X.ex->b∉ch:=λ b o e hx hb=>by
  rcases (hch b hb).1 with z | z
  ·exact hx z
  ·exact absurd (Zs (Zm e) z) (Wd _)
 have cellK: ∀x c,X.env.cells.lookup x=some c-> ∀v,s.heap.IsCell c v->h'.IsCell c v:=λ x c e v ⟨o,ho,hd⟩=>by
  have nch:c∉ch:=λ z=>(hch c z).2.2.1 x c e rfl
  by_cases hc:c∈X.fs
  ·obtain ⟨sl,q⟩:=slot c o (I.cne x c e) hc nch ho (I.freeC x c e);exact ⟨_,q,hd⟩
  ·exact ⟨o,keep c o (I.cne x c e) hc nch ho (I.freeC x c e),hd⟩
 refine ⟨I.ok,I.os,hg,⟨λ b o e n hb hx=> ?_,λ b o e n hb hx=> ?_,λ b o e n hx=> ?_,λ b o e hx=> ?_,λ b xs e=>tups b xs (I.base.tups b xs e),λ b o xs e=>frzs b o xs (I.base.frzs b o xs e),λ b ps e=> ?_⟩,?_,λ x c e=> ?_,?_,λ x c e=> ?_,λ p hp=> ?_,hok,I.len⟩
 ·exact keep b o (neL b o e) hb (neC b o e hx) (I.base.keep b o e n hb hx) (I.base.free b o e n hx)
 ·obtain ⟨sl,e1⟩:=I.base.slot b o e n hb hx;obtain ⟨sl',e2⟩:=slot b _ (neL b o e) hb (neC b o e hx) e1 (I.base.free b o e n hx);exact ⟨sl',e2⟩
 ·obtain ⟨o',e1⟩:=I.base.there b o e hx;exact free b o' (neC b o e hx) e1 (I.base.free b o e n hx)
 ·obtain ⟨o',e1⟩:=I.base.there b o e hx;exact there b o' (neC b o e hx) e1
 ·obtain ⟨m1,e1⟩:=I.base.tbls b ps e;obtain ⟨m2,e2⟩:=tbls b _ e1;exact ⟨m1++m2,by rw [e2,Array.append_assoc]⟩
 ·obtain ⟨m,hn,hl⟩:=I.loc;refine ⟨m,ns m hn,λ i x v e1 e2 e3=> ?_⟩;obtain ⟨u,r,l⟩:=hl i x v e1 e2 e3;refine ⟨u,r,?_⟩;rcases l with l | ⟨k,c,e,z⟩
  ·exact .inl l
  ·exact .inr ⟨k,c,e,cellK x c e _ z⟩
 ·obtain ⟨v,z⟩:=I.cell x c e;exact ⟨v,cellK x c e v z⟩
 ·obtain ⟨m,⟨o,_,_,ho,_⟩,_⟩:=I.loc;exact free _ o (λ z=>(hch _ z).2.1 rfl) ho I.free
 ·obtain ⟨v,o,ho,hd⟩:=I.cell x c e;exact free c o (λ z=>(hch c z).2.2.1 x c e rfl) ho (I.freeC x c e)
 ·obtain ⟨e,n,ne,nf,d⟩:=I.pin p hp;have nch:p.1∉ch:=λ z=>(hch p.1 z).2.2.2 p hp rfl
  exact ⟨keep p.1 p.2 ne nf nch e n,free p.1 p.2 nch e n,ne,nf,d⟩
theorem Inv.un {t':Nat} (I:Inv X pins σ H s) (u:Un X.fs [] H H' s.heap h') (hok:HOk X.prog X.w H' h'):Inv X pins σ H' { s with heap:=h',toks:=t' }:=by
 obtain ⟨m,⟨o,es,ep,ho,r⟩,_⟩:=id I.loc;obtain ⟨sl,hL⟩:=u.any ho I.free (by simp);exact I.step (g':=s.gens) (d':=s.drawn) (ch:=[]) (λ _ z=>nomatch z) (λ b o _ hb _ e n=>u.keep b o e n hb (by simp)) (λ b o _ hb _ e n=>u.slot b o e n hb (by simp)) (λ b o _ e n=>u.free b o e n (by simp)) (λ b o _ e=>u.there b o e (by simp)) u.tups u.frzs u.tbls (λ m' hm=>by
  obtain ⟨o',es',ep',ho',r'⟩:=hm;rw [ho] at ho';cases ho';exact ⟨_,es',ep',hL,r'⟩) hok I.bare
theorem Inv.call {g':Array GenState} {t':Nat} {d':Drawn} {ch:List Addr} (I:Inv X pins σ H s) (u:Un (frs X.stack) ch H H' s.heap h') (hok:HOk X.prog X.w H' h') (hg:AllBare g')
  (hch: ∀b∈ch,(b∈X.ex\/X.s₀.heap.objs.size<=b)/\b≠X.env.locals/\(∀x c,X.env.cells.lookup x=some c->c≠b)/\ ∀p∈X.pn++pins,p.1≠b):
  Inv X pins σ H' { s with heap:=h',gens:=g',drawn:=d',toks:=t' }:=by
 obtain ⟨m,⟨o,es,ep,ho,r⟩,_⟩:=id I.loc;obtain ⟨sl,hL⟩:=u.any ho I.free λ z=>(hch _ z).2.1 rfl
 exact I.step (ch:=ch) hch (λ b o hL hb hc e n=>u.keep b o e n (λ z=>(Zp.mp (I.stkSub b z)).elim hL hb) hc) (λ b o _ _ hc e n=>u.any e n hc) (λ b o hc e n=>u.free b o e n hc) (λ b o hc e=>u.there b o e hc) u.tups u.frzs u.tbls (λ m' hm=>by
  obtain ⟨o',es',ep',ho',r'⟩:=hm;rw [ho] at ho';cases ho';exact ⟨_,es',ep',hL,r'⟩) hok hg
theorem Inv.turned {t':Nat} {it:Addr} (I:Inv X pins σ H s) (k: ∀b o,b≠it->s.heap.get? b=some o->h'.get? b=some o) (hn:H it=none) (hL:it≠X.env.locals)
  (h1:it∈X.ex\/X.s₀.heap.objs.size<=it) (h2: ∀x c,X.env.cells.lookup x=some c->c≠it) (h3: ∀p∈X.pn++pins,p.1≠it):Inv X pins σ H { s with heap:=h',toks:=t' }:=by
 have nit: ∀b u,H b=some u->b≠it:=λ b u e z=>by rw [z,hn] at e;cases e
 refine I.step (g':=s.gens) (d':=s.drawn) (ch:=[it]) (λ b hb=> ?_) (λ b o _ _ hc e _=>k b o (λ z=>hc (by simp [z])) e) (λ b o _ _ hc e _=>⟨o.slots,k b o (λ z=>hc (by simp [z])) e⟩) (λ _ _ _ _ n=>n)
  (λ b o hc e=>⟨o,k b o (λ z=>hc (by simp [z])) e⟩) (λ _ _ e=>e) (λ _ _ _ e=>e) (λ b ps e=>⟨#[],by rw [e];simp⟩) (λ m hm=> ?_) (λ b u e=> ?_) I.bare
 ·have e:b=it:=by simpa using hb
  subst e;exact ⟨h1,hL,h2,h3⟩
 ·obtain ⟨o,es,ep,ho,r⟩:=hm;exact ⟨o,es,ep,k _ o (Ne.symm hL) ho,r⟩
 ·refine (I.hok b u e).stay (λ c v hc q=>k c v ?_ q) (λ _ q=>q) λ _ _ q=>q
  rcases hc with z | z
  ·rw [z];exact nit b u e
  ·exact nit c _ z
theorem Inv.tok (I:Inv X pins σ H s) (t:Nat):Inv X pins σ H { s with toks:=t }:=I.un (h':=s.heap) (t':=t) Un.refl I.hok
theorem Inv.kept {t':Nat} (I:Inv X pins σ H s) (k: ∀b u,s.heap.get? b=some u->h'.get? b=some u):Inv X pins σ H { s with heap:=h',toks:=t' }:=I.un (Un.kept k) (I.hok.kept k)
theorem Inv.laid {a:Addr} {o:HO} {t':Nat} (I:Inv X pins σ H s) (k: ∀b u,s.heap.get? b=some u->h'.get? b=some u) (hp:s.heap.objs.size<=a) (new:ObjOk X.prog X.w (upd H a o) h' a o):
  Inv X pins σ (upd H a o) { s with heap:=h',toks:=t' }:=I.un (Un.laid k hp (I.hok.fresh hp)) (I.hok.laid k hp new)
theorem Inv.write {x e:Addr} {o:HO} {t':Nat} (I:Inv X pins σ H s) (mu:Nz (H x)) (he:e=x\/H e=some (.own x)) (k: ∀b u,b≠e->s.heap.get? b=some u->h'.get? b=some u) (heo: ∃u,h'.get? e=some u)
  (new:ObjOk X.prog X.w (upd H x o) h' x o):Inv X pins σ (upd H x o) { s with heap:=h',toks:=t' }:=I.un (Un.write mu he k heo) (I.hok.write mu he k heo new)
theorem Inv.weak {σ':List (Option V)} (I:Inv X pins σ H s) (hl:σ'.length=σ.length) (w: ∀ (i:Nat) v,σ'[i]? =some (some v)->σ[i]? =some (some v)):Inv X pins σ' H s:=
 ⟨I.ok,I.os,I.bare,I.base,let ⟨m,hn,hl'⟩:=I.loc;⟨m,hn,λ i x v e1 e2 e3=>hl' i x v e1 (w i v e2) e3⟩,I.cell,I.free,I.freeC,I.pin,I.hok,hl.trans I.len⟩
theorem Inv.pins_of {pins':List (Addr×Obj)} (I:Inv X pins σ H s) (h: ∀p∈pins',s.heap.get? p.1=some p.2/\H p.1=none/\p.1≠X.env.locals/\p.1∉X.fs/\ ∀v,p.2.data≠ .cell v):Inv X pins' σ H s:=
 ⟨I.ok,I.os,I.bare,I.base,I.loc,I.cell,I.free,I.freeC,λ p hp=>(Zv.mp hp).elim (λ z=>I.pin p (Xo _ z)) (h p),I.hok,I.len⟩
theorem u6 {N:List Str} (hN:N.Nodup) {i j:Nat} {x:Str} (a:N[i]? =some x) (b:N[j]? =some x):i=j:=by
 obtain ⟨h1,e1⟩:=Zf.mp a;obtain ⟨h2,e2⟩:=Zf.mp b;exact (List.getElem_inj hN).mp (e1.trans e2.symm)
theorem pU {M:Model} {A:Around} {E:Value->Shared->Prop} {i:Nat} {x:Str} {v:V} {u:Value} {Q:Unit->Shared->Prop} (I:Inv X pins σ H s) (hN:X.N.Nodup) (hi:X.N[i]? =some x) (hx:Loc X.env.scope x) (r:RelV v u)
  (h: ∀s',Inv X pins (σ.set i (some v)) H s'->(∃a,Heap.SameBut a s.heap s'.heap/\(a=X.env.locals\/X.env.cells.lookup x=some a))->Q () s') (hf:X.fn x=true\/X.env.scope.names.lookup x=some .local:=by first | exact .inl rfl | exact .inr rfl | assumption):wpAny M A (storeName X.env x u) Q E s:=by
 obtain ⟨m,hn,hl⟩:=id I.loc;have hcls:(X.env.scope.kind== .class||(X.env.scope.kind== .module&&X.env.locals !=X.env.globals))=false:=by rw [I.ok.kind];rfl
 have hiσ:i<σ.length:=by rw [I.len];exact (Zf.mp hi).1
 have cne:=I.cne;have tracked: ∀ {a:Addr} {h':Heap},(∃o,s.heap.get? a=some o/\H a=none)->Heap.SameBut a s.heap h'->HOk X.prog X.w H h':=λ {a h'} ha hs b ob e=>by
  obtain ⟨_,_,hfree⟩:=ha;refine (I.hok b ob e).stay (λ c w' hc q=>(hs.2 c ?_).trans q) (λ _ q=>q) λ _ _ q=>q
  rintro rfl;rcases hc with rfl | hc
  ·rw [hfree] at e;cases e
  ·rw [hfree] at hc;cases hc
 rcases hx with hk | hk
 ·refine wpAny_storeName_local hk hn (λ h' hn' hs=> ?_) hcls;obtain ⟨oL,_,_,hoL,_⟩:=id hn;refine h _ ⟨I.ok,I.os,I.bare,⟨λ b o e n hb hx=> ?_,λ b o e n hb hx=> ?_,I.base.free,λ b o e hx=> ?_,I.base.tups,I.base.frzs,I.base.tbls⟩,⟨_,hn',λ j y v' e1 e2 e3=> ?_⟩,λ y c e=> ?_,I.free,I.freeC,λ p hp=> ?_,tracked ⟨oL,hoL,I.free⟩ hs,by simpa using I.len⟩ ⟨_,hs, .inl rfl⟩
  ·exact (hs.2 b (Yc (Zs (Zm e) I.ok.above))).trans (I.base.keep b o e n hb hx)
  ·obtain ⟨sl,e1⟩:=I.base.slot b o e n hb hx;exact ⟨sl,(hs.2 b (Yc (Zs (Zm e) I.ok.above))).trans e1⟩
  ·obtain ⟨o',e1⟩:=I.base.there b o e hx;exact ⟨o',(hs.2 b (Yc (Zs (Zm e) I.ok.above))).trans e1⟩
  ·by_cases hj:j=i
   ·subst hj;rw [hi] at e1;cases e1;rw [List.getElem?_set_self hiσ] at e2
    cases e2;exact ⟨u,r, .inl ⟨hk,by simp⟩⟩
   ·rw [List.getElem?_set_ne (Ne.symm hj)] at e2;obtain ⟨u',r',q⟩:=hl j y v' e1 e2 e3;refine ⟨u',r',?_⟩;rcases q with ⟨k,e⟩ | ⟨k,c,e,z⟩
    ·refine .inl ⟨k,?_⟩;have:y≠x:=λ e=>hj (u6 hN e1 (e▸hi))
     simp [this,e]
    ·exact .inr ⟨k,c,e,z.sameBut hs (cne y c e)⟩
  ·obtain ⟨w',z⟩:=I.cell y c e;exact ⟨w',z.sameBut hs (cne y c e)⟩
  ·obtain ⟨e,n,ne,nf,d⟩:=I.pin p hp;exact ⟨(hs.2 p.1 ne).trans e,n,ne,nf,d⟩
 ·have hfn:X.fn x=true:=by
   rcases hf with z | z
   ·exact z
   ·rw [z] at hk;cases hk
  obtain ⟨c,hc⟩:=I.ok.has x (.inl hk);obtain ⟨w',z⟩:=I.cell x c hc;refine wpAny_storeName_cell I.ok.kind hk hc z (λ h' hc' hs=> ?_);obtain ⟨oc,hoc,hocd⟩:=id z;refine h { s with heap:=h' } ⟨I.ok,I.os,I.bare,⟨λ b o e n hb hx=> ?_,λ b o e n hb hx=> ?_,I.base.free,λ b o e hx=> ?_,I.base.tups,I.base.frzs,I.base.tbls⟩,⟨m,hn.sameBut hs (Ne.symm (cne x c hc)),λ j y v' e1 e2 e3=> ?_⟩,λ y c' e=> ?_,I.free,I.freeC,λ p hp=> ?_,tracked ⟨oc,hoc,I.freeC x c hc⟩ hs,by simpa using I.len⟩ ⟨c,hs, .inr hc⟩
  ·exact (hs.2 b (Yc (Zs (Zm e) (I.ok.cab x c hfn hc)))).trans (I.base.keep b o e n hb hx)
  ·obtain ⟨sl,e1⟩:=I.base.slot b o e n hb hx;exact ⟨sl,(hs.2 b (Yc (Zs (Zm e) (I.ok.cab x c hfn hc)))).trans e1⟩
  ·obtain ⟨o',e1⟩:=I.base.there b o e hx;exact ⟨o',(hs.2 b (Yc (Zs (Zm e) (I.ok.cab x c hfn hc)))).trans e1⟩
  ·by_cases hj:j=i
   ·subst hj;rw [hi] at e1;cases e1;rw [List.getElem?_set_self hiσ] at e2
    cases e2;exact ⟨u,r, .inr ⟨.inl hk,c,hc,hc'⟩⟩
   ·rw [List.getElem?_set_ne (Ne.symm hj)] at e2;obtain ⟨u',r',q⟩:=hl j y v' e1 e2 e3;refine ⟨u',r',?_⟩;rcases q with q | ⟨k,c',e,z'⟩
    ·exact .inl q
    ·refine .inr ⟨k,c',e,z'.sameBut hs ?_⟩;rintro rfl;exact hj (u6 hN e1 (I.ok.inj _ _ _ e hc▸hi))
  ·by_cases hcc:c'=c
   ·subst hcc;exact ⟨_,hc'⟩
   ·obtain ⟨w2,z2⟩:=I.cell y c' e;exact ⟨w2,z2.sameBut hs hcc⟩
  ·obtain ⟨e,n,ne,nf,d⟩:=I.pin p hp;refine ⟨(hs.2 p.1 ?_).trans e,n,ne,nf,d⟩;intro q;rw [q,hoc] at e;have q':oc=p.2:=Zx e;exact d w' (by rw [<- q'];exact hocd)
theorem u9 {M:Model} {A:Around} {E:Value->Shared->Prop} {i:Nat} {x:Str} {v:V} {u:Value} {Q:Unit->Shared->Prop} (I:Inv X pins σ H s) (hN:X.N.Nodup) (hi:X.N[i]? =some x) (hx:Loc X.env.scope x) (r:RelV v u)
  (h: ∀s',Inv X pins (σ.set i (some v)) H s'->Q () s') (hf:X.fn x=true\/X.env.scope.names.lookup x=some .local:=by first | exact .inl rfl | exact .inr rfl | assumption):wpAny M A (storeName X.env x u) Q E s:=
 pU I hN hi hx r (λ s' I' _=>h s' I') hf
theorem Inv.call' {s':Shared} {ch:List Addr} (I:Inv X pins σ H s) (ho:s'.os=s.os) (u:Un (frs X.stack) ch H H' s.heap s'.heap) (hok:HOk X.prog X.w H' s'.heap) (hg:AllBare s'.gens)
  (hch: ∀b∈ch,(b∈X.ex\/X.s₀.heap.objs.size<=b)/\b≠X.env.locals/\(∀x c,X.env.cells.lookup x=some c->c≠b)/\ ∀p∈X.pn++pins,p.1≠b):Inv X pins σ H' s':=by
 obtain ⟨h',g',d',t',o'⟩:=s';have e:o'=s.os:=ho;subst e;exact I.call (g':=g') (t':=t') (d':=d') u hok hg hch
end
abbrev XK:=Value->Option Addr->Hp->Prop
abbrev St:=List (Option V)
abbrev VK:=V->Hp->Prop
abbrev TE:=St->Hp->VK->Prop
abbrev TT:=St->Hp->(Bool->Hp->Prop)->Prop
abbrev TA:=St->Hp->(List V->Hp->Prop)->Prop
structure Ends where
 nx:St->Hp->Prop
 rt:VK
 bk:St->Hp->Prop:=λ _ _=>False
 ct:St->Hp->Prop:=λ _ _=>False
abbrev TS:=Ends->St->Hp->Prop
def EP (X:Cx) (pins:List (Addr×Obj)) (σ:St) (Q:VK) (u:Value) (s':Shared):Prop:= ∃v H',Inv X pins σ H' s'/\RelV v u/\Q v H'
def TP (X:Cx) (pins:List (Addr×Obj)) (σ:St) (Q:Bool->Hp->Prop) (b:Bool) (s':Shared):Prop:= ∃H',Inv X pins σ H' s'/\Q b H'
def AP (X:Cx) (pins:List (Addr×Obj)) (σ:St) (Q:List V->Hp->Prop) (us:List Value) (s':Shared):Prop:= ∃vs H',Inv X pins σ H' s'/\Vals vs us/\Q vs H'
def SP (X:Cx) (pins:List (Addr×Obj)) (D:Ends) (f:Flow) (s':Shared):Prop:=
 match f with
 | .next=> ∃σ' H',Inv X pins σ' H' s'/\D.nx σ' H'
 | .brk=> ∃σ' H',Inv X pins σ' H' s'/\D.bk σ' H'
 | .cont=> ∃σ' H',Inv X pins σ' H' s'/\D.ct σ' H'
 | .ret u=> ∃v σ' H',Inv X pins σ' H' s'/\RelV v u/\D.rt v H'
def PE (X:Cx) (e:Expr) (t:TE):Prop:=
 ∀ (pins:List (Addr×Obj)) (s:Shared) (σ:St) (H:Hp) (Q:VK),Inv X pins σ H s->t σ H Q->wpAny (model X.prog X.w) X.A (eval e X.env) (EP X pins σ Q) X.xe s
def PT (X:Cx) (e:Expr) (t:TT):Prop:=
 ∀ (pins:List (Addr×Obj)) (s:Shared) (σ:St) (H:Hp) (Q:Bool->Hp->Prop),Inv X pins σ H s->t σ H Q->wpAny (model X.prog X.w) X.A (isTrue e X.env (eval e X.env)) (TP X pins σ Q) X.xe s
def PW (X:Cx) (e:Expr) (t:TT):Prop:=
 ∀ (whole:Sem Value) (pins:List (Addr×Obj)) (s:Shared) (σ:St) (H:Hp) (Q:Bool->Hp->Prop),Inv X pins σ H s->t σ H Q->wpAny (model X.prog X.w) X.A (isTrue e X.env whole) (TP X pins σ Q) X.xe s
theorem PW.pt {X:Cx} {e:Expr} {t:TT} (h:PW X e t):PT X e t:=h _
def PA (X:Cx) (es:List Expr) (t:TA):Prop:=
 ∀ (pos:Pos) (pins:List (Addr×Obj)) (s:Shared) (σ:St) (H:Hp) (Q:List V->Hp->Prop),Inv X pins σ H s->t σ H Q->wpAny (model X.prog X.w) X.A (spliced (backTo pos (starEach es X.env))) (AP X pins σ Q) X.xe s
def PS (X:Cx) (st:Stmt) (t:TS):Prop:=
 ∀ (pins:List (Addr×Obj)) (s:Shared) (σ:St) (H:Hp) (D:Ends),Inv X pins σ H s->t D σ H->wpAny (model X.prog X.w) X.A (exec st X.env) (SP X pins D) X.xe s
def PSs (X:Cx) (st:List Stmt) (t:TS):Prop:=
 ∀ (pins:List (Addr×Obj)) (s:Shared) (σ:St) (H:Hp) (D:Ends),Inv X pins σ H s->t D σ H->wpAny (model X.prog X.w) X.A (execs st X.env) (SP X pins D) X.xe s
theorem bL {α:Type} {t:Sem α} {Q Q':α->Shared->Prop} {M:Model} {A:Around} {E:Value->Shared->Prop} {s:Shared} (h:wpAny M A t Q E s) (hQ: ∀a s,Q a s->Q' a s):wpAny M A t Q' E s:=Xe h hQ λ _ _ x=>x
section
variable {X:Cx}
def aj (i:Nat):TE:=λ σ H Q=> ∃v,σ[i]? =some (some v)/\Q v H
def tC (v:V):TE:=λ _ H Q=>Q v H
theorem JM {i:Nat} {x:Str} {pos:Pos} (hN:X.N[i]? =some x) (hv:QQ X.env.scope x) (hd:(x==("__debug__":Str))=false:=by decide) (hcd:(x==("__classdict__":Str))=false:=by decide):PE X (.Name x pos) (aj i):=by
 intro pins s σ H Q I h;obtain ⟨v,e,h⟩:=h;obtain ⟨m,hn,hl⟩:=I.loc;obtain ⟨u,r,l⟩:=hl i x v hN e hv;have fin:EP X pins σ Q u s:=⟨v,H,I,r,h⟩;rcases l with ⟨hk,hm⟩ | ⟨hk,c,hc,hcell⟩
 ·exact wpAny_Name (wpAny_loadName_local I.ok.kind hk hn hm fin) hd
 ·rcases hk with hk | hk
  ·exact wpAny_Name (wpAny_loadName_cell I.ok.kind hk hc hcell fin) hd
  ·exact wpAny_Name (wpAny_loadName_free I.ok.kind hk hc hcell fin hcd) hd
theorem az {i j pos}:PE X (.Constant (.int i) j pos) (tC (.int i)):=λ _ _ _ H _ I h=>wpAny_Constant_int ⟨.int i,H,I.tok _,⟨_,rfl⟩,h⟩
theorem pW {b j pos}:PE X (.Constant (.bool b) j pos) (tC (.bl b)):=λ _ _ _ H _ I h=>Constant_bool ⟨.bl b,H,I,rfl,h⟩
theorem bG {j pos}:PE X (.Constant .none j pos) (tC .non):=λ _ _ _ H _ I h=>Constant_none ⟨.non,H,I,rfl,h⟩
theorem bW {x j pos}:PE X (.Constant (.str x) j pos) (tC (.str x)):=λ _ _ _ H _ I h=>Calls.Constant_str ⟨.str x,H,I.tok _,⟨_,rfl⟩,h⟩
def Gl (X:Cx) (x:Str):Prop:=X.env.kindOf x=some .globalImplicit
theorem qR {E:Value->Shared->Prop} {pins:List (Addr×Obj)} {s:Shared} {σ:St} {H:Hp} {x:Str} {u:Value} {pos:Pos} {Q:Value->Shared->Prop} (I:Inv X pins σ H s) (hg:Gl X x) (hm:X.mg x=some u) (h:Q u s)
  (hd:(x==("__debug__":Str))=false:=by decide):wpAny (model X.prog X.w) X.A (eval (.Name x pos) X.env) Q E s:=
 Calls.Name_function_global I.ok.kind hg (Calls.loadGlobal_global (by rw [I.ok.glob];exact I.mod.glob.keeps I.bk) hm h) hd
theorem fL {E:Value->Shared->Prop} {pins:List (Addr×Obj)} {s:Shared} {σ:St} {H:Hp} {x:Str} {u:Value} {pos:Pos} {Q:Value->Shared->Prop} (I:Inv X pins σ H s) (hg:Gl X x) (hm:X.mg x=none) (hv:bootBuiltins x=some u) (h:Q u s)
  (hn:x≠"__name__":=by decide) (hd:(x==("__debug__":Str))=false:=by decide):wpAny (model X.prog X.w) X.A (eval (.Name x pos) X.env) Q E s:=by
 obtain ⟨mb,h1,h2⟩:=I.mod.blt;exact Calls.Name_function_global I.ok.kind hg (Calls.loadGlobal_builtin (by rw [I.ok.glob];exact I.mod.glob.keeps I.bk) hm (by rw [I.ok.blt];exact h1.keeps I.bk) ((h2 x hn).trans hv) h) hd
theorem nj {x:Str} {v:V} {u:Value} {pos:Pos} (hg:Gl X x) (hm:X.mg x=some u) (r:RelV v u) (hd:(x==("__debug__":Str))=false:=by decide):PE X (.Name x pos) (tC v):=
 λ _ _ _ H _ I h=>qR I hg hm ⟨v,H,I,r,h⟩ hd
theorem j6 {x:Str} {v:V} {u:Value} {pos:Pos} (hg:Gl X x) (hm:X.mg x=none) (hv:bootBuiltins x=some u) (r:RelV v u) (hn:x≠"__name__":=by decide) (hd:(x==("__debug__":Str))=false:=by decide):PE X (.Name x pos) (tC v):=
 λ _ _ _ H _ I h=>fL I hg hm hv ⟨v,H,I,r,h⟩ hn hd
variable {a b:Expr} {ta tb:TE} {pos:Pos}
def PC (X:Cx) (op:CmpOp) (a b:Expr) (t:TE):Prop:=
 ∀ (pins:List (Addr×Obj)) (s:Shared) (σ:St) (H:Hp) (Q:VK),Inv X pins σ H s->t σ H Q->
  wpAny (model X.prog X.w) X.A (eval a X.env) (λ v s₁=>wpAny (model X.prog X.w) X.A (eval b X.env) (λ u s₂=>wpAny (model X.prog X.w) X.A (compareOp op v u) (EP X pins σ Q) X.xe s₂) X.xe s₁) X.xe s
def tB (t:TE):TT:=λ σ H Q=>t σ H λ x H1=> ∃c,x= .bl c/\Q c H1
theorem vA {op:CmpOp} {t:TE} (h:PC X op a b t) (h1:behindInMarks op b=false:=by first | exact nobehind _ (by decide) (by decide) | rfl):PT X (.Compare a [op] [b] pos) (tB t):=by
 intro pins s σ H Q I hw;refine wpAny_isTrue_Compare1 (bL (h pins s σ H _ I hw) λ v s1 h1=>bL h1 λ u s2 h2=>bL h2 λ c s3 ⟨x,H1,I1,r1,q1⟩=> ?_) h1;obtain ⟨d,rfl,q⟩:=q1
 cases r1;exact Wv ⟨H1,I1,q⟩
variable {tA tB':TT} {rest:List Expr}
def jk (t u:TT):TT:=λ σ H Q=>t σ H λ c H1=>if c=true then u σ H1 Q else Q false H1
def Gf (t u:TT):TT:=λ σ H Q=>t σ H λ c H1=>if c=true then Q true H1 else u σ H1 Q
def mU (t:TT):TT:=λ σ H Q=>t σ H λ c H1=>Q (!c) H1
theorem cZ (ha:PT X a tA):PW X (.BoolOp .And [a] pos) tA:=by
 intro wh pins s σ H Q I h;refine isTrue_and (bL (ha pins s σ H Q I h) λ c s1 e=> ?_)
 cases c with
 | true=>exact isTrue_and_nil e
 | false=>exact e
theorem nU (ha:PT X a tA):PW X (.BoolOp .Or [a] pos) tA:=by
 intro wh pins s σ H Q I h;refine isTrue_or (bL (ha pins s σ H Q I h) λ c s1 e=> ?_)
 cases c with
 | false=>exact isTrue_or_nil e
 | true=>exact e
theorem dX (ha:PT X a tA) (hb:PW X (.BoolOp .And (b::rest) pos) tB'):PW X (.BoolOp .And (a::b::rest) pos) (jk tA tB'):=by
 intro wh pins s σ H Q I h;refine isTrue_and (bL (ha pins s σ H _ I h) λ c s1 ⟨H1,I1,q1⟩=> ?_)
 cases c with
 | true=>exact hb wh pins s1 σ H1 Q I1 q1
 | false=>exact ⟨H1,I1,q1⟩
theorem pX (ha:PT X a tA) (hb:PW X (.BoolOp .Or (b::rest) pos) tB'):PW X (.BoolOp .Or (a::b::rest) pos) (Gf tA tB'):=by
 intro wh pins s σ H Q I h;refine isTrue_or (bL (ha pins s σ H _ I h) λ c s1 ⟨H1,I1,q1⟩=> ?_)
 cases c with
 | true=>exact ⟨H1,I1,q1⟩
 | false=>exact hb wh pins s1 σ H1 Q I1 q1
theorem gq (ha:PT X a tA):PT X (.UnaryOp .Not a pos) (mU tA):=by
 intro pins s σ H Q I h;exact isTrue_not (ha pins s σ H (λ c H1=>Q (!c) H1) I h)
def jH (ta tb:TE):TE:=λ σ H Q=>ta σ H λ x H1=> ∃c,x= .bl c/\if c=true then tb σ H1 Q else Q (.bl false) H1
def T4 (ta tb:TE):TE:=λ σ H Q=>ta σ H λ x H1=> ∃c,x= .bl c/\if c=true then Q (.bl true) H1 else tb σ H1 Q
def Bg (ta:TE):TE:=λ σ H Q=>ta σ H λ x H1=> ∃c,x= .bl c/\Q (.bl (!c)) H1
theorem nW {op} {t:TE} (h:PE X a t):PE X (.BoolOp op [a] pos) t:=λ pins s σ H Q I hw=>BoolOp_one (h pins s σ H Q I hw)
theorem kj (ha:PE X a ta) (hb:PE X (.BoolOp .And (b::rest) pos) tb):PE X (.BoolOp .And (a::b::rest) pos) (jH ta tb):=by
 intro pins s σ H Q I h;refine BoolOp_and (bL (ha pins s σ H _ I h) λ v s1 ⟨x,H1,I1,r1,q1⟩=> ?_);obtain ⟨c,rfl,q1⟩:=q1
 cases r1;refine Wv ?_
 cases c with
 | true=>exact hb pins s1 σ H1 Q I1 q1
 | false=>exact ⟨.bl false,H1,I1,rfl,q1⟩
theorem JN (ha:PE X a ta):PE X (.UnaryOp .Not a pos) (Bg ta):=by
 intro pins s σ H Q I h;refine UnaryOp_ (bL (ha pins s σ H _ I h) λ v s1 ⟨x,H1,I1,r1,q1⟩=> ?_);obtain ⟨c,rfl,q1⟩:=q1
 cases r1;exact not_of (Wv ⟨.bl (!c),H1,I1,rfl,q1⟩)
def QD (t:TT) (ta tb:TE):TE:=λ σ H Q=>t σ H λ c H1=>if c=true then ta σ H1 Q else tb σ H1 Q
theorem uc {c:Expr} (hc:PT X c tA) (ha:PE X a ta) (hb:PE X b tb):PE X (.IfExp c a b pos) (QD tA ta tb):=by
 intro pins s σ H Q I h;refine wpAny_IfExp (bL (hc pins s σ H _ I h) λ d s1 ⟨H1,I1,q1⟩=> ?_)
 cases d with
 | true=>exact ha pins s1 σ H1 Q I1 q1
 | false=>exact hb pins s1 σ H1 Q I1 q1
end
def SqL (K:W.Frag) (H:Hp) (a:Addr) (xs:List V):Prop:=
 Rd H a (.lst xs)\/
  ∃ (o:Obj) (its:Array Value) (n:Nat),K.lookup a=some o/\o.cls= .type "list"/\o.dict=none/\o.data= .seq its n/\its.size<=sizeLine/\Vals xs its.toList
def SqT (K:W.Frag) (H:Hp) (a:Addr) (xs:List V):Prop:=
 Rd H a (.tup xs)\/
  ∃ (o:Obj) (its:Array Value) (n:Nat),K.lookup a=some o/\o.cls= .type "tuple"/\o.data= .seq its n/\its.size<=sizeLine/\Vals xs its.toList
def QR:Value->Option V
 | .none=>some .non
 | .bool b=>some (.bl b)
 | .int i _=>some (.int i)
 | .str x _=>some (.str x)
 | .bytes b _=>some (.byt b)
 | .float b _=>some (.flt b)
 | .ref a=>some (.ref a)
 | .type n=>some (.ty n)
 | _=>none
theorem RelV.abs {x:V} {u:Value} (r:RelV x u):QR u=some x:=by
 cases x with
 | non=>cases r;rfl
 | bl _=>cases r;rfl
 | int _=>obtain ⟨t,rfl⟩:=r;rfl
 | str _=>obtain ⟨t,rfl⟩:=r;rfl
 | byt _=>obtain ⟨t,rfl⟩:=r;rfl
 | flt _=>obtain ⟨t,rfl⟩:=r;rfl
 | ref _=>cases r;rfl
 | ty _=>cases r;rfl
theorem RelV.inj {x y:V} {u:Value} (r:RelV x u) (q:RelV y u):x=y:=Zx (r.abs.symm.trans q.abs)
theorem Vals.inj: ∀ {xs ys:List V} {us:List Value},Vals xs us->Vals ys us->xs=ys
 | _,_,_, .nil, .nil=>rfl
 | _,_,_, .cons r t, .cons r' t'=>by rw [r.inj r',Vals.inj t t']
section
variable {X:Cx} {pins:List (Addr×Obj)} {σ:St} {H:Hp} {s:Shared} {a:Addr} {xs ys:List V}
theorem SqL.of {K:W.Frag} (h:H a=some (.lst xs)):SqL K H a xs:= .inl (.inl h)
theorem SqT.of {K:W.Frag} (h:H a=some (.tup xs)):SqT K H a xs:= .inl (.inl h)
theorem Inv.list (I:Inv X pins σ H s) (h:SqL X.K H a xs): ∃its:List Value,Vals xs its/\PlainL s.heap a its.toArray/\xs.length<=sizeLine:=by
 rcases h with h | ⟨o,its,n,hk,hc,hd,hs,hz,r⟩
 ·obtain ⟨z,its,n,r,e⟩:=h.ok I.hok;exact ⟨its,r,⟨_,n,e,rfl,rfl,rfl⟩,z⟩
 ·refine ⟨its.toList,r,⟨o,n,I.kIn a o hk,hc,hd,by simpa using hs⟩,?_⟩;have e:=r.length;simp only [Yk] at e;rfl'
theorem Inv.tuple (I:Inv X pins σ H s) (h:SqT X.K H a xs): ∃its:List Value,Vals xs its/\IsTup s.heap a its.toArray/\xs.length<=sizeLine:=by
 rcases h with h | ⟨o,its,n,hk,hc,hs,hz,r⟩
 ·obtain ⟨z,its,r,p⟩:=h.ok I.hok;exact ⟨its,r,p,z⟩
 ·refine ⟨its.toList,r,⟨o,I.kIn a o hk,hc,n,by simpa using hs⟩,?_⟩;have e:=r.length;simp only [Yk] at e;rfl'
theorem Inv.list_inj (I:Inv X pins σ H s) (h:SqL X.K H a xs) (h':SqL X.K H a ys):xs=ys:=by
 obtain ⟨its,r,⟨o,n,e,_,_,d⟩,_⟩:=I.list h;obtain ⟨its',r',⟨o',n',e',_,_,d'⟩,_⟩:=I.list h';rw [e] at e';cases e';rw [d] at d';injection d' with d1 _
 have:its=its':=by simpa using Yn Array.toList d1
 subst this;exact r.inj r'
theorem Inv.tuple_inj (I:Inv X pins σ H s) (h:SqT X.K H a xs) (h':SqT X.K H a ys):xs=ys:=by
 obtain ⟨its,r,⟨o,e,_,n,d⟩,_⟩:=I.tuple h;obtain ⟨its',r',⟨o',e',_,n',d'⟩,_⟩:=I.tuple h';rw [e] at e';cases e';rw [d] at d';injection d' with d1 _
 have:its=its':=by simpa using Yn Array.toList d1
 subst this;exact r.inj r'
end
abbrev Cx.wish (X:Cx) (E:Value->Shared->Prop):Cx:={ X with xe:=E }
abbrev Cx.nox (X:Cx):Cx:=X.wish λ _ _=>False
theorem Cx.Ok.wish {X:Cx} (ok:X.Ok) (E:Value->Shared->Prop):(X.wish E).Ok:=
 ⟨ok.mod,ok.kind,ok.glob,ok.blt,ok.above,ok.inj,ok.has,ok.cab,ok.hd,ok.frames,ok.stk,ok.exf,ok.bs,ok.bsz,ok.noex,ok.exfs,ok.funs,ok.frf⟩
theorem Cx.Ok.unwish {X:Cx} {E:Value->Shared->Prop} (ok:(X.wish E).Ok):X.Ok:=
 ⟨ok.mod,ok.kind,ok.glob,ok.blt,ok.above,ok.inj,ok.has,ok.cab,ok.hd,ok.frames,ok.stk,ok.exf,ok.bs,ok.bsz,ok.noex,ok.exfs,ok.funs,ok.frf⟩
section
variable {X:Cx} {pins:List (Addr×Obj)} {σ:St} {H:Hp} {s:Shared} {E:Value->Shared->Prop}
theorem Inv.wish (I:Inv X pins σ H s) (E:Value->Shared->Prop):Inv (X.wish E) pins σ H s:=⟨I.ok.wish E,I.os,I.bare,I.base,I.loc,I.cell,I.free,I.freeC,I.pin,I.hok,I.len⟩
theorem Inv.unwish (I:Inv (X.wish E) pins σ H s):Inv X pins σ H s:=⟨I.ok.unwish,I.os,I.bare,I.base,I.loc,I.cell,I.free,I.freeC,I.pin,I.hok,I.len⟩
theorem SP.unwish {D:Ends} {f:Flow} {s':Shared} (h:SP (X.wish E) pins D f s'):SP X pins D f s':=by
 cases f with
 | next=>obtain ⟨σ',H',I,q⟩:=h;exact ⟨σ',H',I.unwish,q⟩
 | brk=>obtain ⟨σ',H',I,q⟩:=h;exact ⟨σ',H',I.unwish,q⟩
 | cont=>obtain ⟨σ',H',I,q⟩:=h;exact ⟨σ',H',I.unwish,q⟩
 | ret u=>obtain ⟨v,σ',H',I,r,q⟩:=h;exact ⟨v,σ',H',I.unwish,r,q⟩
theorem PSs.nox {st:List Stmt} {t:TS} (h:PSs X.nox st t):PSs X st t:=λ pins s σ H D I hw=>
 Xe (h pins s σ H D (I.wish _) hw) (λ _ _ q=>q.unwish) λ _ _ z=>False.elim z
end
section
variable {X:Cx} {st:Stmt} {rest:List Stmt} {t u:TS} {e:Expr} {te:TE} {pos:Pos}
def bD:TS:=λ D σ H=>D.nx σ H
def aN (t u:TS):TS:=λ D σ H=>t { D with nx:=u D } σ H
theorem aZ:PSs X [] bD:=λ _ _ σ H _ I h=>wpAny_execs_nil ⟨σ,H,I,h⟩
theorem ao (h1:PS X st t) (h2:PSs X rest u):PSs X (st::rest) (aN t u):=by
 intro pins s σ H D I h;refine wpAny_execs_cons (bL (h1 pins s σ H { D with nx:=u D } I h) λ f s1 q=> ?_)
 cases f with
 | next=>
  obtain ⟨σ',H',I',q⟩:=q;exact h2 pins s1 σ' H' D I' q
 | ret v=>exact q
 | brk=>exact q
 | cont=>exact q
theorem aA (h1:PS X st t):PSs X [st] t:=by
 intro pins s σ H D I h;refine wpAny_execs_cons (bL (h1 pins s σ H D I h) λ f s1 q=> ?_)
 cases f with
 | next=>exact wpAny_execs_nil q
 | ret v=>exact q
 | brk=>exact q
 | cont=>exact q
def vB:TS:=λ D σ H=>D.bk σ H
def Rt:TS:=λ D σ H=>D.ct σ H
theorem Bh:PS X (.Break pos) vB:=λ _ _ σ H _ I h=>wpAny_Break ⟨σ,H,I,h⟩
theorem Inv.quiet {pins:List (Addr×Obj)} {σ:St} {H:Hp} {s:Shared} (I:Inv X pins σ H s):interactive X.env=false:=by simp [interactive,I.ok.kind]
def eV (te:TE):TS:=λ D σ H=>te σ H λ _ H1=>D.nx σ H1
theorem cz (he:PE X e te) (hs:swapsWith e none pos.line X.env=pure false:=by rfl):PS X (.Expr e pos) (eV te):=by
 intro pins s σ H D I h;exact wpAny_Expr_any (bL (he pins s σ H _ I h) λ v s1 ⟨x,H1,I1,r1,q1⟩=>⟨σ,H1,I1,q1⟩) I.quiet hs
def bV (te:TE):TS:=λ D σ H=>te σ H D.rt
theorem bf (he:PE X e te):PS X (.Return (some e) pos) (bV te):=by
 intro pins s σ H D I h;exact wpAny_Return_some (bL (he pins s σ H _ I h) λ v s1 ⟨x,H1,I1,r1,q1⟩=>⟨x,σ,H1,I1,r1,q1⟩)
def Ru:TS:=λ D _ H=>D.rt .non H
def cu (c:TT) (t u:TS):TS:=λ D σ H=>c σ H λ b H1=>if b=true then t D σ H1 else u D σ H1
theorem bH {c:Expr} {a b:List Stmt} {tc:TT} (hc:PT X c tc) (ha:PSs X a t) (hb:PSs X b u):PS X (.If c a b pos) (cu tc t u):=by
 intro pins s σ H D I h;refine wpAny_If (bL (hc pins s σ H _ I h) λ d s1 ⟨H1,I1,q1⟩=> ?_)
 cases d with
 | true=>exact ha pins s1 σ H1 D I1 q1
 | false=>exact hb pins s1 σ H1 D I1 q1
end
abbrev TG:=V->St->Hp->(St->Hp->Prop)->Prop
abbrev G4:=List V->St->Hp->(St->Hp->Prop)->Prop
def PG (X:Cx) (target:Expr) (t:TG):Prop:=
 ∀ (pins:List (Addr×Obj)) (s:Shared) (σ:St) (H:Hp) (v:V) (u:Value) (Q:St->Hp->Prop),Inv X pins σ H s->RelV v u->t v σ H Q->
  wpAny (model X.prog X.w) X.A (assign target X.env u) (λ _ s'=> ∃σ' H',Inv X pins σ' H' s'/\Q σ' H') X.xe s
def NB (X:Cx) (ts:List Expr) (t:G4):Prop:=
 ∀ (pins:List (Addr×Obj)) (s:Shared) (σ:St) (H:Hp) (vs:List V) (us:List Value) (Q:St->Hp->Prop),Inv X pins σ H s->Vals vs us->t vs σ H Q->
  wpAny (model X.prog X.w) X.A (assignInOrder ((assignEach ts X.env).map (·.2)) us) (λ _ s'=> ∃σ' H',Inv X pins σ' H' s'/\Q σ' H') X.xe s
abbrev Bj:=V->V->V->Hp->(Hp->Prop)->Prop
def NK (X:Cx) (t:Bj):Prop:=
 ∀ (pins:List (Addr×Obj)) (s:Shared) (σ:St) (H:Hp) (o i v:V) (ov iv u:Value) (Q:Hp->Prop),Inv X pins σ H s->RelV o ov->RelV i iv->RelV v u->t o i v H Q->
  wpAny (model X.prog X.w) X.A (setItem ov iv u) (λ _ s'=> ∃H',Inv X pins σ H' s'/\Q H') X.xe s
abbrev QS:=V->V->Hp->VK->Prop
section
variable {X:Cx} {pos:Pos}
def aB (i:Nat):TG:=λ v σ H Q=>Q (σ.set i (some v)) H
theorem aM {i:Nat} {x:Str} (hN:X.N.Nodup) (hi:X.N[i]? =some x) (hx:Loc X.env.scope x) (hf:X.fn x=true\/X.env.scope.names.lookup x=some .local:=by first | exact .inl rfl | exact .inr rfl | assumption):PG X (.Name x pos) (aB i):=by
 intro pins s σ H v u Q I r h;exact wpAny_assign_Name (u9 I hN hi hx r (λ s' I'=>⟨_,H,I',h⟩) hf)
def mV:G4:=λ vs σ H Q=>vs=[]/\Q σ H
def cN (t:TG) (u:G4):G4:=λ vs σ H Q=> ∃v r,vs=v::r/\t v σ H λ σ' H'=>u r σ' H' Q
theorem eO:NB X [] mV:=by
 intro pins s σ H vs us Q I r h;obtain ⟨e,h⟩:=h;subst e
 cases r;exact assignInOrder_nil ⟨σ,H,I,h⟩
theorem bz {e:Expr} {es:List Expr} {t:TG} {u:G4} (h1:PG X e t) (h2:NB X es u)
  (hs:(assignEach (e::es) X.env).map (·.2)=assign e X.env::(assignEach es X.env).map (·.2):=by rfl):NB X (e::es) (cN t u):=by
 intro pins s σ H vs us Q I r h;obtain ⟨v,vr,e1,h⟩:=h;subst e1
 cases r with
 | cons r rr=>
  rw [hs];refine assignInOrder_cons (bL (h1 pins s σ H _ _ _ I r h) λ _ s1 ⟨σ1,H1,I1,q1⟩=> ?_);exact h2 pins s1 σ1 H1 _ _ Q I1 rr q1
def km (K:W.Frag) (n:Nat) (t:G4):TG:=λ v σ H Q=> ∃a xs,v= .ref a/\SqT K H a xs/\xs.length=n/\t xs σ H Q
theorem JP {es:List Expr} {k:Nat} {t:G4} {n:Nat} (hc:X.calm=true) (h:NB X es t)
  (hn:(assignEach es X.env).length=n:=by rfl) (hst:(assignEach es X.env).findIdx? (·.1)=none:=by rfl):PG X (.Tuple es k pos) (km X.K n t):=by
 intro pins s σ H v u Q I r hw;obtain ⟨a,xs,e1,hq,hl,hw⟩:=hw;subst e1
 cases r;obtain ⟨its,rv,ht,hz⟩:=I.tuple hq;refine assign_Tuple_tuple (I.ok.hd hc) ht (by simp [hn,<- hl,rv.length]) hst λ h' hx=> ?_
 have I1:Inv X pins σ H { s with heap:=h' }:=I.kept (t':=s.toks) λ b o e=>hx b o (Yc (Zm e)) e
 exact h pins _ σ H xs _ Q I1 (by simpa using rv) hw
def JQ (to ti:TE) (t:Bj):TG:=λ v σ H Q=>to σ H λ o H1=>ti σ H1 λ i H2=>t o i v H2 λ H3=>Q σ H3
theorem JR {o i:Expr} {to ti:TE} {t:Bj} (ho:PE X o to) (hi:PE X i ti) (hs:NK X t)
  (ha: ∀v,assign (.Subscript o i pos) X.env v=(do
   let ov <- holding [v] (eval o X.env)
   let iv <- holding [v,ov] (eval i X.env)
   standAt pos
   holding [v,ov,iv] (setItem ov iv v)
   release [v,ov,iv] []):=by intro _;rfl):PG X (.Subscript o i pos) (JQ to ti t):=by
 intro pins s σ H v u Q I r h;rw [ha];refine Za (Wi (bL (ho pins s σ H _ I h) λ ov s1 ⟨x,H1,I1,r1,q1⟩=> ?_));refine Za (Wi (bL (hi pins s1 σ H1 _ I1 q1) λ iv s2 ⟨y,H2,I2,r2,q2⟩=> ?_));refine Za (wpAny_standAt (Za (Wi (bL (hs pins s2 σ H2 x y v ov iv u _ I2 r1 r2 r q2) λ _ s3 ⟨H3,I3,q3⟩=> ?_))));exact wpAny_release ⟨σ,H3,I3,q3⟩
def b7 (te:TE) (g:TG):TS:=λ D σ H=>te σ H λ x H1=>g x σ H1 D.nx
theorem vC {tg e:Expr} {te:TE} {g:TG} (he:PE X e te) (hg:PG X tg g) (hs:swapsWithSole [tg] e pos.line X.env=pure false:=by rfl) (hw:swappedStores [tg] e X.env=pure none:=by rfl)
  (h1:(assignEach [tg] X.env).map (·.2)=[assign tg X.env]:=by rfl):PS X (.Assign [tg] e pos) (b7 te g):=by
 intro pins s σ H D I h;refine wpAny_Assign_stores (bL (he pins s σ H _ I h) λ v s1 ⟨x,H1,I1,r1,q1⟩=> ?_) hs hw;rw [h1];exact bL (hg pins s1 σ H1 x v _ I1 r1 q1) λ _ s2 q=>q
theorem aG {i:Nat} {x:Str} {e:Expr} {te:TE} {pos':Pos} (hN:X.N.Nodup) (hi:X.N[i]? =some x) (hx:Loc X.env.scope x) (he:PE X e te) (hs:swapsWith e (some (.Name x pos')) pos.line X.env=pure false:=by rfl) (hf:X.fn x=true\/X.env.scope.names.lookup x=some .local:=by first | exact .inl rfl | exact .inr rfl | assumption):
  PS X (.Assign [.Name x pos'] e pos) (b7 te (aB i)):=by
 intro pins s σ H D I h;refine wpAny_Assign_Name (bL (he pins s σ H _ I h) λ v s1 ⟨y,H1,I1,r1,q1⟩=> ?_) hs;exact u9 I1 hN hi hx r1 (λ s2 I2=>⟨_,H1,I2,q1⟩) hf
def T5 (i:Nat) (te:TE) (ti:QS):TS:=λ D σ H=> ∃x,σ[i]? =some (some x)/\te σ H λ y H1=>ti x y H1 λ z H2=>D.nx (σ.set i (some z)) H2
def Rv (to ti te:TE) (tget:V->V->Hp->VK->Prop) (tip:QS) (tset:Bj):TS:=λ D σ H=>to σ H λ o H1=>ti σ H1 λ i H2=>tget o i H2 λ x H3=>te σ H3 λ y H4=>tip x y H4 λ z H5=>tset o i z H5 λ H6=>D.nx σ H6
def Tt (f:Int->Int->Int):QS:=λ x y H Q=> ∃i j,x= .int i/\y= .int j/\Q (.int (f i j)) H
end
section
variable {X:Cx} {pos:Pos}
def jl (c:TT) (tb:TS):TS:=λ D σ H=> ∃W:Nat->St->Hp->Prop,(∃m,W m σ H)/\ ∀m σ H,W m σ H->
 c σ H λ b H1=>if b=true then ∃N:St->Hp->Prop,(∀σ' H',N σ' H'-> ∃m',m'<m/\W m' σ' H')/\tb { D with nx:=N,ct:=N,bk:=D.nx } σ H1 else D.nx σ H1
theorem nY {c:Expr} {body:List Stmt} {tc:TT} {tb:TS} (hp:PassesOwn (model X.prog X.w) X.A X.env X.xe) (hc:PT X c tc) (hb:PSs X body tb):PS X (.While c body [] pos) (jl tc tb):=by
 intro pins s σ H D I h;obtain ⟨W,⟨m0,w0⟩,turn⟩:=h;refine wpAny_While (codeAny_whileLoop (λ n s'=> ∃σ' H',Inv X pins σ' H' s'/\W n σ' H') ?_ m0 ⟨σ,H,I,w0⟩);rintro n s1 ⟨σ1,H1,I1,w1⟩;refine wpAny_passesOwn hp (bL (hc pins s1 σ1 H1 _ I1 (turn n σ1 H1 w1)) λ b s2 ⟨H2,I2,q2⟩=> ?_)
 cases b with
 | true=>
  obtain ⟨N,hN,q2⟩:=q2;rw [if_pos rfl];refine wpAny_passesOwn hp (bL (hb pins s2 σ1 H2 _ I2 q2) λ f s3 q3=> ?_)
  cases f with
  | next=>
   obtain ⟨σ3,H3,I3,n3⟩:=q3;obtain ⟨m',hm,w3⟩:=hN σ3 H3 n3;exact ⟨m',hm,σ3,H3,I3,w3⟩
  | cont=>
   obtain ⟨σ3,H3,I3,n3⟩:=q3;obtain ⟨m',hm,w3⟩:=hN σ3 H3 n3;exact ⟨m',hm,σ3,H3,I3,w3⟩
  | brk=>exact q3
  | ret v=>exact q3
 | false=>
  rw [if_neg Zt];exact wpAny_execs_nil ⟨σ1,H2,I2,q2⟩
end
structure It where
 go:Nat->Hp->Prop
 yld:Nat->Hp->V->Hp->Prop
 stop:Nat->Hp->Prop
def kE (X:Cx) (pins:List (Addr×Obj)) (H:Hp) (b:Addr):Prop:=
 H b=none/\b≠X.env.locals/\b∉X.fs/\(b∈X.ex\/X.s₀.heap.objs.size<=b)/\(∀x c,X.env.cells.lookup x=some c->c≠b)/\ ∀p∈X.pn++pins,p.1≠b
theorem Inv.fpOk {X:Cx} {pins:List (Addr×Obj)} {σ:St} {H H':Hp} {s:Shared} {b:Addr} (I:Inv X pins σ H s) (hb:s.heap.objs.size<=b) (hn:H' b=none):kE X pins H' b:=by
 refine ⟨hn,Nat.ne_of_gt (Zs I.lt hb),I.nofs hb, .inr (Zw I.sz hb),λ x c e z=> ?_,λ p hp z=> ?_⟩
 ·obtain ⟨v,q⟩:=I.cell x c e;exact absurd (Zs q.lt (by rw [z];exact hb)) (Wd _)
 ·exact absurd (Zs (Zm (I.pin p hp).1) (by rw [z];exact hb)) (Wd _)
structure Turn (P:Program) (w:World) (K:W.Frag) (tg:Expr) (J:It) (fp:List Addr) (it:Addr) (tn:Nat->Heap->Prop):Prop where
 mem:it∈fp
 obj: ∀i h,tn i h-> ∀b∈fp,∃o,h.get? b=some o/\ ∀v,o.data≠ .cell v
 keep: ∀i h h',tn i h->(∀b∈fp,∀o,h.get? b=some o->h'.get? b=some o)->tn i h'
 item: ∀ (X:Cx),X.prog=P->X.w=w->X.K=K->X.calm=true-> ∀ (i:Nat) (pins:List (Addr×Obj)) (s:Shared) (σ:St) (H:Hp) (E:Value->Shared->Prop),Inv X pins σ H s->(∀b∈fp,kE X pins H b)->tn i s.heap->J.go i H->
  wpAny (model P w) X.A (pyNext (.ref it)) (λ r s1=> ∃u,r=some u/\
   wpAny (model P w) X.A (letOwnedTupleGo tg (.ref it) u) (λ _ s2=> ∃x H',Inv X pins σ H' s2/\RelV x u/\J.yld i H x H'/\tn (i+1) s2.heap/\ ∀b∈fp,H' b=none) E s1) E s
 done: ∀ (X:Cx),X.prog=P->X.w=w->X.K=K->X.calm=true-> ∀ (i:Nat) (pins:List (Addr×Obj)) (s:Shared) (σ:St) (H:Hp) (E:Value->Shared->Prop),Inv X pins σ H s->(∀b∈fp,kE X pins H b)->tn i s.heap->J.stop i H->
  wpAny (model P w) X.A (pyNext (.ref it)) (λ r s1=>r=none/\Inv X pins σ H s1) E s
 self: ∀ (A:Around) (i:Nat) (s:Shared) (Q:Value->Shared->Prop) (E:Value->Shared->Prop),tn i s.heap->Q (.ref it) s->wpAny (model P w) A (pyIter (.ref it)) Q E s
abbrev TI:=St->Hp->(It->Hp->Prop)->Prop
def PIE (X:Cx) (pins:List (Addr×Obj)) (σ:St) (tg:Expr) (R:It->Hp->Prop) (itv:Value) (s2:Shared):Prop:=
 ∃ (it:Addr) (fp:List Addr) (tn:Nat->Heap->Prop) (J:It) (H':Hp),itv= .ref it/\Inv X pins σ H' s2/\Turn X.prog X.w X.K tg J fp it tn/\tn 0 s2.heap/\(∀b∈fp,kE X pins H' b)/\R J H'
def PI (X:Cx) (tg iter:Expr) (wi:TI):Prop:=
 ∀ (pins:List (Addr×Obj)) (s:Shared) (σ:St) (H:Hp) (R:It->Hp->Prop),Inv X pins σ H s->wi σ H R->
  wpAny (model X.prog X.w) X.A (eval iter X.env) (λ v s1=>wpAny (model X.prog X.w) X.A (pyIter v) (PIE X pins σ tg R) X.xe s1) X.xe s
theorem ud {M:Model} {A:Around} {E:Value->Shared->Prop} {s:Shared} {tg:Expr} {it:Addr} {u:Value} {o:Obj} {n:String} {vs:Array Value} {Q:Unit->Shared->Prop} (ho:s.heap.get? it=some o) (hc:o.cls= .type n) (hd:o.data= .fields vs)
  (hn:["enumerate","zip","dict_itemiterator","dict_reverseitemiterator","odict_iterator","itertools.zip_longest","itertools.pairwise"].contains n=false) (hQ:Q () s):wpAny M A (letOwnedTupleGo tg (.ref it) u) Q E s:=by
 unfold letOwnedTupleGo
 cases tg <;> first
  | exact Zh hQ
  | (cases u<;>first
    | exact Zh hQ
    | (refine Za (wpAny_load ho ?_)
       rw [hc,hd];show wpAny M A (if (["enumerate","zip","dict_itemiterator","dict_reverseitemiterator","odict_iterator","itertools.zip_longest","itertools.pairwise"].contains n&&vs[0]? ==some (rawInt _))=true then _ else _) Q E s;rw [if_neg (by intro h;rw [hn,Bool.false_and] at h;cases h)];exact Zh hQ))
def Gg (K:W.Frag) (a:Addr):It:=
 ⟨λ i H=> ∃xs x,SqL K H a xs/\xs[i]? =some x,λ i H x H'=>H'=H/\ ∀xs,SqL K H a xs->xs[i]? =some x,λ i H=> ∃xs,SqL K H a xs/\xs.length<=i⟩
def Nt (K:W.Frag) (a:Addr):It:=
 ⟨λ i H=> ∃xs x,SqT K H a xs/\xs[i]? =some x,λ i H x H'=>H'=H/\ ∀xs,SqT K H a xs->xs[i]? =some x,λ i H=> ∃xs,SqT K H a xs/\xs.length<=i⟩
def vD (lo:Int) (n:Nat):It:=⟨λ i _=>i<n,λ i H x H'=>H'=H/\x= .int (lo+i),λ i _=>n<=i⟩
theorem zL {P:Program} {w:World} {K:W.Frag} {tg:Expr} (a it:Addr):Turn P w K tg (Gg K a) [it] it (λ i h=>h.IsListIter it a i) where
 mem:=by simp
 obj:=λ i h st b hb=>by
  have e:b=it:=by simpa using hb
  subst e;obtain ⟨o,e,c,d⟩:=st;exact ⟨o,e,λ v z=>by rw [d] at z;cases z⟩
 keep:=λ i h h' st k=>st.at λ o e=>k it (by simp) o e
 item:=by
  intro X hP hw hK hc i pins s σ H E I hf st hg;subst hP hw hK;obtain ⟨xs,x,hq,hx⟩:=hg;obtain ⟨its,rv,p,hz⟩:=I.list hq;obtain ⟨u,hu,ru⟩:=rv.get hx;obtain ⟨f0,f1,f2,f3,f4,f5⟩:=hf it (by simp);refine wpAny_pyNext_list_item st p.isList (x:=u) (by simpa using hu) λ h' st' sb=> ?_
  have I1:Inv X pins σ H { s with heap:=h' }:=I.turned (t':=s.toks) (λ b o hb e=>(sb.2 b hb).trans e) f0 f1 f3 f4 f5;obtain ⟨o,e,c,d⟩:=id st';exact ⟨u,rfl,ud (s:={ s with heap:=h' }) e c d (by decide) ⟨x,H,I1,ru,⟨rfl,λ ys hy=>by rw [I.list_inj hy hq];exact hx⟩,st',λ b hb=>(hf b hb).1⟩⟩
 done:=by
  intro X hP hw hK hc i pins s σ H E I hf st hg;subst hP hw hK;obtain ⟨xs,hq,hx⟩:=hg;obtain ⟨its,rv,p,hz⟩:=I.list hq;obtain ⟨f0,f1,f2,f3,f4,f5⟩:=hf it (by simp);have hl:=rv.length;exact wpAny_pyNext_list_end (I.ok.hd hc) st p.isList (by simp;rfl') λ h' eb=>⟨rfl,I.turned (t':=s.toks) (λ b o hb e=>eb b o hb e) f0 f1 f3 f4 f5⟩
 self:=λ _ _ _ _ _ st h=>wpAny_pyIter_listiter st h
theorem vG {P:Program} {w:World} {K:W.Frag} {tg:Expr} (a it:Addr):Turn P w K tg (Nt K a) [it] it (λ i h=>h.IsTupleIter it a i) where
 mem:=by simp
 obj:=λ i h st b hb=>by
  have e:b=it:=by simpa using hb
  subst e;obtain ⟨o,e,c,d⟩:=st;exact ⟨o,e,λ v z=>by rw [d] at z;cases z⟩
 keep:=λ i h h' st k=>st.at λ o e=>k it (by simp) o e
 item:=by
  intro X hP hw hK hc i pins s σ H E I hf st hg;subst hP hw hK;obtain ⟨xs,x,hq,hx⟩:=hg;obtain ⟨its,rv,p,hz⟩:=I.tuple hq;obtain ⟨u,hu,ru⟩:=rv.get hx;obtain ⟨f0,f1,f2,f3,f4,f5⟩:=hf it (by simp);refine wpAny_pyNext_tuple_item st (show s.heap.IsTuple a its.toArray from p) (x:=u) (by simpa using hu) λ h' st' sb=> ?_
  have I1:Inv X pins σ H { s with heap:=h' }:=I.turned (t':=s.toks) (λ b o hb e=>(sb.2 b hb).trans e) f0 f1 f3 f4 f5;obtain ⟨o,e,c,d⟩:=id st';exact ⟨u,rfl,ud (s:={ s with heap:=h' }) e c d (by decide) ⟨x,H,I1,ru,⟨rfl,λ ys hy=>by rw [I.tuple_inj hy hq];exact hx⟩,st',λ b hb=>(hf b hb).1⟩⟩
 done:=by
  intro X hP hw hK hc i pins s σ H E I hf st hg;subst hP hw hK;obtain ⟨xs,hq,hx⟩:=hg;obtain ⟨its,rv,p,hz⟩:=I.tuple hq;obtain ⟨f0,f1,f2,f3,f4,f5⟩:=hf it (by simp);have hl:=rv.length;exact wpAny_pyNext_tuple_end (I.ok.hd hc) st (show s.heap.IsTuple a its.toArray from p) (by simp;rfl') λ h' eb=>⟨rfl,I.turned (t':=s.toks) (λ b o hb e=>eb b o hb e) f0 f1 f3 f4 f5⟩
 self:=λ _ _ _ _ _ st h=>wpAny_pyIter_tupleiter st h
theorem vH {P:Program} {w:World} {K:W.Frag} {tg:Expr} (it:Addr) (lo:Int) (n:Nat):Turn P w K tg (vD lo n) [it] it (λ i h=>IsRangeIter h it (lo+(i:Nat)*1) ((n:Int)-(i:Nat)) 1) where
 mem:=by simp
 obj:=λ i h st b hb=>by
  have e:b=it:=by simpa using hb
  subst e;exact ⟨_,st,λ v z=>by
   have z':Data.fields _=Data.cell v:=z
   cases z'⟩
 keep:=λ i h h' st k=>k it (by simp) _ st
 item:=by
  intro X hP hw hK hc i pins s σ H E I hf st hg;subst hP hw hK;obtain ⟨f0,f1,f2,f3,f4,f5⟩:=hf it (by simp);have W:=Walks.range (prog:=X.prog) (w:=X.w) (I.ok.hd hc) it lo 1 n;refine W.item i s _ _ hg st λ v h' tk hv st' kk=> ?_
  obtain ⟨t,rfl⟩:=hv;have I1:Inv X pins σ H { s with heap:=h',toks:=tk }:=I.turned (λ b o hb e=>kk b o (by simpa using hb) e) f0 f1 f3 f4 f5;refine ⟨_,rfl,ud (s:={ s with heap:=h',toks:=tk }) (n:="range_iterator") st' rfl rfl (by decide) ⟨.int (lo+i),H,I1,⟨t,?_⟩,⟨rfl,rfl⟩,st',λ b hb=>(hf b hb).1⟩⟩;rw [Int.mul_one]
 done:=by
  intro X hP hw hK hc i pins s σ H E I hf st hg;subst hP hw hK;obtain ⟨f0,f1,f2,f3,f4,f5⟩:=hf it (by simp);exact wpAny_pyNext_range_end (I.ok.hd hc) st (by have:n<=i:=hg;rfl') λ h' eb=>⟨rfl,I.turned (t':=s.toks) (λ b o hb e=>eb b o hb e) f0 f1 f3 f4 f5⟩
 self:=λ _ _ _ _ _ st h=>wpAny_pyIter_rangeiter st h
section
variable {X:Cx} {tg:Expr}
def dF (K:W.Frag) (tl:TE):TI:=λ σ H R=>tl σ H λ x H1=> ∃a,x= .ref a/\(∃xs,SqL K H1 a xs)/\R (Gg K a) H1
def mW (K:W.Frag) (tl:TE):TI:=λ σ H R=>tl σ H λ x H1=> ∃a,x= .ref a/\(∃xs,SqT K H1 a xs)/\R (Nt K a) H1
theorem Gh {l:Expr} {tl:TE} (hl:PE X l tl):PI X tg l (dF X.K tl):=by
 intro pins s σ H R I h;refine bL (hl pins s σ H _ I h) λ v s1 ⟨x,H1,I1,r1,q1⟩=> ?_
 obtain ⟨a,e,⟨xs,hq⟩,q⟩:=q1;subst e
 cases r1;obtain ⟨its,rv,p,hz⟩:=I1.list hq;refine wpAny_pyIter_list p.isList ?_;refine ⟨s1.heap.objs.size,[s1.heap.objs.size],_,_,H1,rfl,I1.kept (t':=s1.toks) λ b o e=>Zd _ e,zL a _,⟨_,Zo _ rfl,rfl,rfl⟩,λ b hb=> ?_,q⟩;have e:b=s1.heap.objs.size:=by simpa using hb
 subst e;exact I1.fpOk (Zn _) (I1.hok.fresh (Zn _))
theorem JS {l:Expr} {tl:TE} (hl:PE X l tl):PI X tg l (mW X.K tl):=by
 intro pins s σ H R I h;refine bL (hl pins s σ H _ I h) λ v s1 ⟨x,H1,I1,r1,q1⟩=> ?_
 obtain ⟨a,e,⟨xs,hq⟩,q⟩:=q1;subst e
 cases r1;obtain ⟨its,rv,p,hz⟩:=I1.tuple hq;refine wpAny_pyIter_tuple (show s1.heap.IsTuple a its.toArray from p) ?_;refine ⟨s1.heap.objs.size,[s1.heap.objs.size],_,_,H1,rfl,I1.kept (t':=s1.toks) λ b o e=>Zd _ e,vG a _,⟨_,Zo _ rfl,rfl,rfl⟩,λ b hb=> ?_,q⟩;have e:b=s1.heap.objs.size:=by simpa using hb
 subst e;exact I1.fpOk (Zn _) (I1.hok.fresh (Zn _))
theorem ue {pins:List (Addr×Obj)} {σ:St} {H:Hp} {s:Shared} {R:It->Hp->Prop} {E:Value->Shared->Prop} {lo hi:Int} {t u v:Tok} {tk:Nat} (I:Inv X pins σ H s) (h1: -(2^62)<=lo) (h2:lo<2^62) (h3: -(2^62)<=hi) (h4:hi<2^62)
  (q:R (vD lo (hi-lo).toNat) H):wpAny (model X.prog X.w) X.A (pyIter (.ref s.heap.objs.size)) (PIE X pins σ tg R) E { s with heap:=s.heap.push { cls:= .type "range",data:= .fields #[.int lo t, .int hi u, .int 1 v] },toks:=tk }:=by
 refine wpAny_pyIter_range (IsRange.new ..) (small_one h1 h2 h3 h4) ?_;have I1:Inv X pins σ H { s with heap:=s.heap.push { cls:= .type "range",data:= .fields #[.int lo t, .int hi u, .int 1 v] },toks:=tk }:=I.kept λ b o e=>Zd _ e
 refine ⟨(s.heap.push { cls:= .type "range",data:= .fields #[.int lo t, .int hi u, .int 1 v] }).objs.size,[(s.heap.push { cls:= .type "range",data:= .fields #[.int lo t, .int hi u, .int 1 v] }).objs.size],_,_,H,rfl,
  I1.kept (t':=tk) λ b o e=>Zd _ e,vH _ lo (hi-lo).toNat,?_,λ b hb=> ?_,q⟩
 ·have e1:lo+((0:Nat):Int)*1=lo:=by simp
  have e2:(((hi-lo).toNat:Nat):Int)-((0:Nat):Int)=Builtin.Range.rangeSize lo hi 1:=by rw [rangeSize_one];split<;>rfl'
  show IsRangeIter _ _ (lo+((0:Nat):Int)*1) ((((hi-lo).toNat:Nat):Int)-((0:Nat):Int)) 1;rw [e1,e2];exact Zo _ rfl
 ·have e:b=(s.heap.push { cls:= .type "range",data:= .fields #[.int lo t, .int hi u, .int 1 v] }).objs.size:=by simpa using hb
  subst e;exact I1.fpOk (Zn _) (I1.hok.fresh (Zn _))
def iG (ta:TA):TI:=λ σ H R=>ta σ H λ vs H1=> ∃j:Int,vs=[.int j]/\ -(2^62)<=j/\j<2^62/\R (vD 0 j.toNat) H1
def ym (ta:TA):TI:=λ σ H R=>ta σ H λ vs H1=> ∃i j:Int,vs=[.int i, .int j]/\(-(2^62)<=i/\i<2^62/\ -(2^62)<=j/\j<2^62)/\R (vD i (j-i).toNat) H1
theorem cF {a:Expr} {ta:TA} {p pos:Pos} (hg:Gl X "range") (hm:X.mg "range"=none) (ha:PA X [a] ta) (hs:starEach [a] X.env=[(false,eval a X.env)]:=by rfl):PI X tg (.Call (.Name "range" p) [a] [] pos) (iG ta):=by
 intro pins s σ H R I h;refine Call_ (fL I hg hm boot_range (Wj (bL (ha pos pins s σ H _ I h) λ us s1 ⟨vs,H1,I1,r1,q1⟩=> ?_) hs rfl));obtain ⟨j,e,q1,q2,q⟩:=q1;subst e
 cases r1 with
 | cons r rr=>
  cases rr;obtain ⟨t,rfl⟩:=r;exact call_range_1 (ue I1 (by rfl') (by rfl') q1 q2 (by simpa using q))
theorem pY {a b:Expr} {ta:TA} {p pos:Pos} (hg:Gl X "range") (hm:X.mg "range"=none) (ha:PA X [a,b] ta) (hs:starEach [a,b] X.env=[(false,eval a X.env),(false,eval b X.env)]:=by rfl) (hs2:starEach [b] X.env=[(false,eval b X.env)]:=by rfl):
  PI X tg (.Call (.Name "range" p) [a,b] [] pos) (ym ta):=by
 intro pins s σ H R I h;refine Call_ (fL I hg hm boot_range (Wj (bL (ha pos pins s σ H _ I h) λ us s1 ⟨vs,H1,I1,r1,q1⟩=> ?_) (by rw [hs,hs2]) (by rw [hs2];rfl)));obtain ⟨i,j,e,⟨q1,q2,q3,q4⟩,q⟩:=q1;subst e
 cases r1 with
 | cons r rr=>
  cases rr with
  | cons r' rr=>
   cases rr;obtain ⟨t,rfl⟩:=r;obtain ⟨t',rfl⟩:=r';exact call_range_2 (ue I1 q1 q2 q3 q4 q)
def dG (wi:TI) (g:TG) (tb:TS):TS:=λ D σ H=>wi σ H λ J H1=> ∃W:Nat->Nat->St->Hp->Prop,(∃m,W 0 m σ H1)/\ ∀i m σ H,W i m σ H->
 (J.stop i H/\D.nx σ H)\/(J.go i H/\ ∃N:St->Hp->Prop,(∀σ' H',N σ' H'-> ∃m',m'<m/\W (i+1) m' σ' H')/\ ∀x H',J.yld i H x H'->g x σ H' λ σ2 H2=>tb { D with nx:=N,ct:=N,bk:=D.nx } σ2 H2)
def kI (fp:List Addr) (h:Heap):List (Addr×Obj):=fp.filterMap λ b=>(h.get? b).map λ o=>(b,o)
theorem dY {fp:List Addr} {h:Heap} {b:Addr} {o:Obj} (hb:b∈fp) (e:h.get? b=some o):(b,o)∈kI fp h:=List.mem_filterMap.mpr ⟨b,hb,by rw [e];rfl⟩
theorem zM {fp:List Addr} {h:Heap} {p:Addr×Obj} (hp:p∈kI fp h):p.1∈fp/\h.get? p.1=some p.2:=by
 obtain ⟨b,hb,e⟩:=List.mem_filterMap.mp hp
 cases q:h.get? b with
 | none=>rw [q] at e;cases e
 | some o=>
  rw [q] at e;have e':(b,o)=p:=Zx e;subst e';exact ⟨hb,q⟩
theorem Inv.pinned {pins:List (Addr×Obj)} {σ:St} {H:Hp} {s:Shared} {fp:List Addr} (I:Inv X pins σ H s) (hf: ∀b∈fp,kE X pins H b) (ho: ∀b∈fp,∃o,s.heap.get? b=some o/\ ∀v,o.data≠ .cell v):Inv X (pins++kI fp s.heap) σ H s:=
 I.pins_of λ p hp=>(Zv.mp hp).elim (λ z=>I.pin p (Yg _ z)) λ z=>by
  obtain ⟨hb,e⟩:=zM z;obtain ⟨f0,f1,f2,_⟩:=hf p.1 hb;obtain ⟨o,e',d⟩:=ho p.1 hb;rw [e] at e';cases e';exact ⟨e,f0,f1,f2,d⟩
theorem Inv.unpinned {pins pl:List (Addr×Obj)} {σ:St} {H:Hp} {s:Shared} (I:Inv X (pins++pl) σ H s):Inv X pins σ H s:=I.pins_of λ p hp=>I.pin p (Yg _ (Xo _ hp))
theorem bJ {iter:Expr} {body:List Stmt} {wi:TI} {g:TG} {tb:TS} {pos:Pos} (hp:PassesOwn (model X.prog X.w) X.A X.env X.xe) (hc:X.calm=true) (hi:PI X tg iter wi) (hg:PG X tg g) (hb:PSs X body tb)
  (hs: ∀x,foldedSetIterable iter X.env x=pure x:=by intro _;rfl):PS X (.For tg iter body [] pos) (dG wi g tb):=by
 intro pins s σ H D I h;refine wpAny_For (bL (hi pins s σ H _ I h) λ v s1 h1=>bL h1 λ itv s2 h2=> ?_) hs;obtain ⟨it,fp,tn,J,H2,e,I2,T,st2,f2,W,⟨m0,w0⟩,turn⟩:=h2;subst e;have stat: ∀ {H':Hp},(∀b∈fp,H' b=none)-> ∀b∈fp,kE X pins H' b:=λ hn b hb=>⟨hn b hb,(f2 b hb).2⟩
 refine codeAny_forLoop_any (λ n s'=> ∃i σ' H',Inv X pins σ' H' s'/\tn i s'.heap/\(∀b∈fp,H' b=none)/\W i n σ' H') ?_ m0 ⟨0,σ,H2,I2,st2,λ b hb=>(f2 b hb).1,w0⟩;rintro n s3 ⟨i,σ3,H3,I3,st3,fr3,w3⟩;rcases turn i n σ3 H3 w3 with ⟨stop,qn⟩ | ⟨go,N,hN,step⟩
 ·refine wpAny_passesOwn hp (bL (T.done X rfl rfl rfl hc i pins s3 σ3 H3 X.xe I3 (stat fr3) st3 stop) λ r s4 ⟨hr,I4⟩=> ?_);subst hr;exact wpAny_execs_nil ⟨σ3,H3,I4,qn⟩
 ·refine wpAny_passesOwn hp (bL (T.item X rfl rfl rfl hc i pins s3 σ3 H3 X.xe I3 (stat fr3) st3 go) λ r s4 ⟨u,hr,h4⟩=> ?_);subst hr;refine wpAny_passesOwn hp (bL h4 λ _ s5 ⟨x,H5,I5,r5,y5,st5,fr5⟩=> ?_);have I5':=I5.pinned (stat fr5) (T.obj _ _ st5);refine wpAny_passesOwn hp (bL (hg _ s5 σ3 H5 x u _ I5' r5 (step x H5 y5)) λ _ s6 ⟨σ6,H6,I6,q6⟩=> ?_);refine wpAny_passesOwn hp (bL (hb _ s6 σ6 H6 _ I6 q6) λ f s7 q7=> ?_);have again: ∀ {σ7:St} {H7:Hp},Inv X (pins++kI fp s5.heap) σ7 H7 s7->N σ7 H7-> ∃m,m<n/\ ∃i σ' H',Inv X pins σ' H' s7/\tn i s7.heap/\(∀b∈fp,H' b=none)/\W i m σ' H':=λ {σ7 H7} I7 n7=>by
   obtain ⟨m',hm,w7⟩:=hN σ7 H7 n7;refine ⟨m',hm,i+1,σ7,H7,I7.unpinned,T.keep _ _ _ st5 λ b hb o e=>(I7.pin (b,o) (Yg _ (Yg _ (dY hb e)))).1,λ b hb=> ?_,w7⟩;obtain ⟨o,e,d⟩:=T.obj _ _ st5 b hb;exact (I7.pin (b,o) (Yg _ (Yg _ (dY hb e)))).2.1
  cases f with
  | next=>obtain ⟨σ7,H7,I7,n7⟩:=q7;exact again I7 n7
  | cont=>obtain ⟨σ7,H7,I7,n7⟩:=q7;exact again I7 n7
  | brk=>obtain ⟨σ7,H7,I7,q7⟩:=q7;exact ⟨σ7,H7,I7.unpinned,q7⟩
  | ret v=>obtain ⟨x7,σ7,H7,I7,r7,q7⟩:=q7;exact ⟨x7,σ7,H7,I7.unpinned,r7,q7⟩
end
theorem Bk {K:W.Frag} {a:Addr} {xs:List V} {g:TG} {tb:TS} {D:Ends} {σ:St} {H:Hp} (Pv:Nat->St->Hp->Prop) (h0:Pv 0 σ H) (hl: ∀i σ H,i<=xs.length->Pv i σ H->SqL K H a xs)
  (hs: ∀i x σ H,xs[i]? =some x->Pv i σ H->g x σ H λ σ2 H2=>tb { D with nx:=Pv (i+1),ct:=Pv (i+1),bk:=D.nx } σ2 H2) (hd: ∀σ H,Pv xs.length σ H->D.nx σ H):
  ∃W:Nat->Nat->St->Hp->Prop,(∃m,W 0 m σ H)/\ ∀i m σ H,W i m σ H->
   ((Gg K a).stop i H/\D.nx σ H)\/((Gg K a).go i H/\ ∃N:St->Hp->Prop,(∀σ' H',N σ' H'-> ∃m',m'<m/\W (i+1) m' σ' H')/\ ∀x H',(Gg K a).yld i H x H'->g x σ H' λ σ2 H2=>tb { D with nx:=N,ct:=N,bk:=D.nx } σ2 H2):=by
 refine ⟨λ i m σ H=>m=xs.length-i/\i<=xs.length/\Pv i σ H,⟨xs.length,by simp,Yu _,h0⟩,?_⟩;rintro i m σ H ⟨rfl,hi,p⟩;have q:=hl i σ H hi p;by_cases hlt:i<xs.length
 ·refine .inr ⟨⟨xs,xs[i],q,by simp [hlt]⟩,Pv (i+1),λ σ' H' p'=>⟨xs.length-(i+1),by rfl',rfl,hlt,p'⟩,λ x H' y=> ?_⟩;obtain ⟨e,y⟩:=y;subst e;exact hs i x σ _ (y xs q) p
 ·have e:i=xs.length:=by rfl'
  subst e;exact .inl ⟨⟨xs,q,Zn _⟩,hd σ H p⟩
theorem Gi {K:W.Frag} {a:Addr} {xs:List V} {g:TG} {tb:TS} {D:Ends} {σ:St} {H:Hp} (Pv:Nat->St->Hp->Prop) (h0:Pv 0 σ H) (hl: ∀i σ H,i<=xs.length->Pv i σ H->SqT K H a xs)
  (hs: ∀i x σ H,xs[i]? =some x->Pv i σ H->g x σ H λ σ2 H2=>tb { D with nx:=Pv (i+1),ct:=Pv (i+1),bk:=D.nx } σ2 H2) (hd: ∀σ H,Pv xs.length σ H->D.nx σ H):
  ∃W:Nat->Nat->St->Hp->Prop,(∃m,W 0 m σ H)/\ ∀i m σ H,W i m σ H->
   ((Nt K a).stop i H/\D.nx σ H)\/((Nt K a).go i H/\ ∃N:St->Hp->Prop,(∀σ' H',N σ' H'-> ∃m',m'<m/\W (i+1) m' σ' H')/\ ∀x H',(Nt K a).yld i H x H'->g x σ H' λ σ2 H2=>tb { D with nx:=N,ct:=N,bk:=D.nx } σ2 H2):=by
 refine ⟨λ i m σ H=>m=xs.length-i/\i<=xs.length/\Pv i σ H,⟨xs.length,by simp,Yu _,h0⟩,?_⟩;rintro i m σ H ⟨rfl,hi,p⟩;have q:=hl i σ H hi p;by_cases hlt:i<xs.length
 ·refine .inr ⟨⟨xs,xs[i],q,by simp [hlt]⟩,Pv (i+1),λ σ' H' p'=>⟨xs.length-(i+1),by rfl',rfl,hlt,p'⟩,λ x H' y=> ?_⟩;obtain ⟨e,y⟩:=y;subst e;exact hs i x σ _ (y xs q) p
 ·have e:i=xs.length:=by rfl'
  subst e;exact .inl ⟨⟨xs,q,Zn _⟩,hd σ H p⟩
theorem pZ {lo:Int} {n:Nat} {g:TG} {tb:TS} {D:Ends} {σ:St} {H:Hp} (Pv:Nat->St->Hp->Prop) (h0:Pv 0 σ H)
  (hs: ∀i σ H,i<n->Pv i σ H->g (.int (lo+i)) σ H λ σ2 H2=>tb { D with nx:=Pv (i+1),ct:=Pv (i+1),bk:=D.nx } σ2 H2) (hd: ∀σ H,Pv n σ H->D.nx σ H):
  ∃W:Nat->Nat->St->Hp->Prop,(∃m,W 0 m σ H)/\ ∀i m σ H,W i m σ H->
   ((vD lo n).stop i H/\D.nx σ H)\/((vD lo n).go i H/\ ∃N:St->Hp->Prop,(∀σ' H',N σ' H'-> ∃m',m'<m/\W (i+1) m' σ' H')/\ ∀x H',(vD lo n).yld i H x H'->g x σ H' λ σ2 H2=>tb { D with nx:=N,ct:=N,bk:=D.nx } σ2 H2):=by
 refine ⟨λ i m σ H=>m=n-i/\i<=n/\Pv i σ H,⟨n,by simp,Yu _,h0⟩,?_⟩;rintro i m σ H ⟨rfl,hi,p⟩;by_cases hlt:i<n
 ·refine .inr ⟨hlt,Pv (i+1),λ σ' H' p'=>⟨n-(i+1),by rfl',rfl,hlt,p'⟩,λ x H' y=> ?_⟩;obtain ⟨e,y⟩:=y;subst e y;exact hs i σ _ hlt p
 ·have e:i=n:=by rfl'
  subst e;exact .inl ⟨Nat.le_refl _,hd σ H p⟩
theorem Bo {c:TT} {tb:TS} {D:Ends} {σ:St} {H:Hp} (Pv:St->Hp->Prop) (μ:St->Hp->Nat) (h0:Pv σ H)
  (hs: ∀σ H,Pv σ H->c σ H λ b H1=>if b=true then tb { D with nx:=λ σ' H'=>Pv σ' H'/\μ σ' H'<μ σ H,ct:=λ σ' H'=>Pv σ' H'/\μ σ' H'<μ σ H,bk:=D.nx } σ H1 else D.nx σ H1)
  (mono: ∀σ H Q Q',(∀b H1,Q b H1->Q' b H1)->c σ H Q->c σ H Q'):jl c tb D σ H:=by
 refine ⟨λ m σ H=>m=μ σ H/\Pv σ H,⟨_,rfl,h0⟩,?_⟩;rintro m σ H ⟨rfl,p⟩;refine mono σ H _ _ (λ b H1 q=> ?_) (hs σ H p)
 cases b with
 | true=>exact ⟨_,λ σ' H' ⟨p',l⟩=>⟨_,l,rfl,p'⟩,q⟩
 | false=>exact q
abbrev R2:=V->V->Hp->VK->Prop
def iH (X:Cx) (f:Value->Value->Sem Value) (r:R2):Prop:=
 ∀ (pins:List (Addr×Obj)) (s:Shared) (σ:St) (H:Hp) (x y:V) (v u:Value) (Q:VK),Inv X pins σ H s->RelV x v->RelV y u->r x y H Q->
  wpAny (model X.prog X.w) X.A (f v u) (EP X pins σ Q) X.xe s
def QT (X:Cx) (f:Value->Sem Value) (r:V->Hp->VK->Prop):Prop:=
 ∀ (pins:List (Addr×Obj)) (s:Shared) (σ:St) (H:Hp) (x:V) (v:Value) (Q:VK),Inv X pins σ H s->RelV x v->r x H Q->
  wpAny (model X.prog X.w) X.A (f v) (EP X pins σ Q) X.xe s
def cX (X:Cx) (f:Value) (r:List V->Hp->VK->Prop):Prop:=
 ∀ (pins:List (Addr×Obj)) (s:Shared) (σ:St) (H:Hp) (xs:List V) (us:List Value) (Q:VK),Inv X pins σ H s->Vals xs us->r xs H Q->
  wpAny (model X.prog X.w) X.A (call f us) (EP X pins σ Q) X.xe s
def QV (X:Cx) (r:V->Hp->(Bool->Hp->Prop)->Prop):Prop:=
 ∀ (pins:List (Addr×Obj)) (s:Shared) (σ:St) (H:Hp) (x:V) (v:Value) (Q:Bool->Hp->Prop),Inv X pins σ H s->RelV x v->r x H Q->
  wpAny (model X.prog X.w) X.A (truthy v) (TP X pins σ Q) X.xe s
def aW (r:R2) (ta tb:TE):TE:=λ σ H Q=>ta σ H λ x H1=>tb σ H1 λ y H2=>r x y H2 Q
def Nu (r:V->Hp->VK->Prop) (ta:TE):TE:=λ σ H Q=>ta σ H λ x H1=>r x H1 Q
def rI (C:Int->Int->Prop) (g:Int->Int->V):R2:=λ x y H Q=> ∃i j,x= .int i/\y= .int j/\C i j/\Q (g i j) H
def vI (g:Int->Int->V):R2:=λ x y H Q=> ∃i j,x= .int i/\y= .int j/\Q (g i j) H
def rU (g:Int->V):V->Hp->VK->Prop:=λ x H Q=> ∃i,x= .int i/\Q (g i) H
section
variable {X:Cx} {a b c:Expr} {ta tb tc:TE} {pos:Pos}
theorem JT (ha:PE X a ta) (hb:PE X b tb) {pins:List (Addr×Obj)} {s:Shared} {σ:St} {H:Hp} {R:V->V->Hp->Prop} (I:Inv X pins σ H s)
  (h:ta σ H λ x H1=>tb σ H1 λ y H2=>R x y H2) {Q:Value->Shared->Prop} {f:Value->Value->Sem Value}
  (hf: ∀v u s2 x y H2,Inv X pins σ H2 s2->RelV x v->RelV y u->R x y H2->wpAny (model X.prog X.w) X.A (f v u) Q X.xe s2):
  wpAny (model X.prog X.w) X.A (eval a X.env) (λ v s₁=>wpAny (model X.prog X.w) X.A (eval b X.env) (λ u s₂=>wpAny (model X.prog X.w) X.A (f v u) Q X.xe s₂) X.xe s₁) X.xe s:=by
 refine bL (ha pins s σ H _ I h) λ v s1 ⟨x,H1,I1,r1,q1⟩=> ?_
 refine bL (hb pins s1 σ H1 _ I1 q1) λ u s2 ⟨y,H2,I2,r2,q2⟩=> ?_
 exact hf v u s2 x y H2 I2 r1 r2 q2
theorem aP {op:Operator} {r:R2} (ho:iH X (binaryOp op) r) (ha:PE X a ta) (hb:PE X b tb):PE X (.BinOp a op b pos) (aW r ta tb):=by
 intro pins s σ H Q I h;exact wpAny_BinOp (JT ha hb I h λ v u s2 x y H2 I2 rx ry q=>ho pins s2 σ H2 x y v u Q I2 rx ry q)
theorem yo {op:UnaryOp} {r:V->Hp->VK->Prop} (ho:QT X (unaryOp op) r) (ha:PE X a ta):PE X (.UnaryOp op a pos) (Nu r ta):=by
 intro pins s σ H Q I h;exact UnaryOp_ (bL (ha pins s σ H _ I h) λ v s1 ⟨x,H1,I1,r1,q1⟩=>ho pins s1 σ H1 x v Q I1 r1 q1)
theorem NP {f:Value->Value->Sem Value} {C:Int->Int->Prop} {g:Int->Int->Int}
  (rule: ∀ (i j:Int) (t u:Tok) (s:Shared) (Q:Value->Shared->Prop) (E:Value->Shared->Prop),C i j->Q (.int (g i j) s.toks) { s with toks:=s.toks+1 }->wpAny (model X.prog X.w) X.A (f (.int i t) (.int j u)) Q E s):
  iH X f (rI C λ i j=> .int (g i j)):=by
 intro pins s σ H x y v u Q I rx ry h;obtain ⟨i,j,rfl,rfl,hc,q⟩:=h;obtain ⟨t,rfl⟩:=rx;obtain ⟨t',rfl⟩:=ry;exact rule i j t t' s _ _ hc ⟨.int (g i j),H,I.tok _,⟨_,rfl⟩,q⟩
theorem NQ {f:Value->Value->Sem Value} {g:Int->Int->Int}
  (rule: ∀ (i j:Int) (t u:Tok) (s:Shared) (Q:Value->Shared->Prop) (E:Value->Shared->Prop),Q (.int (g i j) s.toks) { s with toks:=s.toks+1 }->wpAny (model X.prog X.w) X.A (f (.int i t) (.int j u)) Q E s):
  iH X f (vI λ i j=> .int (g i j)):=by
 intro pins s σ H x y v u Q I rx ry h;obtain ⟨i,j,rfl,rfl,q⟩:=h;obtain ⟨t,rfl⟩:=rx;obtain ⟨t',rfl⟩:=ry;exact rule i j t t' s _ _ ⟨.int (g i j),H,I.tok _,⟨_,rfl⟩,q⟩
theorem Gj {f:Value->Value->Sem Value} {g:Int->Int->Bool}
  (rule: ∀ (i j:Int) (t u:Tok) (s:Shared) (Q:Value->Shared->Prop) (E:Value->Shared->Prop),Q (.bool (g i j)) s->wpAny (model X.prog X.w) X.A (f (.int i t) (.int j u)) Q E s):
  iH X f (vI λ i j=> .bl (g i j)):=by
 intro pins s σ H x y v u Q I rx ry h;obtain ⟨i,j,rfl,rfl,q⟩:=h;obtain ⟨t,rfl⟩:=rx;obtain ⟨t',rfl⟩:=ry;exact rule i j t t' s _ _ ⟨.bl (g i j),H,I,rfl,q⟩
def NT (i j:Int):Prop:=0<j/\j<1073741824
def NZ (i j:Int):Prop:=0<=j/\j<=1000000/\i.natAbs<2^64
def CMul (i j:Int):Prop:=(-(2^64)<i/\i<2^64)\/(-(2^64)<j/\j<2^64)
theorem CMul.ok {i j:Int} (h:CMul i j):IntMulOk i j:=by
 rcases h with ⟨h1,h2⟩ | ⟨h1,h2⟩
 ·exact .of_left (intBits_le_64 h1 h2)
 ·exact .of_right (intBits_le_64 h1 h2)
theorem cI:iH X (binaryOp .Add) (vI λ i j=> .int (i+j)):=NQ λ _ _ _ _ _ _ _ q=>add_int q
theorem Bp:iH X (binaryOp .Sub) (vI λ i j=> .int (i-j)):=NQ λ _ _ _ _ _ _ _ q=>sub_int q
theorem iK:iH X (binaryOp .Mult) (rI CMul λ i j=> .int (i*j)):=NP λ _ _ _ _ _ _ _ hc q=>mul_int q hc.ok
theorem bU:iH X (binaryOp .FloorDiv) (rI NT λ i j=> .int (i / j)):=NP λ i j _ _ _ _ _ hc q=>by
 have h1:(0:Int)<j:=hc.1;have h2:j<1073741824:=hc.2;exact floordiv_int (by rfl') (by rw [Int.fdiv_eq_ediv_of_nonneg i (by rfl')];exact q) (.inl (PyProof.noPylong_small (by rfl')))
theorem bK:iH X (binaryOp .Mod) (rI (λ _ j=>0<j) λ i j=> .int (i%j)):=NP λ i j _ _ _ _ _ hc q=>by
 have h1:(0:Int)<j:=hc;exact mod_int' (by rfl') (by rw [Int.fmod_eq_emod_of_nonneg i (by rfl')];exact q)
theorem JV:iH X (binaryOp .Pow) (rI NZ λ i j=> .int (i^j.toNat)):=NP λ _ _ _ _ _ _ _ hc q=>pow_int_small hc.1 hc.2.1 hc.2.2 q
theorem T6 {f:Value->Sem Value} {g:Int->Int}
  (rule: ∀ (i:Int) (t:Tok) (s:Shared) (Q:Value->Shared->Prop) (E:Value->Shared->Prop),Q (.int (g i) s.toks) { s with toks:=s.toks+1 }->wpAny (model X.prog X.w) X.A (f (.int i t)) Q E s):
  QT X f (rU λ i=> .int (g i)):=by
 intro pins s σ H x v Q I rx h;obtain ⟨i,rfl,q⟩:=h;obtain ⟨t,rfl⟩:=rx;exact rule i t s _ _ ⟨.int (g i),H,I.tok _,⟨_,rfl⟩,q⟩
theorem qT:QT X (unaryOp .USub) (rU λ i=> .int (-i)):=T6 λ _ _ _ _ _ q=>neg_int q
end
def Gk:V->V->Bool
 | .non, .non=>true | .non, .int _=>true | .int _, .non=>true | .non, .bl _=>true | .bl _, .non=>true | .non, .str _=>true | .str _, .non=>true
 | .int _, .int _=>true | .bl _, .bl _=>true | .str _, .str _=>true | .byt _, .byt _=>true
 | .int _, .str _=>true | .str _, .int _=>true | .bl _, .str _=>true | .str _, .bl _=>true
 | _,_=>false
def pJ:R2:=λ x y H Q=>Gk x y=true/\Q (.bl (decide (x=y))) H
def Nv:R2:=λ x y H Q=>Gk x y=true/\Q (.bl (!decide (x=y))) H
theorem yp {i j:Int}:decide (V.int i=V.int j)=(i==j):=by
 rw [Bool.eq_iff_iff];simp
theorem Bq {i j:Bool}:decide (V.bl i=V.bl j)=(i==j):=by
 rw [Bool.eq_iff_iff];simp
theorem yq {i j:Str}:decide (V.str i=V.str j)=(i==j):=by
 rw [Bool.eq_iff_iff];simp
theorem yr {i j:Array UInt8}:decide (V.byt i=V.byt j)=(i.toList==j.toList):=by
 rw [Bool.eq_iff_iff]
 cases i
 cases j;simp
section
variable {X:Cx} {a b c:Expr} {ta tb tc:TE} {pos:Pos}
theorem bA {pins:List (Addr×Obj)} {σ:St} {H:Hp} {s:Shared} {Q:VK} {k k':Bool} (I:Inv X pins σ H s) (q:Q (.bl k) H) (e:k=k'):EP X pins σ Q (.bool k') s:=by
 subst e;exact ⟨.bl k,H,I,rfl,q⟩
theorem fu:iH X (compareOp .Eq) pJ:=by
 intro pins s σ H x y v u Q I rx ry h;obtain ⟨hs,q⟩:=h
 cases x with
 | non=>
  cases rx
  cases y with
  | non=>cases ry;exact PySem.EqNone.eq_none_none (bA I q (by simp))
  | bl j=>cases ry;exact PySem.EqNone.eq_none_bool (bA I q (by simp))
  | int j=>obtain ⟨t',rfl⟩:=ry;exact PySem.EqNone.eq_none_int (bA I q (by simp))
  | str j=>obtain ⟨t',rfl⟩:=ry;exact PySem.EqNone.eq_none_str (bA I q (by simp))
  | _=>exact absurd (show false=true from hs) Zt
 | bl i=>
  cases rx
  cases y with
  | non=>cases ry;exact PySem.EqNone.eq_bool_none (bA I q (by simp))
  | bl j=>cases ry;exact eq_bool (bA I q Bq)
  | str j=>obtain ⟨t',rfl⟩:=ry;exact PySem.EqMixed.eq_bool_str (bA I q (by simp))
  | _=>exact absurd (show false=true from hs) Zt
 | int i=>
  obtain ⟨t,rfl⟩:=rx
  cases y with
  | non=>cases ry;exact PySem.EqNone.eq_int_none (bA I q (by simp))
  | int j=>obtain ⟨t',rfl⟩:=ry;exact eq_int (bA I q yp)
  | str j=>obtain ⟨t',rfl⟩:=ry;exact PySem.EqMixed.eq_int_str (bA I q (by simp))
  | _=>exact absurd (show false=true from hs) Zt
 | str i=>
  obtain ⟨t,rfl⟩:=rx
  cases y with
  | non=>cases ry;exact PySem.EqNone.eq_str_none (bA I q (by simp))
  | bl j=>cases ry;exact PySem.EqMixed.eq_str_bool (bA I q (by simp))
  | int j=>obtain ⟨t',rfl⟩:=ry;exact PySem.EqMixed.eq_str_int (bA I q (by simp))
  | str j=>obtain ⟨t',rfl⟩:=ry;exact eq_str (bA I q yq)
  | _=>exact absurd (show false=true from hs) Zt
 | byt i=>
  obtain ⟨t,rfl⟩:=rx
  cases y with
  | byt j=>obtain ⟨t',rfl⟩:=ry;exact PySem.W.eq_bytes (bA I q yr)
  | _=>exact absurd (show false=true from hs) Zt
 | _=>cases y<;>exact absurd (show false=true from hs) Zt
theorem Br:iH X (compareOp .NotEq) Nv:=by
 intro pins s σ H x y v u Q I rx ry h;obtain ⟨hs,q⟩:=h
 cases x with
 | non=>
  cases rx
  cases y with
  | non=>cases ry;exact PySem.EqNone.ne_none_none (bA I q (by simp))
  | bl j=>cases ry;exact PySem.EqNone.ne_none_bool (bA I q (by simp))
  | int j=>obtain ⟨t',rfl⟩:=ry;exact PySem.EqNone.ne_none_int (bA I q (by simp))
  | str j=>obtain ⟨t',rfl⟩:=ry;exact PySem.EqNone.ne_none_str (bA I q (by simp))
  | _=>exact absurd (show false=true from hs) Zt
 | bl i=>
  cases rx
  cases y with
  | non=>cases ry;exact PySem.EqNone.ne_bool_none (bA I q (by simp))
  | bl j=>cases ry;exact ne_bool (bA I q (Yn not Bq))
  | str j=>obtain ⟨t',rfl⟩:=ry;exact PySem.EqMixed.ne_bool_str (bA I q (by simp))
  | _=>exact absurd (show false=true from hs) Zt
 | int i=>
  obtain ⟨t,rfl⟩:=rx
  cases y with
  | non=>cases ry;exact PySem.EqNone.ne_int_none (bA I q (by simp))
  | int j=>obtain ⟨t',rfl⟩:=ry;exact ne_int (bA I q (Yn not yp))
  | str j=>obtain ⟨t',rfl⟩:=ry;exact PySem.EqMixed.ne_int_str (bA I q (by simp))
  | _=>exact absurd (show false=true from hs) Zt
 | str i=>
  obtain ⟨t,rfl⟩:=rx
  cases y with
  | non=>cases ry;exact PySem.EqNone.ne_str_none (bA I q (by simp))
  | bl j=>cases ry;exact PySem.EqMixed.ne_str_bool (bA I q (by simp))
  | int j=>obtain ⟨t',rfl⟩:=ry;exact PySem.EqMixed.ne_str_int (bA I q (by simp))
  | str j=>obtain ⟨t',rfl⟩:=ry;exact ne_str (bA I q (Yn not yq))
  | _=>exact absurd (show false=true from hs) Zt
 | byt i=>
  obtain ⟨t,rfl⟩:=rx
  cases y with
  | byt j=>obtain ⟨t',rfl⟩:=ry;exact PySem.W.ne_bytes (bA I q (Yn not yr))
  | _=>exact absurd (show false=true from hs) Zt
 | _=>cases y<;>exact absurd (show false=true from hs) Zt
theorem Bt:iH X (compareOp .Lt) (vI λ i j=> .bl (decide (i<j))):=Gj λ _ _ _ _ _ _ _ q=>lt_int q
theorem uf:iH X (compareOp .LtE) (vI λ i j=> .bl (decide (i<=j))):=Gj λ _ _ _ _ _ _ _ q=>le_int q
theorem Bu:iH X (compareOp .Gt) (vI λ i j=> .bl (decide (j<i))):=Gj λ _ _ _ _ _ _ _ q=>gt_int q
theorem O1:iH X (compareOp .GtE) (vI λ i j=> .bl (decide (j<=i))):=Gj λ _ _ _ _ _ _ _ q=>ge_int q
theorem f9:iH X (compareOp .Is) (λ x y H Q=>y= .non/\Q (.bl (decide (x= .non))) H):=by
 intro pins s σ H x y v u Q I rx ry h;obtain ⟨rfl,q⟩:=h
 cases ry;refine is_none_gen (bA I q ?_)
 cases x<;>first
  | (cases rx;rfl)
  | (obtain ⟨t,rfl⟩:=rx;rfl)
theorem fZ:iH X (compareOp .IsNot) (λ x y H Q=>y= .non/\Q (.bl (!decide (x= .non))) H):=by
 intro pins s σ H x y v u Q I rx ry h;obtain ⟨rfl,q⟩:=h
 cases ry;refine isnot_none_gen (bA I q ?_)
 cases x<;>first
  | (cases rx;rfl)
  | (obtain ⟨t,rfl⟩:=rx;rfl)
theorem aY (b:Expr) {op:CmpOp} (h:op≠ .In:=by decide) (h2:op≠ .NotIn:=by decide):behindInMarks op b=false:=by
 have e1:(op==CmpOp.In)=false:=by cases op<;>first | rfl | exact absurd rfl h
 have e2:(op==CmpOp.NotIn)=false:=by cases op<;>first | rfl | exact absurd rfl h2
 cases b<;>simp [behindInMarks,e1,e2]
theorem dH {op:CmpOp} {r:R2} (ho:iH X (compareOp op) r) (ha:PE X a ta) (hb:PE X b tb) (hm:behindInMarks op b=false):PE X (.Compare a [op] [b] pos) (aW r ta tb):=by
 intro pins s σ H Q I h;exact wpAny_Compare1 (JT ha hb I h λ v u s2 x y H2 I2 rx ry q=>ho pins s2 σ H2 x y v u Q I2 rx ry q) hm
def bh (t:TE):TT:=λ σ H Q=>t σ H λ x H'=> ∃k,x= .bl k/\Q k H'
theorem aV {op:CmpOp} {r:R2} (ho:iH X (compareOp op) r) (ha:PE X a ta) (hb:PE X b tb) (hm:behindInMarks op b=false):PT X (.Compare a [op] [b] pos) (bh (aW r ta tb)):=by
 intro pins s σ H Q I h;refine wpAny_isTrue_Compare1 (bL (ha pins s σ H _ I h) λ v s1 ⟨x,H1,I1,r1,q1⟩=>bL (hb pins s1 σ H1 _ I1 q1) λ u s2 ⟨y,H2,I2,r2,q2⟩=>
  bL (ho pins s2 σ H2 x y v u _ I2 r1 r2 q2) λ c s3 ⟨z,H3,I3,r3,k,e,q3⟩=> ?_) hm
 subst e
 cases r3;exact Wv ⟨H3,I3,q3⟩
def jm (r r':R2) (ta tb tc:TE):TE:=λ σ H Q=>ta σ H λ x H1=>tb σ H1 λ y H2=>r x y H2 λ z H3=> ∃k,z= .bl k/\
 (if k=true then tc σ H3 λ w' H4=>r' y w' H4 Q else Q (.bl false) H3)
theorem Bv {op op':CmpOp} {r r':R2} (ho:iH X (compareOp op) r) (ho':iH X (compareOp op') r') (ha:PE X a ta) (hb:PE X b tb) (hc:PE X c tc)
  (hm:lastMarks [op,op'] [b,c]=false:=by with_unfolding_all rfl):PE X (.Compare a [op,op'] [b,c] pos) (jm r r' ta tb tc):=by
 intro pins s σ H Q I h;refine Compare_chain (bL (ha pins s σ H _ I h) λ v s1 ⟨x,H1,I1,r1,q1⟩=>chain_link (bL (hb pins s1 σ H1 _ I1 q1) λ u s2 ⟨y,H2,I2,r2,q2⟩=>
  bL (ho pins s2 σ H2 x y v u _ I2 r1 r2 q2) λ d s3 ⟨z,H3,I3,r3,k,e,q3⟩=> ?_)) hm
 subst e
 cases r3;refine Wv ?_
 cases k with
 | false=>exact ite_ff ⟨.bl false,H3,I3,rfl,q3⟩
 | true=>exact ite_tt (chain_last (bL (hc pins s3 σ H3 _ I3 q3) λ w' s4 ⟨z',H4,I4,r4,q4⟩=>ho' pins s4 σ H4 y z' u w' Q I4 r2 r4 q4))
theorem nZ {op op':CmpOp} {r r':R2} (ho:iH X (compareOp op) r) (ho':iH X (compareOp op') r') (ha:PE X a ta) (hb:PE X b tb) (hc:PE X c tc)
  (hm:lastMarks [op,op'] [b,c]=false:=by with_unfolding_all rfl):PT X (.Compare a [op,op'] [b,c] pos) (bh (jm r r' ta tb tc)):=by
 intro pins s σ H Q I h;refine isTrue_chain (bL (ha pins s σ H _ I h) λ v s1 ⟨x,H1,I1,r1,q1⟩=>test_link (bL (hb pins s1 σ H1 _ I1 q1) λ u s2 ⟨y,H2,I2,r2,q2⟩=>
  bL (ho pins s2 σ H2 x y v u _ I2 r1 r2 q2) λ d s3 ⟨z,H3,I3,r3,k,e,q3⟩=> ?_)) hm
 subst e
 cases r3;refine Wv ?_
 cases k with
 | false=>
  obtain ⟨k',e',q'⟩:=q3
  cases e';exact ite_ff ⟨H3,I3,q'⟩
 | true=>
  refine ite_tt (test_last (bL (hc pins s3 σ H3 _ I3 q3) λ w' s4 ⟨z',H4,I4,r4,q4⟩=>bL (ho' pins s4 σ H4 y z' u w' _ I4 r2 r4 q4) λ d' s5 ⟨z2,H5,I5,r5,k2,e2,q5⟩=> ?_));subst e2
  cases r5;exact Wv ⟨H5,I5,q5⟩
def Bw (K:W.Frag) (x:V) (H:Hp) (k:Bool):Prop:=
 match x with
 | .non=>k=false
 | .bl b=>k=b
 | .int i=>k=(i !=0)
 | .str y=>y.length<=sizeLine/\k=((y.length:Int)!=0)
 | .byt y=>y.size<=sizeLine/\k=((y.size:Int)!=0)
 | .ref p=>(∃xs,SqL K H p xs/\k= !xs.isEmpty)\/(∃xs,SqT K H p xs/\k= !xs.isEmpty)\/ ∃kvs,H p=some (.dK kvs)/\k= !kvs.isEmpty
 | _=>False
theorem vJ {κ:Type} {kvs:List (κ×V)} {vs:List (κ×Value)} (r:KV kvs vs):(!vs.isEmpty)= !kvs.isEmpty:=by
 cases r<;>rfl
theorem oh {xs:List V} {its:List Value} (r:Vals xs its):(!its.toArray.isEmpty)= !xs.isEmpty:=by
 cases r<;>simp
theorem kJ:(sizeLine:Nat)<2^63:=by rw [Xp];decide
theorem JW:QV X (λ x H Q=> ∃k,Bw X.K x H k/\Q k H):=by
 intro pins s σ H x v Q I rx h;obtain ⟨k,e,q⟩:=h;have hl:=kJ;have hs:sizeLine=16777216:=Xp
 cases x with
 | non=>
  cases rx;have e':k=false:=e;subst e';exact truthy_none ⟨H,I,q⟩
 | bl b=>
  cases rx;have e':k=b:=e;subst e';exact Wv ⟨H,I,q⟩
 | int i=>
  obtain ⟨t,rfl⟩:=rx;have e':k=(i !=0):=e;subst e';exact PySem.P.truthy_int ⟨H,I,q⟩
 | str y=>
  obtain ⟨t,rfl⟩:=rx;obtain ⟨hy,e'⟩:y.length<=sizeLine/\k=((y.length:Int)!=0):=e;subst e';exact PySem.P.truthy_str (by rfl') ⟨H,I.tok _,q⟩
 | byt y=>
  obtain ⟨t,rfl⟩:=rx;obtain ⟨hy,e'⟩:y.size<=sizeLine/\k=((y.size:Int)!=0):=e;subst e';exact PySem.W.truthy_bytes (by rfl') ⟨H,I.tok _,q⟩
 | ref p=>
  cases rx;have e':(∃xs,SqL X.K H p xs/\k= !xs.isEmpty)\/(∃xs,SqT X.K H p xs/\k= !xs.isEmpty)\/ ∃kvs,H p=some (.dK kvs)/\k= !kvs.isEmpty:=e;rcases e' with ⟨xs,hx,e'⟩ | ⟨xs,hx,e'⟩ | ⟨kvs,hx,e'⟩
  ·subst e';obtain ⟨its,r,pl,hz⟩:=I.list hx;have hlen:=r.length;exact wpAny_truthy_list pl.isList (by simp only [Yf];rfl') ⟨H,I.tok _,by rw [oh r];exact q⟩
  ·subst e';obtain ⟨its,r,pl,hz⟩:=I.tuple hx;have hlen:=r.length;exact truthy_tuple pl (by simp only [Yf];rfl') ⟨H,I.tok _,by rw [oh r];exact q⟩
  ·subst e';obtain ⟨hz,hS,vs,r,m⟩:kvs.length<=sizeLine/\(p==sysModules)=false/\ ∃vs,KV kvs vs/\s.heap.DictOf (bI X.prog X.w) p vs:=I.hok p _ hx;have hlen:kvs.length=vs.length:=Paired.length r;exact wpAny_truthy_dict hS m (by rfl') ⟨H,I.tok _,by rw [vJ r];exact q⟩
 | _=>exact (show False from e).elim
theorem Bx (ha:PE X a ta) (he: ∀whole,isTrue a X.env whole=(do let v <- whole;standAt a.pos;holding [v] (truthy v))):
  PT X a (λ σ H Q=>ta σ H λ x H'=> ∃k,Bw X.K x H' k/\Q k H'):=by
 intro pins s σ H Q I h;exact isTrue_plain (bL (ha pins s σ H _ I h) λ v s1 ⟨x,H1,I1,r1,q1⟩=>JW pins s1 σ H1 x v Q I1 r1 q1) (he _)
theorem dZ:iH X (binaryOp .Add) (λ x y H Q=> ∃i j,x= .str i/\y= .str j/\i.length+j.length<=sizeLine/\Q (.str (i++j)) H):=by
 intro pins s σ H x y v u Q I rx ry h;obtain ⟨i,j,rfl,rfl,hz,q⟩:=h;obtain ⟨t,rfl⟩:=rx;obtain ⟨t',rfl⟩:=ry;exact add_str (λ t' tk=>⟨.str (i++j),H,I.tok _,⟨_,rfl⟩,q⟩) hz
theorem vals1 {x:V} {us:List Value} (r:Vals [x] us): ∃u,us=[u]/\RelV x u:=by
 cases r with
 | cons r1 r2=>cases r2;exact ⟨_,rfl,r1⟩
theorem By:cX X (.builtin "ord") (λ xs H Q=> ∃x,xs=[.str x]/\x.length=1/\Q (.int (x.cps.getD 0 0:Nat)) H):=by
 intro pins s σ H xs us Q I r h;obtain ⟨x,rfl,hz,q⟩:=h;obtain ⟨u,rfl,t,rfl⟩:=vals1 r;exact ord_of_one hz ⟨.int _,H,I.tok _,⟨_,rfl⟩,q⟩
def O2 (K:W.Frag) (x:V) (H:Hp) (n:Nat):Prop:=
 match x with
 | .str y=>y.length<=sizeLine/\n=y.length
 | .byt y=>y.size<=sizeLine/\n=y.size
 | .ref p=>(∃xs,SqL K H p xs/\n=xs.length)\/ ∃xs,SqT K H p xs/\n=xs.length
 | _=>False
theorem BJ:cX X (.builtin "len") (λ xs H Q=> ∃x n,xs=[x]/\O2 X.K x H n/\Q (.int n) H):=by
 intro pins s σ H xs us Q I r h;obtain ⟨x,n,rfl,e,q⟩:=h;obtain ⟨u,rfl,rx⟩:=vals1 r;have hl:=kJ;have hs:sizeLine=16777216:=Xp
 cases x with
 | str y=>
  obtain ⟨t,rfl⟩:=rx;obtain ⟨hy,e'⟩:y.length<=sizeLine/\n=y.length:=e;subst e';exact len_str (by rfl') ⟨.int _,H,I.tok _,⟨_,rfl⟩,q⟩
 | byt y=>
  obtain ⟨t,rfl⟩:=rx;obtain ⟨hy,e'⟩:y.size<=sizeLine/\n=y.size:=e;subst e';exact PySem.W.len_bytes (by rfl') ⟨.int _,H,I.tok _,⟨_,rfl⟩,q⟩
 | ref p=>
  cases rx;have e':(∃xs,SqL X.K H p xs/\n=xs.length)\/ ∃xs,SqT X.K H p xs/\n=xs.length:=e;rcases e' with ⟨xs,hx,e'⟩ | ⟨xs,hx,e'⟩
  ·subst e';obtain ⟨its,r',pl,hz⟩:=I.list hx;have hlen:=r'.length;exact Calls.call_len_list pl.isList (by simp only [Yf];rfl') ⟨.int xs.length,H,I.tok _,⟨_,by simp only [Yf];rw [hlen]⟩,q⟩
  ·subst e';obtain ⟨its,r',pl,hz⟩:=I.tuple hx;have hlen:=r'.length;exact len_tuple pl (by simp only [Yf];rfl') ⟨.int xs.length,H,I.tok _,⟨_,by simp only [Yf];rw [hlen]⟩,q⟩
 | _=>exact (show False from e).elim
end
structure ObjM (h:Heap) (x dx C:Addr) (mA:Str->Option Value):Prop where
 obj:h.get? x=some (PySem.W.instObj C dx)
 ns:h.Ns1 dx mA
 ne:dx≠x
theorem zN {h:Heap} {dx:Addr} {mA:Str->Option Value} (n:h.Ns1 dx mA): ∃od,h.get? dx=some od/\ ∀name,PySem.W.lookIn name od=some (mA name):=by
 obtain ⟨o,es,ep,ho,hd,hk,_,hm⟩:=n;refine ⟨o,ho,λ name=> ?_⟩;have e:=hm name;unfold nsFind findBy at e;rw [<- Array.find?_toList] at e;unfold PySem.W.lookIn;rw [hd];dsimp only;split
 ·rename_i y q;rw [q] at e;exact Yn some e
 ·rename_i q;rw [q] at e;have a:es.toList.any (·.refKey)=false:=by
   rw [List.any_eq_false];intro y hy;obtain ⟨z,t,hkey⟩:=hk y (Array.mem_toList_iff.mp hy);simp [DictEntry.refKey,hkey]
  have a': ¬es.toList.any (·.refKey)=true:=by rw [a];exact Zt
  rw [if_neg a'];exact Yn some e
theorem ObjM.look {h:Heap} {x dx C:Addr} {mA:Str->Option Value} (I:ObjM h x dx C mA): ∃od,PySem.W.InstAt h x (PySem.W.instObj C dx) C (some od)/\ ∀name,PySem.W.lookIn name od=some (mA name):=
 let ⟨od,ho,hl⟩:=zN I.ns
 ⟨od,⟨I.obj,rfl,rfl,ho⟩,hl⟩
theorem RelO.some_of {v:V} {o:Option Value} (r:RelO (some v) o): ∃u,o=some u/\RelV v u:=by
 cases o with
 | none=>exact (show False from r).elim
 | some u=>exact ⟨u,rfl,r⟩
section
variable {P:Program} {w:World} {H H':Hp} {h h':Heap} {a C dx:Addr} {fs fs':List (Str×V)}
theorem Gm (hok:HOk P w H h) (e:H a=some (.ins C dx fs)): ∃mA,ObjM h a dx C mA/\(∀f,RelO (fs.lookup f) (mA f))/\PySem.Within mA (fs.map (·.1))/\fs.length<=1000/\H dx=some (.own a):=by
 obtain ⟨d,z,ne,ob,mA,n,r,q⟩:=(show ObjOk P w H h a (.ins C dx fs) from hok a _ e);exact ⟨mA,⟨ob,n,ne⟩,r,q,z,d⟩
end
structure Cls (K:W.Frag) (C:Addr):Prop where
 pg:PySem.W.plainGet K C Str.empty=true
 hd:PySem.W.hasDictIn K C=true
 po:PySem.W.plainOver K C=true
 sa:PySem.W.findIn K (.ref C) "__setattr__"=some (some (.builtin "object.__setattr__"))
theorem Cls.get {K:W.Frag} {C:Addr} (c:Cls K C) (f:Str):PySem.W.plainGet K C f=true:=c.pg
def JX (K:W.Frag) (C:Addr) (f:Str):Prop:=PySem.W.findIn K (.ref C) f=some none
structure Con (K:W.Frag) (C:Addr) (f:Str) (v:V) (u:Value):Prop where
 at_:PySem.W.findIn K (.ref C) f=some (some u)
 rel:RelV v u
 get:PySem.W.specialIn K u "__get__"=some none
 cp:PySem.W.copiedNames.contains f=false
structure Meth (K:W.Frag) (C:Addr) (m:Str) (f:Addr):Prop where
 at_:PySem.W.findIn K (.ref C) m=some (some (.ref f))
 fn:PySem.W.isFn K (.ref f)=true
 kp:W.keepIn K (.ref f)=true
def T7 (K:W.Frag) (ta:TE) (f:Str):TE:=λ σ H Q=>ta σ H λ x H1=> ∃a C dx fs v,x= .ref a/\H1 a=some (.ins C dx fs)/\Cls K C/\JX K C f/\fs.lookup f=some v/\Q v H1
section
variable {X:Cx} {pins:List (Addr×Obj)} {σ:St} {H:Hp} {s:Shared} {A:Around} {E:Value->Shared->Prop} {Q:Value->Shared->Prop} {c:Value} {b:Bool}
inductive TyOf (K:W.Frag) (H:Hp):V->Value->Prop where
 | non:TyOf K H .non (.type "NoneType")
 | bl (x:Bool):TyOf K H (.bl x) (.type "bool")
 | int (i:Int):TyOf K H (.int i) (.type "int")
 | str (x:Str):TyOf K H (.str x) (.type "str")
 | flt (x:UInt64):TyOf K H (.flt x) (.type "float")
 | lst {a:Addr} {xs:List V} (e:H a=some (.lst xs)):TyOf K H (.ref a) (.type "list")
 | frz {a:Addr} {o:Obj} {xs:List V} (e:H a=some (.frz o (.lst xs))):TyOf K H (.ref a) (.type "list")
 | tup {a:Addr} {xs:List V} (e:H a=some (.tup xs)):TyOf K H (.ref a) (.type "tuple")
 | dK {a:Addr} {kvs:List (Key×V)} (e:H a=some (.dK kvs)):TyOf K H (.ref a) (.type "dict")
 | dT {a:Addr} {kvs:List (List Key×V)} (e:H a=some (.dT kvs)):TyOf K H (.ref a) (.type "dict")
 | ins {a C dx:Addr} {fs:List (Str×V)} (e:H a=some (.ins C dx fs)) (cl:Cls K C) (ha:PySem.W.findIn K (.ref C) "__class__"=some (some (.builtin "object.__class__")))
   (hn:PySem.W.specialIn K (.builtin "object.__class__") "__get__"=some (some (.builtin "getset_descriptor.__get__"))) (htk:PySem.W.takesIn K (.builtin "object.__class__")=some true)
   (hm:PySem.W.mroIn K C (.type "object")=some true):TyOf K H (.ref a) (.ref C)
theorem zO {x:V} {u t:Value} (I:Inv X pins σ H s) (rx:RelV x u) (ty:TyOf X.K H x t) (e:PySem.W.kitOne X.K t c=some b) (h: ∀tk,Q (.bool b) { s with toks:=tk }):
  wpAny (model X.prog X.w) A (call (.builtin "isinstance") [u,c]) Q E s:=by
 cases ty with
 | non=>cases (show u=Value.none from rx);exact Wn PySem.W.kitx_none I.kIn True.intro e (λ z=>nomatch z) h
 | bl y=>cases (show u=Value.bool y from rx);exact Wn PySem.W.kitx_bool I.kIn True.intro e (λ z=>nomatch z) h
 | int i=>obtain ⟨t,q⟩:=(show ∃t,u=Value.int i t from rx);cases q;exact Wn PySem.W.kitx_int I.kIn True.intro e (λ z=>nomatch z) h
 | str y=>obtain ⟨t,q⟩:=(show ∃t,u=Value.str y t from rx);cases q;exact Wn PySem.W.kitx_str I.kIn True.intro e (λ z=>nomatch z) h
 | flt y=>obtain ⟨t,q⟩:=(show ∃t,u=Value.float y t from rx);cases q;exact Wn PySem.W.kitx_float I.kIn True.intro e (λ z=>nomatch z) h
 | @lst a xs ea=>
  cases (show u=Value.ref a from rx);obtain ⟨_,_,n,_,h1⟩:=(show ObjOk X.prog X.w H s.heap a (.lst xs) from I.hok a _ ea);exact Wn PySem.W.kitx_list I.kIn ⟨_,h1,rfl⟩ e (λ z=>nomatch z) h
 | @frz a ob xs ea=>
  cases (show u=Value.ref a from rx);obtain ⟨_,_,_,n,_,h1⟩:=(show ObjOk X.prog X.w H s.heap a (.frz ob (.lst xs)) from I.hok a _ ea);exact Wn PySem.W.kitx_list I.kIn ⟨_,h1,rfl⟩ e (λ z=>nomatch z) h
 | @tup a xs ea=>
  cases (show u=Value.ref a from rx);obtain ⟨_,_,_,p⟩:=(show ObjOk X.prog X.w H s.heap a (.tup xs) from I.hok a _ ea);obtain ⟨o,h1,h2,_⟩:=p;exact Wn PySem.W.kitx_tuple I.kIn ⟨o,h1,h2⟩ e (λ z=>nomatch z) h
 | @dK a kvs ea=>
  cases (show u=Value.ref a from rx);obtain ⟨_,_,vs,_,p⟩:=(show ObjOk X.prog X.w H s.heap a (.dK kvs) from I.hok a _ ea);obtain ⟨o,es,ep,h1,h2,_⟩:=p;exact Wn PySem.W.kitx_dict I.kIn ⟨o,h1,h2.1⟩ e (λ z=>nomatch z) h
 | @dT a kvs ea=>
  cases (show u=Value.ref a from rx);obtain ⟨_,_,xs,_,o,es,ep,h1,h2,_⟩:=(show ObjOk X.prog X.w H s.heap a (.dT kvs) from I.hok a _ ea);exact Wn PySem.W.kitx_dict I.kIn ⟨o,h1,h2.1⟩ e (λ z=>nomatch z) h
 | @ins a C dx fs ea cl ha hn htk hm=>
  cases (show u=Value.ref a from rx);obtain ⟨mA,O,_⟩:=Gm I.hok ea;obtain ⟨od,J,_⟩:=O.look;exact Wn (PySem.W.kitx_own (cl.get _) cl.hd ha hn htk hm) I.kIn J e (λ z=>nomatch z) h
end
structure Room (k:Nat) (A:Around):Prop where
 hd:A.handled=none
 dp:A.depth+3*k+5<recursionLimit
 un:A.units+16*k+200<cLine
theorem Room.mono {j k:Nat} {A:Around} (r:Room k A) (h:j<=k):Room j A:=⟨r.hd,by have:=r.dp;rfl',by have:=r.un;rfl'⟩
theorem Room.deeper {k:Nat} {A:Around} (r:Room (k+1) A) (env:Env):Room k (A.deeper env):=
 ⟨r.hd,by have:=r.dp;show A.depth+1+3*k+5<_;rfl',by have:=r.un;show A.units+3+16*k+200<_;rfl'⟩
theorem Room.depth {k:Nat} {A:Around} (r:Room k A):A.depth<recursionLimit:=by have:=r.dp;rfl'
theorem Room.units {k:Nat} {A:Around} (r:Room k A):A.units+64<cLine:=by have:=r.un;rfl'
def aF:TA:=λ _ H Q=>Q [] H
def ak (ta:TE) (tr:TA):TA:=λ σ H Q=>ta σ H λ x H1=>tr σ H1 λ xs H2=>Q (x::xs) H2
section
variable {X:Cx} {e:Expr} {es:List Expr} {te:TE} {t:TA} {pos:Pos}
theorem aq:PA X [] aF:=λ _ _ _ _ H Q I h=>Calls.spliced_nil ⟨[],H,I, .nil,h⟩
theorem aa (ha:PE X e te) (hr:PA X es t) (hs:starEach (e::es) X.env=(false,eval e X.env)::starEach es X.env:=by rfl):PA X (e::es) (ak te t):=by
 intro pos pins s σ H Q I h;rw [hs];show wpAny _ _ (spliced ((false,eval e X.env)::backTo pos (starEach es X.env))) _ _ s;refine Calls.spliced_cons (bL (ha pins s σ H _ I h) λ u s1 ⟨x,H1,I1,r1,q1⟩=> ?_);exact bL (hr pos pins s1 σ H1 _ I1 q1) λ us s2 ⟨xs,H2,I2,r2,q2⟩=>⟨x::xs,H2,I2, .cons r1 r2,q2⟩
def ie (t:TA):TE:=λ σ H Q=>t σ H λ xs H1=>xs.length<=sizeLine/\ ∀p,H1 p=none->Q (.ref p) (upd H1 p (.tup xs))
def ig (t:TA):TE:=λ σ H Q=>t σ H λ xs H1=>xs.length<=sizeLine/\ ∀p,H1 p=none->Q (.ref p) (upd H1 p (.lst xs))
theorem cP {x1} (h:PA X es t):PE X (.Tuple es x1 pos) (ie t):=by
 intro pins s σ H Q I hq;refine wpAny_Tuple_spliced (bL (h pos pins s σ H _ I hq) λ us s1 ⟨xs,H1,I1,r,z,q⟩=>⟨by rw [<- r.length];exact z,?_⟩);have hf:H1 s1.heap.objs.size=none:=I1.hok.fresh (Zn _);refine ⟨.ref s1.heap.objs.size,upd H1 s1.heap.objs.size (.tup xs),I1.laid (t':=s1.toks) (λ b u e=>Zd _ e) (Zn _) ?_,rfl,q _ hf⟩;exact ⟨z,us,r,⟨_,Zo _ rfl,rfl,_,rfl⟩⟩
theorem cQ (h:PA X es t):PE X (.List es pos) (ig t):=by
 intro pins s σ H Q I hq;refine wpAny_List_spliced (bL (h pos pins s σ H _ I hq) λ us s1 ⟨xs,H1,I1,r,z,q⟩=>⟨by rw [<- r.length];exact z,?_⟩);have hf:H1 s1.heap.objs.size=none:=I1.hok.fresh (Zn _);refine ⟨.ref s1.heap.objs.size,upd H1 s1.heap.objs.size (.lst xs),I1.laid (t':=s1.toks) (λ b u e=>Zd _ e) (Zn _) ?_,rfl,q _ hf⟩;exact ⟨z,us,0,r,Zo _ rfl⟩
end
abbrev Sp:=List V->Hp->VK->XK->Prop
abbrev Bb:=List Env->Hp->Shared->XK->Value->Shared->Prop
structure Env0 (P:Program) (w:World) (K:W.Frag) (mg:Str->Option Value) (base:Heap) (A:Around) (outer:List Env) (s:Shared) (H:Hp):Prop where
 frames:A.frames=some outer
 mod:Mod K mg base
 bs: ∀b o,base.get? b=some o->s.heap.get? b=some o/\H b=none
 bsz:base.objs.size<=s.heap.objs.size
 funs:s.heap.FunFrames base outer
 frf: ∀b∈frs outer,H b=none
 hok:HOk P w H s.heap
 bare:AllBare s.gens
def CE (outer:List Env) (P:Program) (w:World) (H:Hp) (s:Shared) (Q:VK) (u:Value) (s':Shared):Prop:=
 ∃v H',s'.os=s.os/\AllBare s'.gens/\Un (frs outer) [] H H' s.heap s'.heap/\HOk P w H' s'.heap/\RelV v u/\Q v H'
def CR (CX:Bb) (outer:List Env) (P:Program) (w:World) (H:Hp) (s:Shared) (Q:VK) (E:XK) (r:Result) (s':Shared):Prop:=
 match r with
 | .ok (.ret u)=>CE outer P w H s Q u s'
 | .ok _=>False
 | .error e=>CX outer H s E e s'
structure FnOk (P:Program) (w:World) (K:W.Frag) (mg:Str->Option Value) (base:Heap) (CX:Bb) (k:Nat) (f:Addr) (fd:FuncData) (ps:List Str) (sp:Sp):Prop where
 len: ∀vs H Q E,sp vs H Q E->vs.length=ps.length
 run: ∀ (A:Around) (outer:List Env) (s:Shared) (H:Hp) (args:Args) (us:List Value) (vs:List V) (Q:VK) (E:XK),Room k A->Env0 P w K mg base A outer s H->BindsTo s fd args (ps.zip us)->Vals vs us->sp vs H Q E->
  codeAny (model P w) A (.call (.ref f) args) (CR CX outer P w H s Q E) s
section
variable {X:Cx} {pins:List (Addr×Obj)} {σ:St} {H:Hp} {s s':Shared}
theorem Inv.env0 (I:Inv X pins σ H s):Env0 X.prog X.w X.K X.mg X.base X.A X.stack s H:=
 ⟨I.ok.frames,I.ok.mod,I.bs,Zw I.ok.bsz I.sz,I.stack,I.stkFree,I.hok,I.bare⟩
theorem Inv.after {Q:VK} {u:Value} (I:Inv X pins σ H s) (h:CE X.stack X.prog X.w H s Q u s'):EP X pins σ Q u s':=by
 obtain ⟨v,H',os,bare,un,hok,r,q⟩:=h;obtain ⟨hh,g,d,t,os'⟩:=s';obtain rfl:os'=s.os:=os;exact ⟨v,H',I.call (h':=hh) (g':=g) (d':=d) (t':=t) (ch:=[]) un hok bare (λ b z=>absurd z (by simp)),r,q⟩
end
def aX (sp:Sp) (dvs:List V) (E:XK) (t:TA):TE:=λ σ H Q=>t σ H λ vs H1=>sp (vs++dvs) H1 Q E
def Rw (C:Addr) (m:Str) (sp:Sp) (dvs:List V) (E:XK) (ta:TE) (t:TA):TE:=λ σ H Q=>ta σ H λ x H1=> ∃a dx fs,x= .ref a/\H1 a=some (.ins C dx fs)/\fs.lookup m=none/\
 t σ H1 λ vs H2=>sp (x::(vs++dvs)) H2 Q E
def Rx (C:Addr) (sp:Sp) (dvs:List V) (E:XK) (t:TA):TE:=λ σ H Q=>t σ H λ vs H1=> ∀x dx,H1 x=none->H1 dx=none->dx≠x->
 sp (.ref x::(vs++dvs)) (upd (upd H1 dx (.own x)) x (.ins C dx [])) (λ v H2=>v= .non/\Q (.ref x) H2) E
def Binds (K:W.Frag) (fd:FuncData) (ps:List Str) (ds:List Value):Prop:=
 ∀ (s:Shared) (us:List Value),K.In s.heap->(us++ds).length=ps.length->BindsTo s fd ⟨us,[]⟩ (ps.zip (us++ds))
theorem Binds.all {K:W.Frag} {fd:FuncData} {ps:List Str} (h: ∀us:List Value,us.length=ps.length->bindArgs fd ⟨us,[]⟩=pure (ps.zip us)):Binds K fd ps []:=λ s us _ hl=>by
 rw [Xd] at hl ⊢;exact .of_eq (h us hl)
def jn (CX:Bb) (X:Cx) (E:XK):Prop:= ∀ (pins:List (Addr×Obj)) (σ:St) (H:Hp) (s:Shared) (e:Value) (s':Shared),Inv X pins σ H s->CX X.stack H s E e s'->X.xe e s'
section
variable {X:Cx} {CX:Bb} {k:Nat} {f C:Addr} {fd:FuncData} {ps:List Str} {sp:Sp} {dvs:List V} {ds:List Value} {E:XK} {x m:Str} {p pos apos:Pos} {e o:Expr} {es:List Expr} {ta:TE} {t:TA}
theorem JZ {pins:List (Addr×Obj)} {σ:St} {H:Hp} {s:Shared} {Q:VK} {us:List Value} {vs:List V} (F:FnOk X.prog X.w X.K X.mg X.base CX k f fd ps sp) (hr:Room k X.A) (hb:Binds X.K fd ps ds) (hd:Vals dvs ds) (hx:jn CX X E)
  (I:Inv X pins σ H s) (r:Vals vs us) (h:sp (vs++dvs) H Q E):wpAny (model X.prog X.w) X.A (call (.ref f) us) (EP X pins σ Q) X.xe s:=by
 have r2:Vals (vs++dvs) (us++ds):=r.append hd;have hl:(us++ds).length=ps.length:=by rw [<- r2.length];exact F.len _ _ _ _ h
 refine wpAny_call (codeAny_mono (F.run X.A X.stack s H ⟨us,[]⟩ (us++ds) (vs++dvs) Q E hr I.env0 (hb s us I.kIn hl) r2 h) λ r s' hq=> ?_)
 cases r with
 | error e=>exact hx pins σ H s e s' I hq
 | ok fl=>
  cases fl with
  | ret u=>exact I.after hq
  | next=>exact False.elim hq
  | brk=>exact False.elim hq
  | cont=>exact False.elim hq
theorem qU (F:FnOk X.prog X.w X.K X.mg X.base CX k f fd ps sp) (hr:Room k X.A) (hg:Gl X x) (hm:X.mg x=some (.ref f)) (hk:W.keepIn X.K (.ref f)=true) (hb:Binds X.K fd ps ds) (hd:Vals dvs ds) (hx:jn CX X E)
  (ha:PA X (e::es) t) (hdb:(x==("__debug__":Str))=false:=by decide) (he:starEach (e::es) X.env=(false,eval e X.env)::starEach es X.env:=by rfl) (hpl:(backTo pos (starEach es X.env)).any (·.1)=false:=by rfl):
  PE X (.Call (.Name x p) (e::es) [] pos) (aX sp dvs E t):=by
 intro pins s σ H Q I h;refine wpAny_Call_Name_kw (qR I hg hm ?_ hdb);refine PySem.W.callWith_K (h₀:=X.base) I.ok.mod.kin hk (bL (ha pos pins s σ H _ I h) λ us s1 ⟨vs,H1,I1,r,q⟩=>⟨I1.kIn,?_⟩) he hpl;exact JZ F hr hb hd hx I1 r q
structure Mk (K:W.Frag) (C f:Addr):Prop where
 makes:PySem.W.makesIn K C=true
 init:PySem.W.findIn K (.ref C) "__init__"=some (some (.ref f))
 fn:PySem.W.isFn K (.ref f)=true
 kp:W.keepIn K (.ref C)=true
end
def PK (X:Cx) (kws:List Keyword) (t:TA):Prop:=
 ∀ (pos:Pos) (pins:List (Addr×Obj)) (s:Shared) (σ:St) (H:Hp) (Q:List V->Hp->Prop),Inv X pins σ H s->t σ H Q->wpAny (model X.prog X.w) X.A (evalAll ((backToKw pos (keywordEach kws X.env)).map (·.2))) (AP X pins σ Q) X.xe s
section
variable {X:Cx} {CX:Bb} {k:Nat} {f C:Addr} {fd:FuncData} {ps ks:List Str} {sp:Sp} {E:XK} {x m:Str} {p pos apos kpos:Pos} {e o:Expr} {es:List Expr} {kws:List Keyword} {te ta:TE} {t tk:TA} {nm:Option Str}
theorem K1:PK X [] aF:=λ _ _ _ _ H Q I h=>wpAny_evalAll_nil ⟨[],H,I, .nil,h⟩
theorem Gp (ha:PE X e te) (hr:PK X kws t):PK X (⟨nm,e,kpos⟩::kws) (ak te t):=by
 intro pos pins s σ H Q I h;show wpAny _ _ (evalAll ((do let v <- eval e X.env;standAt pos;pure v)::(backToKw pos (keywordEach kws X.env)).map (·.2))) _ _ s;refine wpAny_evalAll_cons (Za (bL (ha pins s σ H _ I h) λ u s1 ⟨x,H1,I1,r1,q1⟩=>Za (wpAny_standAt (Zh ?_))));exact bL (hr pos pins s1 σ H1 _ I1 q1) λ us s2 ⟨xs,H2,I2,r2,q2⟩=>⟨x::xs,H2,I2, .cons r1 r2,q2⟩
structure KBinds (K:W.Frag) (fd:FuncData) (ps ks:List Str) (g:List Value->List Value->List Value) (gV:List V->List V->List V):Prop where
 to: ∀ (s:Shared) (us ws:List Value),K.In s.heap->(g us ws).length=ps.length->BindsTo s fd ⟨us,ks.zip ws⟩ (ps.zip (g us ws))
 rel: ∀ {vs:List V} {us:List Value} {zs:List V} {ws:List Value},Vals vs us->Vals zs ws->Vals (gV vs zs) (g us ws)
variable {g:List Value->List Value->List Value} {gV:List V->List V->List V}
end
structure FnScope (N P:List Str) (sc:Scope):Prop where
 kind:sc.kind= .function
 co:sc.isCoroutine=false
 gen:sc.isGenerator=false
 nd:N.Nodup
 pre:N.take P.length=P
 par: ∀x∈P,sc.names.lookup x=some .local\/sc.names.lookup x=some .cell
 nofree: ∀y∈sc.names,y.2≠ .free
theorem q9 {kindOf:Str->Option NameKind} {x:Str}: ∀ {binds:List (Str×Value)} {m:Str->Option Value},(∀v,(x,v)∉binds)->bindL kindOf binds m x=m x
 | [],_,_=>rfl
 | (n,v)::r,m,h=>by
  unfold bindL;rw [q9 λ w hw=>h w (Zr _ hw)];split
  ·have:x≠n:=by rintro rfl;exact h v Zy
   simp [this]
  ·rfl
theorem qb {kindOf:Str->Option NameKind} {x:Str}: ∀ {binds:List (Str×Value)} {m:Str->Option Value},(∀v,(x,v)∉binds)->bindC kindOf binds m x=m x
 | [],_,_=>rfl
 | (n,v)::r,m,h=>by
  unfold bindC;rw [qb λ w hw=>h w (Zr _ hw)];split
  ·rfl
  ·have:x≠n:=by rintro rfl;exact h v Zy
   simp [this]
theorem qg {kindOf:Str->Option NameKind} {x:Str} {v:Value}: ∀ {P:List Str} {vs:List Value} {i:Nat} {m:Str->Option Value},P.Nodup->P[i]? =some x->vs[i]? =some v->kindOf x=some .local->
  bindL kindOf (P.zip vs) m x=some v
 | [],_,_,_,_,h,_,_=>by simp at h
 | _::_,[],_,_,_,_,h,_=>by simp at h
 | p::P,w::vs,0,m,nd,h1,h2,hk=>by
  simp at h1 h2;subst h1;subst h2;show bindL kindOf ((p,w)::P.zip vs) m p=_;unfold bindL;rw [q9 λ v hv=>(Xv.mp nd).1 (List.of_mem_zip hv).1,if_pos hk];simp
 | p::P,w::vs,i+1,m,nd,h1,h2,hk=>by
  show bindL kindOf ((p,w)::P.zip vs) m x=_;unfold bindL;exact qg (i:=i) (Xv.mp nd).2 (by simpa using h1) (by simpa using h2) hk
theorem qi {kindOf:Str->Option NameKind} {x:Str} {v:Value}: ∀ {P:List Str} {vs:List Value} {i:Nat} {m:Str->Option Value},P.Nodup->P[i]? =some x->vs[i]? =some v->kindOf x≠some .local->
  bindC kindOf (P.zip vs) m x=some v
 | [],_,_,_,_,h,_,_=>by simp at h
 | _::_,[],_,_,_,_,h,_=>by simp at h
 | p::P,w::vs,0,m,nd,h1,h2,hk=>by
  simp at h1 h2;subst h1;subst h2;show bindC kindOf ((p,w)::P.zip vs) m p=_;unfold bindC;rw [qb λ v hv=>(Xv.mp nd).1 (List.of_mem_zip hv).1,if_neg hk];simp
 | p::P,w::vs,i+1,m,nd,h1,h2,hk=>by
  show bindC kindOf ((p,w)::P.zip vs) m x=_;unfold bindC;exact qi (i:=i) (Xv.mp nd).2 (by simpa using h1) (by simpa using h2) hk
def start (N:List Str) (vs:List V):St:=vs.map some++List.replicate (N.length-vs.length) none
def jb (CX:Bb) (P:Program) (w:World) (K:W.Frag) (mg:Str->Option Value) (base:Heap) (N:List Str) (qual:Str) (scope:Scope) (f:Addr) (cd:Value) (A:Around) (outer:List Env) (s:Shared) (H:Hp) (E:XK):Cx where
 prog:=P
 w:=w
 K:=K
 mg:=mg
 base:=base
 A:=A.deeper (envOfC qual scope s.heap.objs.size f cd)
 N:=N
 s₀:=s
 H₀:=H
 env:=envOfC qual scope s.heap.objs.size f cd
 outer:=outer
 stack:=envOfC qual scope s.heap.objs.size f cd::outer
 ex:=[]
 calm:=true
 fn:=λ _=>true
 pn:=[]
 xe:=λ e s'=>wpAny (model P w) (A.deeper (envOfC qual scope s.heap.objs.size f cd)) (leaving (envOfC qual scope s.heap.objs.size f cd) e) (λ _ s''=>CX outer H s E e s'') (λ e' s''=>CX outer H s E e' s'') s'
theorem ug {sc:Scope} {n:Nat} {x:Str} (h:sc.names.lookup x=some .cell): ∃c,(cellsFrom n sc.names []).lookup x=some c:=by
 have q:=PySem.W.cellsFrom_some sc.names n [] (.inl h);exact Option.isSome_iff_exists.mp q
theorem zP {CX:Bb} {P:Program} {w:World} {K:W.Frag} {mg:Str->Option Value} {base:Heap} {N ps:List Str} {qual:Str} {scope:Scope} {f:Addr} {cd:Value} {A:Around} {outer:List Env} {s s1:Shared} {H:Hp} {E:XK} {us:List Value} {vs:List V}
  (S:FnScope N ps scope) (hd:A.handled=none) (e0:Env0 P w K mg base A outer s H) (hl:vs.length=ps.length) (r:Vals vs us)
  (x:InCallC s s.heap.objs.size (bindL (envOfC qual scope s.heap.objs.size f cd).kindOf (ps.zip us) λ _=>none) (cellsFrom (s.heap.objs.size+1) scope.names []) (bindC (envOfC qual scope s.heap.objs.size f cd).kindOf (ps.zip us) λ _=>none) s1):
  Inv (jb CX P w K mg base N qual scope f cd A outer s H E) [] (start N vs) H s1:=by
 have hpl:ps.length<=N.length:=by have:=Yn List.length S.pre;rw [Ys] at this;rfl'
 obtain ⟨h1,tk,rfl,hk⟩:=x.done;have noA: ∀b:Addr,b∉(jb CX P w K mg base N qual scope f cd A outer s H E).ex:=λ b z=>absurd (show b∈([]:List Addr) from z) (by simp)
 refine ⟨⟨e0.mod,S.kind,rfl,rfl,Zn _,λ y z c h1 h2=> ?_,λ y hy=> ?_,λ y c _ h=> ?_,λ _=>hd,Around.frames_deeper e0.frames, .inr ⟨rfl,rfl⟩,λ b z=>absurd z (noA b),e0.bs,e0.bsz,λ b _ _=>noA b,λ b z=>absurd z (noA b),e0.funs,e0.frf⟩,
  rfl,e0.bare,Un.kept hk,⟨_,x.toInCall.ns,λ i y v h1 h2 h3=> ?_⟩,λ y c h=>⟨_,x.cell y c h⟩,e0.hok.fresh (Zn _),λ y c h=> ?_,λ p hp=>absurd (show p∈([]:List (Addr×Obj)) from hp) (by simp),e0.hok.kept hk,?_⟩
 ·exact name_of_addr x.apart (PySem.mem_of_lookup h1) (PySem.mem_of_lookup h2)
 ·have hy:scope.names.lookup y=some .cell\/scope.names.lookup y=some .free:=hy;rcases hy with hy | hy
  ·exact ug hy
  ·exact absurd rfl (S.nofree _ (PySem.mem_of_lookup hy))
 ·exact Xh (x.above y c (PySem.mem_of_lookup h))
 ·have hi:i<vs.length:=by
   unfold start at h2;by_cases hi:i<vs.length
   ·exact hi
   ·rw [Yp (by simpa using hi)] at h2;rw [List.getElem?_replicate] at h2;split at h2<;>cases h2
  have ha:vs[i]? =some v:=by
   unfold start at h2;rw [Ye (by simpa using hi),Zg] at h2
   cases e:vs[i]? with
   | none=>rw [e] at h2;cases h2
   | some a=>rw [e] at h2;cases h2;rfl
  obtain ⟨u,hu,rv⟩:=r.get ha;have hp:ps[i]? =some y:=by
   rw [<- S.pre,List.getElem?_take_of_lt (by rfl')];exact h1
  have ndP:ps.Nodup:=by rw [<- S.pre];exact S.nd.sublist (List.take_sublist _ _)
  refine ⟨u,rv,?_⟩;rcases S.par y (Zj hp) with k | k
  ·exact .inl ⟨k,qg ndP hp hu k⟩
  ·obtain ⟨c,e⟩:=ug (n:=s.heap.objs.size+1) k;refine .inr ⟨.inl k,c,e,?_⟩;have q:=x.cell y c e;rw [qi ndP hp hu (by show scope.names.lookup y≠_;rw [k];decide)] at q;exact q
 ·exact e0.hok.fresh (Xh (x.above y c (PySem.mem_of_lookup h)))
 ·unfold start;show _=N.length;rw [Yl,Qr,List.length_replicate];rfl'
theorem BK {CX:Bb} {P:Program} {w:World} {K:W.Frag} {mg:Str->Option Value} {base:Heap} {k:Nat} {f:Addr} {name qual:Str} {params:Arguments} {body:List Stmt} {scope:Scope} {dV kV doc pm cdv ct oc:Value} {an od:Option Addr}
  {osl:Array (Option Value)} {N ps:List Str} {sp:Sp} (lk:K.lookup f=some ⟨oc,od, .func (W.fnOf name qual params body scope dV kV doc pm an cdv ct),osl⟩) (hcd:W.codeIn K cdv qual=true) (S:FnScope N ps scope)
  (len: ∀vs H Q E,sp vs H Q E->vs.length=ps.length)
  (hbody: ∀ (A:Around) (outer:List Env) (s:Shared) (H:Hp) (vs:List V) (Q:VK) (E:XK),Room k (A.deeper (envOfC qual scope s.heap.objs.size f cdv))->sp vs H Q E->
   ∃t,PSs (jb CX P w K mg base N qual scope f cdv A outer s H E) body t/\t { nx:=λ _ H'=>Q .non H',rt:=Q } (start N vs) H):
  FnOk P w K mg base CX (k+1) f (W.fnOf name qual params body scope dV kV doc pm an cdv ct) ps sp:=by
 refine ⟨len,λ A outer s H args us vs Q E hr e0 hb r hsp=> ?_⟩;have hl:=len _ _ _ _ hsp;have KX:K.In s.heap:=e0.mod.kin.keeps λ b o e=>(e0.bs b o e).1
 have lim:s.heap.NoLimit:=e0.mod.nolimit.keeps λ b o e=>(e0.bs b o e).1
 have hkind: ∀y∈ps.zip us,scope.names.lookup y.1=some .local\/(scope.names.lookup y.1=some .cell/\((cellsFrom (s.heap.objs.size+1) scope.names []).lookup y.1).isSome=true):=λ ⟨n,v⟩ hy=>by
  rcases S.par n (List.of_mem_zip hy).1 with q | q
  ·exact .inl q
  ·exact .inr ⟨q,PySem.W.cellsFrom_some _ _ _ (.inl q)⟩
 refine codeAny_call_function hr.depth (KX _ _ lk) rfl S.co S.gen rfl (PySem.W.codeRec_of KX hcd) (hb _ _ _ _ ?_);refine wpAny_newFunctionEnv_cells S.kind hkind λ env he s1 x=> ?_
 subst he;refine ⟨lim.keeps x.toInCall.keep,codeAny_func ?_⟩;obtain ⟨t,ht,hq⟩:=hbody A outer s H vs Q E (hr.deeper _) hsp;have I:Inv (jb CX P w K mg base N qual scope f cdv A outer s H E) [] (start N vs) H s1:=zP S hr.hd e0 hl r x;refine Xe (ht [] s1 (start N vs) H _ I hq) (λ fl s' hs=> ?_) λ e s' hs=>hs
 have fin: ∀ {σ':St} {H':Hp} {v:V} {u:Value},Inv (jb CX P w K mg base N qual scope f cdv A outer s H E) [] σ' H' s'->RelV v u->Q v H'->CE outer P w H s Q u s':=
  λ {σ' H' v u} J rv q=>⟨v,H',J.os,J.bare,J.base,J.hok,rv,q⟩
 cases fl with
 | ret u=>
  obtain ⟨v,σ',H',J,rv,q⟩:=hs;exact fin J rv q
 | next=>
  obtain ⟨σ',H',J,q⟩:=hs;exact fin (v:=V.non) (u:=Value.none) J rfl q
 | brk=>
  obtain ⟨_,_,_,q⟩:=hs;exact False.elim q
 | cont=>
  obtain ⟨_,_,_,q⟩:=hs;exact False.elim q
section
variable {X:Cx} {x:Str} {p pos:Pos} {e:Expr} {es:List Expr} {t:TA} {id T:String} {r:List V->Hp->VK->Prop}
def d7 (r:List V->Hp->VK->Prop) (t:TA):TE:=λ σ H Q=>t σ H λ vs H1=>r vs H1 Q
theorem aL (hc:cX X (.builtin id) r) (hg:Gl X x) (hm:X.mg x=none) (hv:bootBuiltins x=some (.builtin id)) (ha:PA X (e::es) t) (hn:x≠"__name__":=by decide) (hdb:(x==("__debug__":Str))=false:=by decide)
  (he:starEach (e::es) X.env=(false,eval e X.env)::starEach es X.env:=by rfl) (hpl:(backTo pos (starEach es X.env)).any (·.1)=false:=by rfl):PE X (.Call (.Name x p) (e::es) [] pos) (d7 r t):=by
 intro pins s σ H Q I h;refine wpAny_Call_Name_kw (fL I hg hm hv ?_ hn hdb);exact PyProof.Rows.callWith_builtin1 (bL (ha pos pins s σ H _ I h) λ us s1 ⟨vs,H1,I1,r1,q1⟩=>hc pins s1 σ H1 vs us Q I1 r1 q1) he hpl
theorem cG (hc:cX X (.type T) r) (hg:Gl X x) (hm:X.mg x=none) (hv:bootBuiltins x=some (.type T)) (ha:PA X (e::es) t) (hn:x≠"__name__":=by decide) (hdb:(x==("__debug__":Str))=false:=by decide)
  (he:starEach (e::es) X.env=(false,eval e X.env)::starEach es X.env:=by rfl) (hpl:(backTo pos (starEach es X.env)).any (·.1)=false:=by rfl):PE X (.Call (.Name x p) (e::es) [] pos) (d7 r t):=by
 intro pins s σ H Q I h;refine wpAny_Call_Name_kw (fL I hg hm hv ?_ hn hdb);exact Wj (bL (ha pos pins s σ H _ I h) λ us s1 ⟨vs,H1,I1,r1,q1⟩=>hc pins s1 σ H1 vs us Q I1 r1 q1) he hpl
end
end L2
namespace HT
open PySem PyProof.Rows
section
variable {prog:Program} {w:World} {A:Around} {E:Value->Shared->Prop} {s:Shared}
def vK (n d:Nat):Option Int->Nat
 | none=>d
 | some v=>if v<0 then (v+(n:Int)).toNat else min v.toNat n
end
end HT
namespace L2
open PySem PySem.Spec PyProof.Rows
abbrev TO:=St->Hp->(Option Int->Hp->Prop)->Prop
def PO (X:Cx) (e:Option Expr) (t:TO):Prop:=
 ∀ (pins:List (Addr×Obj)) (s:Shared) (σ:St) (H:Hp) (Q:Option Int->Hp->Prop),Inv X pins σ H s->t σ H Q->
  wpAny (model X.prog X.w) X.A (evalPart e X.env) (λ u s'=> ∃o H',Inv X pins σ H' s'/\IsPart u o/\Q o H') X.xe s
def fB:TO:=λ _ H Q=>Q none H
def gH (t:TE):TO:=λ σ H Q=>t σ H λ x H1=> ∃i,x= .int i/\Q (some i) H1
theorem intsAre_of {ns:List Int}: ∀ {us:List Value},Vals (ns.map V.int) us->IntsAre us ns:=by
 induction ns with
 | nil=>intro us r;rw [List.map_nil] at r;cases r;exact .nil
 | cons n ns ih=>
  intro us r;rw [Zz] at r
  cases r with
  | cons r1 r2=>
   obtain ⟨t,e⟩:=r1;subst e;exact .cons n t (ih r2)
section
variable {X:Cx} {e:Expr} {te:TE} {lo hi:Option Expr} {tl th:TO} {pos p2:Pos}
theorem ik:PO X none fB:=by
 intro pins s σ H Q I h;rw [evalPart_none];exact Zh ⟨none,H,I, .none,h⟩
theorem dI (h:PE X e te):PO X (some e) (gH te):=by
 intro pins s σ H Q I hw;rw [evalPart_some];refine bL (h pins s σ H _ I hw) λ u s1 ⟨x,H1,I1,r1,q1⟩=> ?_
 obtain ⟨i,rfl,q⟩:=q1;obtain ⟨t,rfl⟩:=r1;exact ⟨some i,H1,I1, .int i t,q⟩
def QF (X:Cx) (r:V->Option Int->Option Int->Hp->VK->Prop):Prop:=
 ∀ (pins:List (Addr×Obj)) (s:Shared) (σ:St) (H:Hp) (x:V) (v vl vu:Value) (lo hi:Option Int) (sl:Addr) (Q:VK),Inv X pins σ H s->RelV x v->s.heap.IsSliceOf sl vl vu .none->IsPart vl lo->IsPart vu hi->r x lo hi H Q->
  ∃T id,typeLookup (.type T) "__getitem__"=pure (some (.builtin id))/\s.TypeIs v T/\wpAny (model X.prog X.w) X.A (getItem v (.ref sl)) (EP X pins σ Q) X.xe s
def BL (r:V->Option Int->Option Int->Hp->VK->Prop) (te:TE) (tl th:TO):TE:=λ σ H Q=>te σ H λ x H1=>tl σ H1 λ l H2=>th σ H2 λ u H3=>r x l u H3 Q
theorem dJ {r:V->Option Int->Option Int->Hp->VK->Prop} (hr:QF X r) (he:PE X e te) (hl:PO X lo tl) (hu:PO X hi th):PE X (.Subscript e (.Slice lo hi none p2) pos) (BL r te tl th):=by
 intro pins s σ H Q I h;refine Subscript_ (bL (he pins s σ H _ I h) λ v s1 ⟨x,H1,I1,r1,q1⟩=> ?_);refine wpAny_Slice (bL (hl pins s1 σ H1 _ I1 q1) λ vl s2 ⟨l,H2,I2,pl,q2⟩=>bL (hu pins s2 σ H2 _ I2 q2) λ vu s3 ⟨u,H3,I3,pu,q3⟩=> ?_);rw [evalPart_none];refine Zh ?_;have I4:Inv X pins σ H3 { s3 with heap:=s3.heap.push { cls:= .type "slice",data:= .fields #[vl,vu, .none] } }:=I3.kept (t':=s3.toks) λ b ob q=>Zd _ q
 obtain ⟨T,id,hT,ht,hg⟩:=hr pins { s3 with heap:=s3.heap.push { cls:= .type "slice",data:= .fields #[vl,vu, .none] } } σ H3 x v vl vu l u s3.heap.objs.size Q I4 r1 (Heap.IsSliceOf.new ..) pl pu q3;show wpAny (model X.prog X.w) X.A (subscriptTail e (.Slice lo hi none p2) v (.ref s3.heap.objs.size)) (EP X pins σ Q) X.xe { s3 with heap:=s3.heap.push { cls:= .type "slice",data:= .fields #[vl,vu, .none] } };exact tail_any (ops:=[.ref s3.heap.objs.size,v]) ht hT hg (by with_unfolding_all rfl)
def uh (xs:List V) (lo hi:Option Int):List V:=(xs.drop (HT.vK xs.length 0 lo)).take (HT.vK xs.length xs.length hi-HT.vK xs.length 0 lo)
theorem ul (xs:List V) (lo hi:Option Int):(uh xs lo hi).length<=xs.length:=by
 unfold uh;rw [Ys,List.length_drop];rfl'
end
def G5 (n:Nat) (i:Int):Option Nat:=if 0<=i then (if i<n then some i.toNat else none) else if-(n:Int)<=i then some (i+n).toNat else none
def qW {α:Type} (xs:List α) (i:Int):Option α:=(G5 xs.length i).bind λ j=>xs[j]?
theorem yt {n:Nat} {i:Int} {j:Nat} (h:G5 n i=some j):seqIndex? i n=some j/\j<n/\ -(n:Int)<=i/\i<n:=by
 unfold G5 at h;by_cases h0:0<=i
 ·rw [if_pos h0] at h;by_cases h1:i<n
  ·rw [if_pos h1] at h;have e:i.toNat=j:=Zx h;exact ⟨by rw [seqIndex_of h0 h1,e],by rfl',by rfl',h1⟩
  ·rw [if_neg h1] at h;cases h
 ·rw [if_neg h0] at h;by_cases h1: -(n:Int)<=i
  ·rw [if_pos h1] at h;have e:(i+n).toNat=j:=Zx h;exact ⟨by rw [seqIndex_neg (by rfl') h1,e],by rfl',h1,by rfl'⟩
  ·rw [if_neg h1] at h;cases h
theorem qX {α:Type} {xs:List α} {i:Int} {v:α} (h:qW xs i=some v): ∃j,seqIndex? i xs.length=some j/\xs[j]? =some v/\j<xs.length/\ -(xs.length:Int)<=i/\i<xs.length:=by
 unfold qW at h
 cases e:G5 xs.length i with
 | none=>rw [e] at h;cases h
 | some j=>
  rw [e] at h;obtain ⟨h1,h2,h3,h4⟩:=yt e;exact ⟨j,h1,h,h2,h3,h4⟩
theorem aJ {α:Type} {xs:List α} {j:Nat} {v:α} (h:xs[j]? =some v):qW xs (j:Int)=some v:=by
 have hj:j<xs.length:=(Zf.mp h).1;have e:G5 xs.length (j:Int)=some j:=by
  unfold G5;rw [if_pos (by rfl'),if_pos (by rfl')];simp
 unfold qW;rw [e];exact h
theorem uo {α:Type} (xs:List α) (v:α):qW (xs++[v]) (-1)=some v:=by
 have hl:(xs++[v]).length=xs.length+1:=by simp
 have e:G5 (xs++[v]).length (-1)=some xs.length:=by
  unfold G5;rw [hl,if_neg (by decide),if_pos (by rfl')];congr 1;rfl'
 unfold qW;rw [e];show (xs++[v])[xs.length]? =some v;simp
def Gq (b:Expr):Prop:= ∀o i,subscripted b false o i=operate [o,i] (getItem o i)
def Nx (X:Cx) (r:R2):Prop:=
 ∀ (value slice:Expr) (pins:List (Addr×Obj)) (s:Shared) (σ:St) (H:Hp) (x y:V) (v u:Value) (Q:VK),Inv X pins σ H s->RelV x v->RelV y u->r x y H Q->
  subscripted slice false v u=operate [v,u] (getItem v u)->wpAny (model X.prog X.w) X.A (subscriptTail value slice v u) (EP X pins σ Q) X.xe s
def O3 (X:Cx) (id:String) (r:V->List V->Hp->VK->Prop):Prop:=
 ∀ (pins:List (Addr×Obj)) (s:Shared) (σ:St) (H:Hp) (x:V) (xs:List V) (v:Value) (us:List Value) (Q:VK),Inv X pins σ H s->RelV x v->Vals xs us->r x xs H Q->
  wpAny (model X.prog X.w) X.A (call (.builtin id) (v::us)) (EP X pins σ Q) X.xe s
section
variable {X:Cx} {a b:Expr} {ta tb:TE} {pos:Pos}
theorem aQ {r:R2} (hr:Nx X r) (ha:PE X a ta) (hb:PE X b tb) (hs:Gq b):PE X (.Subscript a b pos) (aW r ta tb):=by
 intro pins s σ H Q I h;exact Subscript_ (JT ha hb I h λ v u s2 x y H2 I2 rx ry q=>hr a b pins s2 σ H2 x y v u Q I2 rx ry q (hs _ _))
def gJ (K:W.Frag):R2:=λ x y H Q=> ∃p xs i v,x= .ref p/\y= .int i/\SqL K H p xs/\qW xs i=some v/\Q v H
def bu (K:W.Frag):R2:=λ x y H Q=> ∃p xs i v,x= .ref p/\y= .int i/\SqT K H p xs/\qW xs i=some v/\Q v H
def pK:R2:=λ x y H Q=> ∃z i c,x= .str z/\y= .int i/\z.length<=sizeLine/\qW z.cps.toList i=some c/\Q (.str ⟨#[c]⟩) H
theorem Gr:Nx X (gJ X.K):=by
 intro value slice pins s σ H x y v u Q I rx ry h hs;obtain ⟨p,xs,i,z,rfl,rfl,hq,he,q⟩:=h
 cases rx;obtain ⟨t,rfl⟩:=ry;obtain ⟨its,r,pl,hz⟩:=I.list hq;obtain ⟨j,h1,h2,h3,h4,h5⟩:=qX he;obtain ⟨w,ew,rw'⟩:=r.get h2;have hl:=r.length;have hn:=kJ;have fin:EP X pins σ Q w s:=⟨z,H,I,rw',q⟩;by_cases h0:0<=i
 ·have hj:i.toNat=j:=by
   rw [seqIndex_of h0 h5] at h1;exact Zx h1
  exact item_listR pl.isList h0 (by rfl') (by rw [hj];simpa using ew) fin hs
 ·have hj:(i+(its.toArray.size:Int)).toNat=j:=by
   rw [seqIndex_neg (by rfl') h4] at h1;rw [Yf,<- hl];exact Zx h1
  exact subscriptTail_builtinR (x:=w) pl.isList.typeIs slot_list_getitem.lookup
   (wpAny_getItem_list_neg (Q:=λ r s'=>r=w/\EP X pins σ Q r s') pl.isList (by rfl') (by rw [Yf]<;>rfl') (by rfl') (by rw [hj];simpa using ew) ⟨rfl,fin⟩) hs
theorem K3:Nx X (bu X.K):=by
 intro value slice pins s σ H x y v u Q I rx ry h hs;obtain ⟨p,xs,i,z,rfl,rfl,hq,he,q⟩:=h
 cases rx;obtain ⟨t,rfl⟩:=ry;obtain ⟨its,r,pl,hz⟩:=I.tuple hq;obtain ⟨j,h1,h2,h3,h4,h5⟩:=qX he;obtain ⟨w,ew,rw'⟩:=r.get h2;have hl:=r.length;have hn:=kJ;have fin:EP X pins σ Q w s:=⟨z,H,I,rw',q⟩;exact subscriptTail_builtinR (x:=w) pl.typeIs slot_tuple_getitem.lookup
  (getItem_tuple (j:=j) (Q:=λ r s'=>r=w/\EP X pins σ Q r s') pl (by rfl') (by rfl') (by rw [Yf,<- hl];exact h1) (by simpa using ew) ⟨rfl,fin⟩) hs
theorem jo:Nx X pK:=by
 intro value slice pins s σ H x y v u Q I rx ry h hs;obtain ⟨z,i,c,rfl,rfl,hz,he,q⟩:=h;obtain ⟨t,rfl⟩:=rx;obtain ⟨t',rfl⟩:=ry;obtain ⟨j,h1,h2,h3,h4,h5⟩:=qX he;have hl:z.cps.toList.length=z.length:=by simp [Str.length]
 rw [hl] at h1 h4 h5;have hn:=kJ;exact tail_any (typeIs_str s z t) slot_str_getitem.lookup (getItem_str (c:=c) (by
  have e1:decide (i< -(2^63:Int))=false:=Yo (by rfl');have e2:decide (i>=2^63)=false:=Yo (by rfl');rw [e1,e2,Bool.or_false]) (by rw [h1];simpa using h2) ⟨.str ⟨#[c]⟩,H,I.tok _,⟨_,rfl⟩,q⟩) hs
theorem vL (its:List Value) (n j:Nat) (u:Value):Obj.mapSeq (·.setIfInBounds j u) { cls:= .type "list",data:= .seq its.toArray n }={ cls:= .type "list",data:= .seq (its.set j u).toArray n }:=by
 simp [Obj.mapSeq]
theorem Inv.lst {pins:List (Addr×Obj)} {σ:St} {H:Hp} {s:Shared} {p:Addr} {xs:List V} (I:Inv X pins σ H s) (h:H p=some (.lst xs)):
  ∃ (its:List Value) (n:Nat),Vals xs its/\s.heap.get? p=some { cls:= .type "list",data:= .seq its.toArray n }/\xs.length<=sizeLine:=by
 obtain ⟨z,its,n,r,e⟩:=I.hok p _ h;exact ⟨its,n,r,e,z⟩
theorem Inv.lstUpd {pins:List (Addr×Obj)} {σ:St} {H:Hp} {s:Shared} {p:Addr} {xs ys:List V} {its its':List Value} {n n':Nat} {f:Obj->Obj} (I:Inv X pins σ H s) (h:H p=some (.lst xs))
  (ho:s.heap.get? p=some { cls:= .type "list",data:= .seq its.toArray n }) (hf:f { cls:= .type "list",data:= .seq its.toArray n }={ cls:= .type "list",data:= .seq its'.toArray n' }) (r:Vals ys its') (hz:ys.length<=sizeLine) (t:Nat):
  Inv X pins σ (upd H p (.lst ys)) { s with heap:=s.heap.update p f,toks:=t }:=by
 have e:(s.heap.update p f).get? p=some { cls:= .type "list",data:= .seq its'.toArray n' }:=by
  rw [Xm f ho (by rw [hf]<;>rfl),hf]
 refine I.write (x:=p) (e:=p) (by rw [h];trivial) (.inl rfl) (λ b u hb q=>(Wg _ _ (Ne.symm hb)).trans q) ⟨_,e⟩ ?_;exact ⟨hz,its',n',r,e⟩
def BP:V->V->V->Hp->(Hp->Prop)->Prop:=λ o i v H Q=> ∃p xs k j,o= .ref p/\i= .int k/\H p=some (.lst xs)/\G5 xs.length k=some j/\Q (upd H p (.lst (xs.set j v)))
theorem set_list:NK X BP:=by
 intro pins s σ H o i v ov iv u Q I ro ri rv h;obtain ⟨p,xs,k,j,rfl,rfl,hp,hj,q⟩:=h
 cases ro;obtain ⟨t,rfl⟩:=ri;obtain ⟨its,n,r,ho,hz⟩:=I.lst hp;obtain ⟨h1,h2,h3,h4⟩:=yt hj;have hl:=r.length;have hn:=kJ;have I':Inv X pins σ (upd H p (.lst (xs.set j v))) { s with heap:=s.heap.update p (Obj.mapSeq (·.setIfInBounds j u)) }:=
  I.lstUpd hp ho (vL its n j u) (r.set rv j) (by rw [List.length_set];exact hz) s.toks
 by_cases h0:0<=k
 ·have hk:k.toNat=j:=by
   rw [seqIndex_of h0 h4] at h1;exact Zx h1
  exact PySem.W.ki_setAt ho h0 (by rfl') (by rw [Yf,<- hl];exact h4) (by rw [hk];exact ⟨_,I',q⟩)
 ·have hk:(k+(its.toArray.size:Int)).toNat=j:=by
   rw [seqIndex_neg (by rfl') h3] at h1;rw [Yf,<- hl];exact Zx h1
  exact PySem.W.ki_setBack ho (by rfl') (by rw [Yf,<- hl];exact h3) (by rfl') (by rw [hk];exact ⟨_,I',q⟩)
theorem qY (lo hi:Option Int) (n:Nat):(sliceBounds lo hi none n).1=((HT.vK n 0 lo:Nat):Int)/\(sliceBounds lo hi none n).2.1=((HT.vK n n hi:Nat):Int)/\(sliceBounds lo hi none n).2.2=1:=by
 refine ⟨?_,?_,rfl⟩
 ·cases lo with
  | none=>simp [sliceBounds,HT.vK]
  | some i=>
   simp only [sliceBounds,HT.vK,Option.getD_none,show (1:Int)>0 by decide,if_true];by_cases h:i<0
   ·simp only [h,if_true]<;>rfl'
   ·simp only [h,if_false]<;>rfl'
 ·cases hi with
  | none=>simp [sliceBounds,HT.vK]
  | some i=>
   simp only [sliceBounds,HT.vK,Option.getD_none,show (1:Int)>0 by decide,if_true];by_cases h:i<0
   ·simp only [h,if_true]<;>rfl'
   ·simp only [h,if_false]<;>rfl'
theorem pL (its:List Value) (lo hi:Option Int):slicePick its.toArray lo hi none=((its.drop (HT.vK its.length 0 lo)).take (HT.vK its.length its.length hi-HT.vK its.length 0 lo)).toArray:=by
 obtain ⟨h1,h2,h3⟩:=qY lo hi its.toArray.size;unfold slicePick;rw [h1,h2,h3];simp only [sliceRange_one,pick_run,Yf]<;>rfl
def BR (K:W.Frag):V->Option Int->Option Int->Hp->VK->Prop:=λ x lo hi H Q=> ∃a xs,x= .ref a/\SqL K H a xs/\ ∀p,H p=none->Q (.ref p) (upd H p (.lst (uh xs lo hi)))
theorem Gs:QF X (BR X.K):=by
 intro pins s σ H x v vl vu lo hi sl Q I rx hs pl pu h;obtain ⟨a,xs,rfl,hx,q⟩:=h
 cases rx;obtain ⟨its,r,ht,hz⟩:=I.list hx;have hlen:=r.length;refine ⟨"list",_,slot_list_getitem.lookup,ht.isList.typeIs,?_⟩;refine wpAny_getItem_list_slice ht.isList hs pl pu .none (by simp) ?_ (by rw [Yf]<;>rfl');rw [pL,<- hlen];refine ⟨.ref s.heap.objs.size,_,I.laid (t':=s.toks) (o:= .lst (uh xs lo hi)) (λ b ob q=>Zd _ q) (Zn _) ?_,rfl,q _ (I.hok.fresh (Zn _))⟩;exact ⟨Nat.le_trans (ul xs lo hi) hz,_,0,(r.drop (HT.vK xs.length 0 lo)).take (HT.vK xs.length xs.length hi-HT.vK xs.length 0 lo),Zo _ rfl⟩
def eX:V->Bool
 | .non=>true
 | .bl _=>true
 | .int _=>true
 | .str _=>true
 | _=>false
def Bc:V->V->Bool
 | .non, .non=>true
 | .bl a, .bl b=>a==b
 | .bl a, .int b=>(if a then 1 else 0)==b
 | .int a, .bl b=>a==(if b then 1 else 0)
 | .int a, .int b=>a==b
 | .str a, .str b=>a==b
 | _,_=>false
theorem K4 {A:Around} {s:Shared} {y x:V} {u v:Value} (ry:RelV y u) (rx:RelV x v) (fy:eX y=true) (fx:eX x=true):SeqAt.EqAt A s u v (Bc y x):=by
 cases y with
 | non=>
  cases ry
  cases x with
  | non=>cases rx;exact SeqAt.EqAt.same _
  | bl b=>cases rx;exact SeqAt.EqAt.none_bool b
  | int b=>obtain ⟨t,rfl⟩:=rx;exact SeqAt.EqAt.none_int b t
  | str b=>obtain ⟨t,rfl⟩:=rx;exact SeqAt.EqAt.none_str b t
  | _=>exact absurd (show false=true from fx) Zt
 | bl a=>
  cases ry
  cases x with
  | non=>cases rx;exact SeqAt.EqAt.bool_none a
  | bl b=>cases rx;exact SeqAt.EqAt.bool_bool a b
  | int b=>obtain ⟨t,rfl⟩:=rx;exact SeqAt.EqAt.bool_int a b t
  | str b=>obtain ⟨t,rfl⟩:=rx;exact SeqAt.EqAt.bool_str a b t
  | _=>exact absurd (show false=true from fx) Zt
 | int a=>
  obtain ⟨t',rfl⟩:=ry
  cases x with
  | non=>cases rx;exact SeqAt.EqAt.int_none a t'
  | bl b=>cases rx;exact SeqAt.EqAt.int_bool a t' b
  | int b=>obtain ⟨t,rfl⟩:=rx;exact SeqAt.EqAt.int_int a t' b t
  | str b=>obtain ⟨t,rfl⟩:=rx;exact SeqAt.EqAt.int_str a t' b t
  | _=>exact absurd (show false=true from fx) Zt
 | str a=>
  obtain ⟨t',rfl⟩:=ry
  cases x with
  | non=>cases rx;exact SeqAt.EqAt.str_none a t'
  | bl b=>cases rx;exact SeqAt.EqAt.str_bool a t' b
  | int b=>obtain ⟨t,rfl⟩:=rx;exact SeqAt.EqAt.str_int a t' b t
  | str b=>obtain ⟨t,rfl⟩:=rx;exact SeqAt.EqAt.str_str a t' b t
  | _=>exact absurd (show false=true from fx) Zt
 | _=>exact absurd (show false=true from fy) Zt
def vM (x:V) (u:Value):Bool:=match u with
 | .none=>Bc .non x
 | .bool b=>Bc (.bl b) x
 | .int i _=>Bc (.int i) x
 | .str z _=>Bc (.str z) x
 | _=>false
theorem BV {x y:V} {u:Value} (r:RelV y u) (f:eX y=true):vM x u=Bc y x:=by
 cases y with
 | non=>cases r;rfl
 | bl b=>cases r;rfl
 | int i=>obtain ⟨t,rfl⟩:=r;rfl
 | str z=>obtain ⟨t,rfl⟩:=r;rfl
 | _=>exact absurd (show false=true from f) Zt
theorem jJ {x:V}: ∀ {xs:List V} {us:List Value},Vals xs us->xs.all eX=true->us.any (vM x)=xs.any λ y=>Bc y x
 | _,_, .nil,_=>rfl
 | y::xs,u::us, .cons r t,f=>by
  rw [List.all_cons,Xw] at f;rw [List.any_cons,List.any_cons,BV r f.1,jJ t f.2]
theorem iM {A:Around} {s:Shared} {x:V} {v:Value} (rx:RelV x v) (fx:eX x=true): ∀ {xs:List V} {us:List Value},Vals xs us->xs.all eX=true-> ∀u∈us,SeqAt.EqAt A s u v (vM x u)
 | _,_, .nil,_=>λ u hu=>by cases hu
 | y::xs,u::us, .cons r t,f=>λ u' hu=>by
  rw [List.all_cons,Xw] at f;rcases Zp.mp hu with rfl | hu
  ·rw [BV r f.1];exact K4 r rx f.1 fx
  ·exact iM rx fx t f.2 u' hu
def inV (x:V) (xs:List V):Bool:=xs.any λ y=>Bc y x
def vN (K:W.Frag) (neg:Bool):R2:=λ x y H Q=> ∃p xs,y= .ref p/\(SqL K H p xs\/SqT K H p xs)/\eX x=true/\xs.all eX=true/\Q (.bl (if neg then !inV x xs else inV x xs)) H
theorem zQ:iH X (compareOp .In) (vN X.K false):=by
 intro pins s σ H x y v u Q I rx ry h;obtain ⟨p,xs,rfl,hq,fx,fs,q⟩:=h
 cases ry;rcases hq with hq | hq
 ·obtain ⟨its,r,pl,hz⟩:=I.list hq;refine SeqAt.in_listAt (vM x) pl.isList (λ w hw=>iM rx fx r fs w (by simpa using hw)) ⟨.bl _,H,I,rfl,?_⟩;rw [show its.toArray.any (vM x)=its.any (vM x) by simp,jJ r fs];exact q
 ·obtain ⟨its,r,pl,hz⟩:=I.tuple hq;refine SeqAt.in_tupleAt (vM x) pl (λ w hw=>iM rx fx r fs w (by simpa using hw)) ⟨.bl _,H,I,rfl,?_⟩;rw [show its.toArray.any (vM x)=its.any (vM x) by simp,jJ r fs];exact q
theorem qZ:iH X (compareOp .NotIn) (vN X.K true):=by
 intro pins s σ H x y v u Q I rx ry h;obtain ⟨p,xs,rfl,hq,fx,fs,q⟩:=h
 cases ry;rcases hq with hq | hq
 ·obtain ⟨its,r,pl,hz⟩:=I.list hq;refine SeqAt.notIn_listAt (vM x) pl.isList (λ w hw=>iM rx fx r fs w (by simpa using hw)) ⟨.bl _,H,I,rfl,?_⟩;rw [show its.toArray.any (vM x)=its.any (vM x) by simp,jJ r fs];exact q
 ·obtain ⟨its,r,pl,hz⟩:=I.tuple hq;refine SeqAt.notIn_tupleAt (vM x) pl (λ w hw=>iM rx fx r fs w (by simpa using hw)) ⟨.bl _,H,I,rfl,?_⟩;rw [show its.toArray.any (vM x)=its.any (vM x) by simp,jJ r fs];exact q
theorem rA:cX X (.type "list") (λ xs H Q=> ∃p ys,xs=[.ref p]/\(SqL X.K H p ys\/SqT X.K H p ys)/\ ∀l,H l=none->Q (.ref l) (upd H l (.lst ys))):=by
 intro pins s σ H xs us Q I r h;obtain ⟨p,ys,rfl,hq,q⟩:=h;obtain ⟨u,rfl,rx⟩:=vals1 r
 cases rx;have fin: ∀ (its:List Value),Vals ys its->ys.length<=sizeLine-> ∀ (h':Heap) (c':Nat),(∀b o',s.heap.get? b=some o'->h'.get? b=some o')->
   h'.get? s.heap.objs.size=some { cls:= .type "list",dict:=none,data:= .seq its.toArray c',slots:= #[] }->EP X pins σ Q (.ref s.heap.objs.size) { s with heap:=h' }:=λ its r' hz h' c' kp e=>
  ⟨.ref s.heap.objs.size,_,I.laid (t':=s.toks) kp (Zn _) (show ObjOk X.prog X.w _ h' _ (.lst ys) from ⟨hz,its,c',r',e⟩),rfl,q _ (I.hok.fresh (Zn _))⟩
 rcases hq with hq | hq
 ·obtain ⟨its,r',pl,hz⟩:=I.list hq;have hlen:=r'.length;obtain ⟨o,ho,hc,n,hd⟩:=pl.isList;exact call_list_seq p (.inl rfl) ho hc hd (λ h' c' kp e=>fin its r' hz h' c' kp e) (by simp only [Yf]<;>rfl')
 ·obtain ⟨its,r',pl,hz⟩:=I.tuple hq;have hlen:=r'.length;obtain ⟨o,ho,hc,n,hd⟩:=pl;exact call_list_seq p (.inr rfl) ho hc hd (λ h' c' kp e=>fin its r' hz h' c' kp e) (by simp only [Yf]<;>rfl')
theorem pM:cX X (.type "tuple") (λ xs H Q=> ∃p ys,xs=[.ref p]/\((SqL X.K H p ys/\ ∀l,H l=none->Q (.ref l) (upd H l (.tup ys)))\/(SqT X.K H p ys/\Q (.ref p) H))):=by
 intro pins s σ H xs us Q I r h;obtain ⟨p,ys,rfl,h⟩:=h;obtain ⟨u,rfl,rx⟩:=vals1 r
 cases rx;rcases h with ⟨hq,q⟩ | ⟨hq,q⟩
 ·obtain ⟨its,r',pl,hz⟩:=I.list hq;have hlen:=r'.length;refine call_tuple_list pl.isList (λ h' kp=> ?_) (by simp only [Yf]<;>rfl');have I1:Inv X pins σ H { s with heap:=h' }:=I.kept (t':=s.toks) kp;have I2:Inv X pins σ (upd H h'.objs.size (.tup ys)) { s with heap:=h'.push { cls:= .type "tuple",data:= .seq its.toArray } }:=
   I1.laid (t':=s.toks) (λ b o e=>Zd _ e) (Zn _) (show ObjOk X.prog X.w _ _ _ (.tup ys) from ⟨hz,its,r',IsTup.new _ _⟩)
  exact ⟨.ref h'.objs.size,_,I2,rfl,q _ (I1.hok.fresh (Zn _))⟩
 ·obtain ⟨its,r',pl,hz⟩:=I.tuple hq;exact call_tuple_same pl ⟨.ref p,H,I,rfl,q⟩
def K5 (K:W.Frag) (T:String) (x:V) (H:Hp):Prop:=match x with
 | .str _=>T="str"
 | .int _=>T="int"
 | .ref p=>(T="list"/\ ∃xs,SqL K H p xs)\/(T="tuple"/\ ∃o,K.lookup p=some o/\o.cls= .type "tuple"/\o.dict=none)\/
   (T="dict"/\((∃kvs,H p=some (.dK kvs))\/ ∃kvs,H p=some (.dT kvs)))\/(T="set"/\ ∃S n,H p=some (.set S n))
 | _=>False
theorem K6 {pins:List (Addr×Obj)} {σ:St} {H:Hp} {s:Shared} {T:String} {x:V} {v:Value} (I:Inv X pins σ H s) (r:RelV x v) (ty:K5 X.K T x H):
  s.TypeIs v T/\ ∀a,v= .ref a-> ∃ob,s.heap.get? a=some ob/\ob.dict=none:=by
 cases x with
 | str z=>
  obtain ⟨t,rfl⟩:=r
  cases (show T="str" from ty);exact ⟨typeIs_str s z t,λ _ e=>nomatch e⟩
 | int i=>
  obtain ⟨t,rfl⟩:=r
  cases (show T="int" from ty);exact ⟨typeIs_int s i t,λ _ e=>nomatch e⟩
 | ref p=>
  cases r;rcases ty with ⟨rfl,xs,hq⟩ | ⟨rfl,o,hk,hc,hd⟩ | ⟨rfl,hk⟩ | ⟨rfl,S,n,hk⟩
  ·obtain ⟨its,_,pl,_⟩:=I.list hq;refine ⟨pl.isList.typeIs,λ a e=> ?_⟩
   cases e;obtain ⟨o,n,e,c,hd,_⟩:=pl;exact ⟨o,e,hd⟩
  ·refine ⟨⟨o,I.kIn p o hk,hc⟩,λ a e=> ?_⟩
   cases e;exact ⟨o,I.kIn _ o hk,hd⟩
  ·have z: ∃o,s.heap.get? p=some o/\o.ExactDict:=by
    rcases hk with ⟨kvs,hk⟩ | ⟨kvs,hk⟩
    ·obtain ⟨_,_,_,_,o,_,_,e,ex,_⟩:=I.hok p _ hk;exact ⟨o,e,ex⟩
    ·obtain ⟨_,_,_,_,o,_,_,e,ex,_⟩:=I.hok p _ hk;exact ⟨o,e,ex⟩
   obtain ⟨o,e,ex⟩:=z;refine ⟨⟨o,e,ex.1⟩,λ a e2=> ?_⟩
   cases e2;exact ⟨o,e,ex.2.1⟩
  ·obtain ⟨o,_,_,_,e,ex,_⟩:=I.hok p _ hk;refine ⟨⟨o,e,ex.1⟩,λ a e2=> ?_⟩
   cases e2;exact ⟨o,e,ex.2.1⟩
 | _=>exact False.elim ty
def T8 (K:W.Frag) (T:String) (r:V->List V->Hp->VK->Prop) (to:TE):TE:=λ σ H Q=>to σ H λ x H1=>K5 K T x H1/\r x [] H1 Q
def vO (K:W.Frag) (T:String) (r:V->List V->Hp->VK->Prop) (to:TE) (t:TA):TE:=λ σ H Q=>to σ H λ x H1=>K5 K T x H1/\t σ H1 λ xs H2=>r x xs H2 Q
variable {o e:Expr} {es:List Expr} {to:TE} {t:TA} {name:Str} {apos cpos:Pos} {T id:String} {r:V->List V->Hp->VK->Prop}
theorem O4 (pa:PlainAttrs T) (slot:Slot T name id) (hty:typeOf (.builtin id)=pure (.type "method_descriptor")) (hm:O3 X id r) (ho:PE X o to) (ha:PA X (e::es) t)
  (hbase:attributeBase o name X.env (eval o X.env)=eval o X.env:=by rfl)
  (hfew:((backTo cpos (starEach (e::es) X.env)).all (λ x=> !x.1)&&(backToKw cpos (keywordEach [] X.env)).all (λ x=>x.1.isSome)
   &&decide ((e::es).length+([]:List Keyword).length+(if ([]:List Keyword).isEmpty then 0 else 1)<30))=true:=by rfl)
  (hline:(apos.endLine==cpos.line)=true:=by rfl) (hs:starEach (e::es) X.env=(false,eval e X.env)::starEach es X.env:=by rfl) (hplain:(backTo cpos (starEach es X.env)).any (·.1)=false:=by rfl):
  PE X (.Call (.Attribute o name apos) (e::es) [] cpos) (vO X.K T r to t):=by
 intro pins s σ H Q I h;refine wpAny_Call_method_late hbase hfew hline rfl (bL (ho pins s σ H _ I h) λ v s1 ⟨x,H1,I1,r1,ty,q1⟩=> ?_);obtain ⟨h1,h2⟩:=K6 I1 r1 ty;refine ⟨T,id,pa,slot,hty,h1,h2,?_⟩;have hA:=ha cpos pins s1 σ H1 _ I1 q1;rw [hs] at hA ⊢;refine Calls.callWith_builtin (by show (false||(backTo cpos (starEach es X.env)).any (·.1))=false;rw [hplain]<;>rfl) (Calls.evalArgs_plain ?_);exact bL hA λ us s2 ⟨vs,H2,I2,r2,q2⟩=>hm pins s2 σ H2 x vs v us Q I2 r1 r2 q2
end
def Ry (X:Cx) (id:String) (r:V->List V->Hp->VK->Prop):Prop:=
 ∀ (pins:List (Addr×Obj)) (s:Shared) (σ:St) (H:Hp) (x:V) (xs:List V) (v:Value) (us:List Value) (Q:VK),Inv X pins σ H s->RelV x v->Vals xs us->r x xs H Q->
  wpAny (model X.prog X.w) X.A (call (.builtin id) (v::us)) (EP X pins σ Q) X.xe s
theorem Vals.one: ∀ {x:V} {us:List Value},Vals [x] us-> ∃u,us=[u]/\RelV x u
 | _,_, .cons r .nil=>⟨_,rfl,r⟩
theorem Vals.two: ∀ {x y:V} {us:List Value},Vals [x,y] us-> ∃u v,us=[u,v]/\RelV x u/\RelV y v
 | _,_,_, .cons r (.cons q .nil)=>⟨_,_,rfl,r,q⟩
section
variable {X:Cx} {pins:List (Addr×Obj)} {σ:St} {H:Hp} {s:Shared} {l b:Addr} {xs ys zs:List V}
theorem Inv.lset {its its':List Value} {n:Nat} {f:Array Value->Array Value} {t':Nat} (I:Inv X pins σ H s) (hH:H l=some (.lst xs))
  (e:s.heap.get? l=some { cls:= .type "list",data:= .seq its.toArray n }) (hf:f its.toArray=its'.toArray) (hv:Vals ys its') (hz:ys.length<=sizeLine):
  Inv X pins σ (upd H l (.lst ys)) { s with heap:=s.heap.update l (Obj.mapSeq f),toks:=t' }:=by
 have q:=PySem.IsL.update e f;rw [hf] at q;refine I.write (x:=l) (e:=l) (by rw [hH];exact trivial) (.inl rfl) (λ b' u hb hu=>(Wg s.heap (Obj.mapSeq f) (Ne.symm hb)).trans hu) ⟨_,q⟩ ?_;exact ⟨hz,its',_,hv,q⟩
theorem Inv.lnew {its:List Value} {t':Nat} (I:Inv X pins σ H s) (hv:Vals ys its) (hz:ys.length<=sizeLine):
  Inv X pins σ (upd H s.heap.objs.size (.lst ys)) { s with heap:=s.heap.push { cls:= .type "list",data:= .seq its.toArray },toks:=t' }:=
 I.laid (λ _ _ q=>Zd _ q) (Zn _) ⟨hz,its,0,hv,Zo _ rfl⟩
theorem Inv.fresh (I:Inv X pins σ H s):H s.heap.objs.size=none:=I.hok.fresh (Zn _)
theorem Inv.lstM (I:Inv X pins σ H s) (hH:H l=some (.lst xs)):xs.length<=sizeLine/\ ∃ (its:List Value) (n:Nat),Vals xs its/\xs.length=its.length/\s.heap.get? l=some { cls:= .type "list",data:= .seq its.toArray n }:=by
 obtain ⟨z,its,n,r,e⟩:=I.hok l _ hH;exact ⟨z,its,n,r,r.length,e⟩
theorem BW {n:Nat} (h:n<=sizeLine):Builtin.List.listTooLong n=false:=by
 unfold Builtin.List.listTooLong;exact Yo (by rfl')
end
section
variable {X:Cx}
def eQ:V->List V->Hp->VK->Prop:=λ x vs H Q=> ∃l xs y,x= .ref l/\vs=[y]/\H l=some (.lst xs)/\xs.length<sizeLine/\Q .non (upd H l (.lst (xs++[y])))
theorem dw:Ry X "list.append" eQ:=by
 intro pins s σ H x vs v us Q I rx rv h;obtain ⟨l,xs,y,rfl,rfl,hH,hz,q⟩:=h
 cases rx;obtain ⟨u,rfl,ru⟩:=rv.one;obtain ⟨z,its,n,r,hl,e⟩:=I.lstM hH;refine call_meets F.slot_list_append ⟨_,e,rfl⟩ F.entry_list_append (F.args_list_append_2 _ _) (PySem.list_append l its.toArray n u (by rw [Yf];rfl')) ⟨e,?_⟩;refine ⟨.non,_,I.lset (its':=its++[u]) hH e (by simp) (r.append (.cons ru .nil)) ?_,rfl,q⟩;rw [Yl,Wy];rfl'
def rB:V->List V->Hp->VK->Prop:=λ x vs H Q=> ∃l b xs zs,x= .ref l/\vs=[.ref b]/\H l=some (.lst xs)/\H b=some (.lst zs)/\xs.length+zs.length<=sizeLine/\Q .non (upd H l (.lst (xs++zs)))
theorem zR:Ry X "list.extend" rB:=by
 intro pins s σ H x vs v us Q I rx rv h;obtain ⟨l,b,xs,zs,rfl,rfl,hH,hB,hz,q⟩:=h
 cases rx;obtain ⟨u,rfl,ru⟩:=rv.one
 cases ru;obtain ⟨z,its,n,r,hl,e⟩:=I.lstM hH;obtain ⟨z2,its2,n2,r2,hl2,e2⟩:=I.lstM hB;have hsz:its.toArray.size+its2.toArray.size<=sizeLine:=by rw [Yf,Yf];rfl'
 have hlong: ¬ (!its.toArray.isEmpty&&Builtin.List.listTooLong (its.toArray.size+its2.toArray.size))=true:=by
  rw [BW hsz,Bool.and_false];exact Zt
 refine call_meets F.slot_list_extend ⟨_,e,rfl⟩ F.entry_list_extend (F.args_list_extend_2 _ _)
  (AutoSeq1.list_extend_list_list_0 l its.toArray n b its2.toArray n2 hlong (by rw [Yf];rfl') (by rfl')) ⟨e,e2,?_⟩
 refine ⟨.non,_,I.lset (its':=its++its2) hH e (by simp) (r.append r2) ?_,rfl,q⟩;rw [Yl];rfl'
def Gu:R2:=λ x y H Q=> ∃l b xs zs,x= .ref l/\y= .ref b/\H l=some (.lst xs)/\H b=some (.lst zs)/\xs.length+zs.length<=sizeLine/\ ∀p,H p=none->Q (.ref p) (upd H p (.lst (xs++zs)))
theorem BX:iH X (binaryOp .Add) Gu:=by
 intro pins s σ H x y v u Q I rx ry h;obtain ⟨l,b,xs,zs,rfl,rfl,hH,hB,hz,q⟩:=h
 cases rx
 cases ry;obtain ⟨z,its,n,r,hl,e⟩:=I.lstM hH;obtain ⟨z2,its2,n2,r2,hl2,e2⟩:=I.lstM hB;refine PySem.P.add_list e e2 ?_ (by rw [Yf,Yf];rfl');have ea:its.toArray++its2.toArray=(its++its2).toArray:=by simp
 rw [ea];exact ⟨.ref _,_,I.lnew (t':=s.toks) (r.append r2) (by rw [Yl];rfl'),rfl,q _ I.fresh⟩
end
end L2
namespace Att
open PySem PySem.W PySem.Calls PyProof.Rows
theorem mX {P:Params} {h:Heap}: ∀ (ns:List Int) (vs:List Value),WellAll P h vs (ns.map WData.int)->IntsAre vs ns:=by
 intro ns;induction ns with
 | nil=>
  intro vs w;rw [List.map_nil] at w
  cases w;exact .nil
 | cons n ns ih=>
  intro vs w;rw [Zz] at w
  cases w with
  | cons a b=>
   cases a;exact .cons _ _ (ih _ b)
theorem zT {l:OpenLaw} {n:Nat} (hn:l.most=some n) {P:Params} {h:Heap} {args:List WData} {vals:List Value}
  (hpre:l.row.toRowW.claim.pre args=true) (hwl:WellAll P h vals args):
  ∃a vs ns,vals=[Value.ref a]/\args=[WData.list (ns.map WData.int)]/\h.get? a=some { cls:= .type "list",data:= .seq vs.toArray }/\IntsAre vs ns/\ns.length<=n:=by
 have hsh:WShape.hasAll [] args [.list .int]=true:=(pre_splitW hpre).1;have hc:l.pre.holds [] { args:=args }=true:=(pre_splitW hpre).2;obtain ⟨d,r,rfl,h1,h2⟩:=hasAllW_cons hsh;obtain rfl:=hasAllW_nil h2;obtain ⟨xs,rfl,h3⟩:=hasW_list h1;obtain ⟨ns,rfl⟩:=items_int h3;have hlen:ns.length<=n:=by
  unfold OpenLaw.pre at hc;have h4:(WTm.not (.lt (.lit (.int (n:Int))) (.len (.arg 0)))).holds [] { args:=[.list (ns.map .int)] }=true:=by
   have h4:=(holds_andW hc).1;rw [hn] at h4;exact h4
  have h5:=condW_of h4 (w_not (w_lt w_lit (w_len_list (w_arg rfl))));rw [Qr] at h5;refine Nat.le_of_not_lt λ q=> ?_
  have q':(n:Int)<((ns.length:Nat):Int):=by rfl'
  first
   | (rw [Yh q'] at h5;exact absurd h5 (by decide))
   | (simp at h5;rfl')
 cases hwl with
 | cons w1 w2=>
  cases w2
  cases w1 with
  | list ho hall=>exact ⟨_,_,ns,rfl,rfl,ho,mX ns _ hall,hlen⟩
theorem zU (l:OpenLaw) (args:List WData):l.row.toRowW.claim.post args (.bool true) args=true:=
 postW_of (r:=l.row.toRowW) (X:=(true==true))
  (show WShape.has [] (.bool true) .bool=true by first | rfl | decide | simp [WShape.has,WShape.arms,WShape.armsAll])
  (show (WTm.eq .res (.lit (.bool true))).value [] { args:=args,res:=some (.bool true),after:=args }=some (.bool (true==true)) from w_eq_bool (w_res rfl) w_lit) rfl
section
variable {prog:Program} {w:World} {A:Around} {E:Value->Shared->Prop} {s:Shared} {K:Frag}
def ledger (h:Heap) (L d:Addr):List (Addr×Obj):=(List.range h.objs.size).filterMap λ a=>if a=L\/a=d then none else (h.get? a).map λ o=>(a,o)
end
end Att
namespace L2
open PySem PySem.Spec PyProof.Rows
theorem j7: ∀ {vs:List Value} {ns:List Int},IntsAre vs ns->Vals (ns.map V.int) vs
 | _,_, .nil=> .nil
 | _,_, .cons n t h=> .cons ⟨t,rfl⟩ (j7 h)
def Only (H:Hp):Prop:= ∀b,H b=none\/ ∃o xs,H b=some (.frz o (.lst xs))
theorem BZ {P:Program} {w:World} {K:W.Frag} {mg mb:Str->Option Value} {CX:Bb} {k:Nat} {fa a:Addr} {fd:FuncData} {x:Str} {sp:Sp} {s₁:Shared} {vs:List Value} {ns:List Int}
  (KX:K.In s₁.heap) (hns:s₁.heap.Ns mainGlobals mg) (hb:s₁.heap.Ns builtinsNs mb) (hbb: ∀x:Str,x≠"__name__"->mb x=bootBuiltins x) (hlim:s₁.heap.NoLimit) (hg:s₁.gens= #[])
  (ha:s₁.heap.get? a=some { cls:= .type "list",data:= .seq vs.toArray }) (hi:IntsAre vs ns) (hl:ns.length<=sizeLine) (hr:Room k callerA)
  (F: ∀base:Heap,K.In base->base.Ns mainGlobals mg->FnOk P w K mg base CX k fa fd [x] sp) (hbind: ∀ (s:Shared) (u:Value),BindsTo s fd ⟨[u],[]⟩ [(x,u)])
  (hsp: ∀H:Hp,Only H->SqL K H a (ns.map V.int)->sp [.ref a] H (λ v _=>v= .bl true) λ _ _ _=>False)
  (hCX: ∀H e s',CX [] H s₁ (λ _ _ _=>False) e s'->False):
  codeAny (model P w) callerA (.call (.ref fa) ⟨[.ref a],[]⟩) (λ r s'=>r= .ok (.ret (.bool true))/\OldK s₁.heap s'.heap/\s'.os=s₁.os/\AllBare s'.gens) s₁:=by
 have rv:=j7 hi;have lenV:=hi.length;have core : ∀ H : Hp, Only H -> SqL K H a (ns.map V.int) -> HOk P w H s₁.heap -> (∀ b, H b ≠ none -> b = a) -> (H a ≠ none -> K.lookup a = none) ->
   codeAny (model P w) callerA (.call (.ref fa) ⟨[.ref a],[]⟩) (λ r s'=>r= .ok (.ret (.bool true))/\OldK s₁.heap s'.heap/\s'.os=s₁.os/\AllBare s'.gens) s₁:=by
  intro H hO hS hok hA hK;have base_of: ∀ {b:Addr} {o:Obj},s₁.heap.get? b=some o->H b=none->(qQ s₁.heap H).get? b=some o:=λ e n=>Be e n
  have noA: ∀ {b:Addr} {o:Obj} {es:Array DictEntry} {ep:Nat},s₁.heap.get? b=some o->o.data= .dict es ep->H b=none:=λ {b o es ep} e d=>by
   cases q:H b with
   | none=>rfl
   | some u=>
    have e':b=a:=hA b (by rw [q];simp);subst e';rw [ha] at e;cases e;have d':Data.seq vs.toArray _=Data.dict es ep:=d
    cases d'
  have nsK: ∀ {b:Addr} {m:Str->Option Value},s₁.heap.Ns b m->(qQ s₁.heap H).Ns b m:=λ {b m} ⟨o,es,ep,e,d,r⟩=>⟨o,es,ep,base_of e (noA e d),d,r⟩
  have hKb:K.In (qQ s₁.heap H):=λ b o e=>base_of (KX b o e) (by
   cases q:H b with
   | none=>rfl
   | some u=>
    have e':b=a:=hA b (by rw [q];simp);subst e';rw [hK (by rw [q];simp)] at e;cases e)
  have hM:Mod K mg (qQ s₁.heap H):=⟨hKb,nsK hns,⟨mb,nsK hb,hbb⟩,let ⟨mc,h1,h2⟩:=hlim;⟨mc,nsK h1,h2⟩⟩;have e0:Env0 P w K mg (qQ s₁.heap H) callerA [] s₁ H:=⟨rfl,hM,λ b o e=>Gb e,Nat.le_of_eq (zK _ _),trivial,λ b hb=>absurd (show b∈([]:List Addr) from hb) (by simp),hok, .of_eq hg⟩;refine codeAny_mono ((F _ hKb (nsK hns)).run callerA [] s₁ H ⟨[.ref a],[]⟩ [.ref a] [.ref a] _ _ hr e0 (hbind s₁ (.ref a)) (.cons rfl .nil) (hsp H hO hS)) λ r s' h=> ?_
  cases r with
  | error e=>exact (hCX H e s' h).elim
  | ok fl=>
   cases fl with
   | next=>exact False.elim h
   | brk=>exact False.elim h
   | cont=>exact False.elim h
   | ret u=>
    obtain ⟨v,H',os,bare,un,hok',r',q⟩:=h;have q':v= .bl true:=q;subst q';obtain rfl:u=Value.bool true:=r';refine ⟨rfl,OldK.of_keep λ b o e=> ?_,os,bare⟩
    cases q:H b with
    | none=>exact un.keep b o e q (by intro z;exact absurd (show b∈([]:List Addr) from z) (by simp)) (by simp)
    | some u=>
     rcases hO b with z | ⟨ob,xs,z⟩
     ·rw [q] at z;cases z
     ·have z2:=un.frzs b ob _ z;obtain ⟨e1,_⟩:=hok b _ z;obtain ⟨e2,_⟩:=hok' b _ z2;rw [e] at e1;cases e1;exact e2
 cases hk:K.lookup a with
 | some o=>
  have e:=KX a o hk;rw [ha] at e
  cases e;refine core (λ _=>none) (λ _=> .inl rfl) (.inr ⟨_,vs.toArray,_,hk,rfl,rfl,rfl,by rw [Yf,lenV];exact hl,by simpa using rv⟩) (λ b u z=>by have z':(none:Option HO)=some u:=z;cases z') (λ b z=>absurd rfl z) λ z=>absurd rfl z
 | none=>
  refine core (λ b=>if b=a then some (.frz { cls:= .type "list",data:= .seq vs.toArray } (.lst (ns.map V.int))) else none) (λ b=> ?_) (.inl (.inr ⟨{ cls:= .type "list",data:= .seq vs.toArray },if_pos rfl⟩)) (λ b u z=> ?_) (λ b z=> ?_) λ _=>hk
  ·by_cases hb:b=a
   ·exact .inr ⟨_,_,if_pos hb⟩
   ·exact .inl (if_neg hb)
  ·by_cases hb:b=a
   ·have z':=(if_pos hb).symm.trans z
    cases z';subst hb;exact ⟨ha,by rw [Qr];exact hl,vs,_,rv,ha⟩
   ·have z':=(if_neg hb).symm.trans z
    cases z'
  ·by_cases hb:b=a
   ·exact hb
   ·exact absurd (if_neg hb) z
abbrev KOf {K:W.Frag} {h:Heap} (_:K.In h):W.Frag:=K
abbrev Gv:Bb:=λ _ _ _ _ _ _=>False
abbrev E0:XK:=λ _ _ _=>False
theorem Im {X:Cx}:jn Gv X E0:=λ _ _ _ _ _ _ _ h=>h.elim
structure Fun (K:W.Frag) (x qual:Str) (st:Stmt) (f:Addr) (fd:FuncData):Prop where
 ex: ∃ (oc:Value) (od:Option Addr) (kV doc pm:Value) (an:Option Addr) (cdv ct:Value) (osl:Array (Option Value)),
  fd=W.fnOf x qual (cT st) (c7 st) (aC st) .none kV doc pm an cdv ct/\K.lookup f=some ⟨oc,od, .func fd,osl⟩/\W.codeIn K cdv qual=true
 kp:W.keepIn K (.ref f)=true
section
variable {P:Program} {w:World} {K:W.Frag} {mg:Str->Option Value} {base:Heap}
theorem Fun.ok {x qual:Str} {st:Stmt} {f:Addr} {fd:FuncData} {N ps:List Str} {k:Nat} {sp:Sp} (F:Fun K x qual st f fd) (S:FnScope N ps (aC st)) (len: ∀vs H Q E,sp vs H Q E->vs.length=ps.length)
  (hbody: ∀ (cdv:Value) (A:Around) (outer:List Env) (s:Shared) (H:Hp) (vs:List V) (Q:VK) (E:XK),Room k (A.deeper (envOfC qual (aC st) s.heap.objs.size f cdv))->sp vs H Q E->
   ∃t,PSs (jb Gv P w K mg base N qual (aC st) f cdv A outer s H E).nox (c7 st) t/\t { nx:=λ _ H'=>Q .non H',rt:=Q } (start N vs) H):FnOk P w K mg base Gv (k+1) f fd ps sp:=by
 obtain ⟨oc,od,kV,doc,pm,an,cdv,ct,osl,rfl,lk,hcd⟩:=F.ex;refine BK lk hcd S len λ A outer s H vs Q E hr hsp=> ?_
 obtain ⟨t,h,q⟩:=hbody cdv A outer s H vs Q E hr hsp;exact ⟨t,h.nox,q⟩
theorem Fun.binds {x qual:Str} {st:Stmt} {f:Addr} {fd:FuncData} {ps:List Str} (F:Fun K x qual st f fd)
  (h: ∀ (kV doc pm:Value) (an:Option Addr) (cdv ct:Value) (us:List Value),us.length=ps.length->bindArgs (W.fnOf x qual (cT st) (c7 st) (aC st) .none kV doc pm an cdv ct) ⟨us,[]⟩=pure (ps.zip us)):Binds K fd ps []:=by
 obtain ⟨oc,od,kV,doc,pm,an,cdv,ct,osl,rfl,lk,hcd⟩:=F.ex;exact .all (h kV doc pm an cdv ct)
theorem ou {x qual:Str} {st:Stmt} {f:Addr} {oc:Value} {od an:Option Addr} {osl:Array (Option Value)} {kV doc pm cdv ct:Value} (l:K.lookup f=some ⟨oc,od, .func (W.fnOf x qual (cT st) (c7 st) (aC st) .none kV doc pm an cdv ct),osl⟩)
  (c:W.codeIn K cdv qual=true) (k:W.keepIn K (.ref f)=true):Fun K x qual st f (W.fnOf x qual (cT st) (c7 st) (aC st) .none kV doc pm an cdv ct):=⟨⟨oc,od,kV,doc,pm,an,cdv,ct,osl,rfl,l,c⟩,k⟩
end
theorem cO {A:Around} {k:Nat} (hr:Room k A):A.units+1<cLine:=Xa (Nat.add_le_add_left (by decide:1<=64) _) hr.units
theorem zV {n:Nat} (h:n<=1000):n<sizeLine:=Xa h (by decide)
section
variable {X:Cx}
theorem pv (i:Nat) {x:Str} {pos:Pos} (hN:X.N[i]? =some x:=by rfl) (hv:QQ X.env.scope x:=by first | exact Or.inl rfl | exact Or.inr oI | exact Or.inr (Or.inr rfl)) (hd:(x==("__debug__":Str))=false:=by decide)
  (hcd:(x==("__classdict__":Str))=false:=by decide):PE X (.Name x pos) (aj i):=JM hN hv hd hcd
end
theorem vP {A B:Prop} (h:B):if false=true then A else B:=by
 rw [if_neg Zt];exact h
theorem zW {A B:Prop} (h:A):if true=true then A else B:=by
 rw [if_pos rfl];exact h
def Same (H H':Hp):Prop:= ∀b o,H b=some o->H' b=some o
theorem Same.refl (H:Hp):Same H H:=λ _ _ h=>h
theorem Same.trans {H H1 H2:Hp} (a:Same H H1) (b:Same H1 H2):Same H H2:=λ c o h=>b c o (a c o h)
theorem Same.free {H H':Hp} (e:Same H H') {l:Addr} (h:H' l=Option.none):H l=Option.none:=by
 cases q:H l with
 | none=>rfl
 | some o=>
  rw [e l o q] at h
  cases h
theorem Same.seq {K:W.Frag} {H H':Hp} {a:Addr} {xs:List V} (e:Same H H') (h:SqL K H a xs):SqL K H' a xs:=by
 rcases h with (h | ⟨o,h⟩) | h
 ·exact .inl (.inl (e _ _ h))
 ·exact .inl (.inr ⟨o,e _ _ h⟩)
 ·exact .inr h
section
variable {κ:Type} [DecidableEq κ]
def dh (kvs:List (κ×V)) (k:κ):Option V:=(kvs.find? λ kv=>decide (kv.1=k)).map (·.2)
def putK (kvs:List (κ×V)) (k:κ) (v:V):List (κ×V):=
 if (kvs.any λ kv=>decide (kv.1=k))=true then kvs.map (λ kv=>if kv.1=k then (kv.1,v) else kv) else kvs++[(k,v)]
def Rz (kvs:List (κ×V)) (k:κ):List (κ×V):=kvs.filter λ kv=>decide (kv.1≠k)
theorem gK {p:κ×V} {r:List (κ×V)} {k:κ} (e:p.1=k):dh (p::r) k=some p.2:=by simp [dh,Wo,e]
theorem fM {p:κ×V} {r:List (κ×V)} {k:κ} (e: ¬p.1=k):dh (p::r) k=dh r k:=by simp [dh,Wo,e]
theorem gM (k:κ): ∀kvs:List (κ×V),(kvs.any λ kv=>decide (kv.1=k))=(dh kvs k).isSome
 | []=>rfl
 | p::r=>by
  rw [List.any_cons];by_cases e:p.1=k
  ·simp only [gK e,Yh e,Bool.true_or,Option.isSome_some]
  ·rw [fM e,Yo e,Bool.false_or];exact gM k r
theorem iQ (kvs:List (κ×V)) (k:κ) (v:V):(putK kvs k v).length<=kvs.length+1:=by
 unfold putK;split
 ·rw [Qr];rfl'
 ·rw [Yl,Xx,Wc];rfl'
theorem gO {kvs:List (κ×V)} {k:κ} (v:V) (h:dh kvs k=none):putK kvs k v=kvs++[(k,v)]:=by
 unfold putK;rw [gM,h];exact if_neg (by decide)
theorem RelO.isSome_eq {o:Option V} {u:Option Value} (r:RelO o u):o.isSome=u.isSome:=by
 cases o with
 | none=>cases u with
  | none=>rfl
  | some _=>exact (show False from r).elim
 | some _=>cases u with
  | none=>exact (show False from r).elim
  | some _=>rfl
theorem KV.val {kvs:List (κ×V)} {vs:List (κ×Value)} (r:KV kvs vs) (k:κ):RelO (dh kvs k) (valueAt vs k):=by
 unfold KV at r;induction r with
 | nil=>exact True.intro
 | @cons p q ps qs h t ih=>
  obtain ⟨h1,h2⟩:=h;by_cases e:p.1=k
  ·have e':q.1=k:=h1.symm.trans e;have b:valueAt (q::qs) k=some q.2:=by simp [valueAt,Wo,e']
   rw [gK e,b];exact h2
  ·have e': ¬q.1=k:=λ z=>e (h1.trans z)
   have b:valueAt (q::qs) k=valueAt qs k:=by simp [valueAt,Wo,e']
   rw [fM e,b];exact ih
theorem KV.any {kvs:List (κ×V)} {vs:List (κ×Value)} (r:KV kvs vs) (k:κ):(kvs.any λ kv=>decide (kv.1=k))=vs.any λ kv=>decide (kv.1=k):=by
 unfold KV at r;induction r with
 | nil=>rfl
 | cons h t ih=>rw [List.any_cons,List.any_cons,ih,h.1]
theorem KV.repl {kvs:List (κ×V)} {vs:List (κ×Value)} (r:KV kvs vs) (k:κ) {y:V} {u:Value} (ry:RelV y u):
  KV (kvs.map λ kv=>if kv.1=k then (kv.1,y) else kv) (vs.map λ kv=>if kv.1=k then (kv.1,u) else kv):=by
 unfold KV at r ⊢;induction r with
 | nil=>exact .nil
 | @cons p q ps qs h t ih=>
  rw [Zz,Zz];refine .cons ?_ ih;obtain ⟨h1,h2⟩:=h;by_cases e:p.1=k
  ·rw [if_pos e,if_pos (h1.symm.trans e)];exact ⟨h1,ry⟩
  ·rw [if_neg e,if_neg (λ z=>e (h1.trans z))];exact ⟨h1,h2⟩
theorem KV.put {kvs:List (κ×V)} {vs:List (κ×Value)} (r:KV kvs vs) (k:κ) {y:V} {u:Value} (ry:RelV y u):KV (putK kvs k y) (stored vs k u):=by
 unfold putK stored;rw [r.any k];by_cases e:(vs.any λ kv=>decide (kv.1=k))=true
 ·rw [if_pos e,if_pos e];exact r.repl k ry
 ·rw [if_neg e,if_neg e];exact Paired.snoc r ⟨rfl,ry⟩
theorem KV.keys {kvs:List (κ×V)} {vs:List (κ×Value)} (r:KV kvs vs):kvs.map (·.1)=vs.map (·.1):=by
 unfold KV at r;induction r with
 | nil=>rfl
 | cons h t ih=>rw [Zz,Zz,ih,h.1]
theorem KV.length {kvs:List (κ×V)} {vs:List (κ×Value)} (r:KV kvs vs):kvs.length=vs.length:=Paired.length r
end
theorem qj {P:Program} {w:World} {k:Key} {u:Value} (r:RelV (kV k) u):(bI P w).is k u=true:=by
 cases k with
 | inl i=>obtain ⟨t,e⟩:=(show ∃t,u=Value.int i t from r);subst e;exact u0 P w i t
 | inr x=>obtain ⟨t,e⟩:=(show ∃t,u=Value.str x t from r);subst e;exact u5 P w x t
theorem ql {P:Program} {w:World}: ∀ {ks:List Key} {us:List Value},Vals (ks.map kV) us->ItemsAre (bI P w) ks us
 | [],_,r=>by rw [List.map_nil] at r;cases r;exact .nil
 | k::ks,_,r=>by
  rw [Zz] at r
  cases r with
  | cons h t=>exact .cons (qj h) (ql t)
abbrev KT (H:Hp):List (List Key×V)->List (List Key×Addr×Value)->Prop:=Paired λ p q=>p.1=q.1/\H q.2.1=some (.tup (p.1.map kV))/\RelV p.2 q.2.2
theorem KT.val {H:Hp} {kvs:List (List Key×V)} {xs:List (List Key×Addr×Value)} (r:KT H kvs xs) (k:List Key):RelO (dh kvs k) ((atKey xs k).map (·.2)):=by
 induction r with
 | nil=>exact True.intro
 | @cons p q ps qs h t ih=>
  obtain ⟨h1,_,h2⟩:=h;by_cases e:p.1=k
  ·have e':q.1=k:=h1.symm.trans e;have b:atKey (q::qs) k=some q.2:=by simp [atKey,Wo,e']
   rw [gK e,b];exact h2
  ·have e': ¬q.1=k:=λ z=>e (h1.trans z)
   have b:atKey (q::qs) k=atKey qs k:=by simp [atKey,Wo,e']
   rw [fM e,b];exact ih
theorem KT.repl {H:Hp} {kvs:List (List Key×V)} {xs:List (List Key×Addr×Value)} (r:KT H kvs xs) (k:List Key) {y:V} {u:Value} (ry:RelV y u):
  KT H (kvs.map λ kv=>if kv.1=k then (kv.1,y) else kv) (xs.map (putAt k u)):=by
 induction r with
 | nil=>exact .nil
 | @cons p q ps qs h t ih=>
  rw [Zz,Zz];refine .cons ?_ ih;obtain ⟨h1,h2,h3⟩:=h;unfold putAt;by_cases e:p.1=k
  ·rw [if_pos e,if_pos (h1.symm.trans e)];exact ⟨h1,h2,ry⟩
  ·rw [if_neg e,if_neg (λ z=>e (h1.trans z))];exact ⟨h1,h2,h3⟩
theorem KT.put {H:Hp} {kvs:List (List Key×V)} {xs:List (List Key×Addr×Value)} (r:KT H kvs xs) (k:List Key) {b:Addr} {y:V} {u:Value} (hb:H b=some (.tup (k.map kV))) (ry:RelV y u):
  KT H (putK kvs k y) (storedH xs k b u):=by
 have e:(kvs.any λ kv=>decide (kv.1=k))=(atKey xs k).isSome:=by
  rw [gM,(r.val k).isSome_eq,Option.isSome_map]
 unfold putK storedH;rw [e];by_cases q:(atKey xs k).isSome=true
 ·rw [if_pos q,if_pos q];exact r.repl k ry
 ·rw [if_neg q,if_neg q];exact Paired.snoc r ⟨rfl,hb,ry⟩
theorem KT.keeps {H H':Hp} {kvs:List (List Key×V)} {xs:List (List Key×Addr×Value)} (r:KT H kvs xs) (ht: ∀b ys,H b=some (.tup ys)->H' b=some (.tup ys)):KT H' kvs xs:=
 Paired.mapP r λ _ _ z=>⟨z.1,ht _ _ z.2.1,z.2.2⟩
section
variable {P:Program} {w:World} {H:Hp} {h:Heap} {a:Addr}
theorem Io {u:HO} (ok:HOk P w H h) (e:Rd H a u):ObjOk P w H h a u:=e.ok ok
theorem jd {kvs:List (Key×V)} (ok:HOk P w H h) (e:Rd H a (.dK kvs)):kvs.length<=sizeLine/\(a==sysModules)=false/\ ∃vs,KV kvs vs/\h.DictOf (bI P w) a vs:=
 show ObjOk P w H h a (.dK kvs) from Io ok e
theorem Ip {kvs:List (Key×V)} (ok:HOk P w H h) (e:H a=some (.dK kvs)):kvs.length<=sizeLine/\(a==sysModules)=false/\ ∃vs,KV kvs vs/\h.DictOf (bI P w) a vs:=jd ok (.inl e)
theorem kO {ks:List Key} (ok:HOk P w H h) (e:H a=some (.tup (ks.map kV))):(tupleKind (bI P w)).is h ks a:=by
 obtain ⟨_,its,r,o,h1,h2,n,h3⟩:=(show ObjOk P w H h a (.tup (ks.map kV)) from ok a _ e);exact ⟨o,its.toArray,n,h1,h2,h3,by simpa using ql r⟩
theorem qm {kvs:List (List Key×V)} (ok:HOk P w H h) (e:Rd H a (.dT kvs)):kvs.length<=sizeLine/\(a==sysModules)=false/\
  ∃xs,KT H kvs xs/\h.DictOfH (tupleKind (bI P w)) a xs:=by
 obtain ⟨z,y,xs,r,o,es,ep,h1,h2,h3,h4,h5⟩:=(show ObjOk P w H h a (.dT kvs) from Io ok e);refine ⟨z,y,xs,r,o,es,ep,h1,h2,h3,h4,λ x hx=> ?_,h5⟩;have all: ∀ {l:List (List Key×V)} {m:List (List Key×Addr×Value)},KT H l m-> ∀x∈m,(tupleKind (bI P w)).is h x.1 x.2.1:=by
  intro l m q;induction q with
  | nil=>intro x hx;exact nomatch hx
  | @cons p q ps qs hq t ih=>
   intro x hx;rcases Zp.mp hx with e | hx
   ·subst e;exact kO ok (by rw [<- hq.1];exact hq.2.1)
   ·exact ih x hx
 exact all r x hx
theorem yu {kvs:List (List Key×V)} (ok:HOk P w H h) (e:H a=some (.dT kvs)):kvs.length<=sizeLine/\(a==sysModules)=false/\
  ∃xs,KT H kvs xs/\h.DictOfH (tupleKind (bI P w)) a xs:=qm ok (.inl e)
end
def DGet (H:Hp) (a:Addr) (y:V) (r:Option V):Prop:=
 (∃kvs k,Rd H a (.dK kvs)/\y=kV k/\r=dh kvs k)\/ ∃kvs k b,Rd H a (.dT kvs)/\y= .ref b/\H b=some (.tup (k.map kV))/\r=dh kvs k
def DPut (H:Hp) (a:Addr) (y v:V) (H':Hp):Prop:=
 (∃kvs k,H a=some (.dK kvs)/\y=kV k/\kvs.length<sizeLine/\H'=upd H a (.dK (putK kvs k v)))\/
 ∃kvs k b,H a=some (.dT kvs)/\y= .ref b/\H b=some (.tup (k.map kV))/\kvs.length<sizeLine/\H'=upd H a (.dT (putK kvs k v))
theorem DGet.k {H:Hp} {a:Addr} {kvs:List (Key×V)} {k:Key} (e:H a=some (.dK kvs)):DGet H a (kV k) (dh kvs k):= .inl ⟨kvs,k, .inl e,rfl,rfl⟩
theorem DGet.t {H:Hp} {a b:Addr} {kvs:List (List Key×V)} {k:List Key} (e:H a=some (.dT kvs)) (eb:H b=some (.tup (k.map kV))):DGet H a (.ref b) (dh kvs k):= .inr ⟨kvs,k,b, .inl e,rfl,eb,rfl⟩
theorem DPut.k {H:Hp} {a:Addr} {kvs:List (Key×V)} {k:Key} {v:V} (e:H a=some (.dK kvs)) (hl:kvs.length<sizeLine):DPut H a (kV k) v (upd H a (.dK (putK kvs k v))):= .inl ⟨kvs,k,e,rfl,hl,rfl⟩
theorem DPut.t {H:Hp} {a b:Addr} {kvs:List (List Key×V)} {k:List Key} {v:V} (e:H a=some (.dT kvs)) (eb:H b=some (.tup (k.map kV))) (hl:kvs.length<sizeLine):
  DPut H a (.ref b) v (upd H a (.dT (putK kvs k v))):= .inr ⟨kvs,k,b,e,rfl,eb,hl,rfl⟩
section
variable {X:Cx} {pins:List (Addr×Obj)} {σ:St} {H:Hp} {s:Shared} {a:Addr} {y v:V} {u r:Value} {o:Option V} {A:Around} {E:Value->Shared->Prop}
theorem Inv.big (I:Inv X pins σ H s):sysModules<s.heap.objs.size:=by
 have h:mainGlobals<s.heap.objs.size:=(I.mod.glob.keeps I.bk).lt;exact Nat.lt_trans (by decide) h
theorem zX {Q:Value->Shared->Prop} (hu:A.units+1<cLine) (I:Inv X pins σ H s) (g:DGet H a y (some v)) (ry:RelV y u) (h: ∀w' s',Inv X pins σ H s'->RelV v w'->Q w' s'):
  wpAny (model X.prog X.w) A (getItem (.ref a) u) Q E s:=by
 rcases g with ⟨kvs,k,e,ey,l⟩ | ⟨kvs,k,b,e,ey,eb,l⟩
 ·subst ey;obtain ⟨z,hd,vs,rel,dd⟩:=jd I.hok e;obtain ⟨w',hw,rw'⟩:=RelO.some_of (v:=v) (o:=valueAt vs k) (by rw [l];exact rel.val k);exact wpAny_getItem_of (qj ry) dd.mapOf hw (h w' _ (I.tok _) rw')
 ·subst ey
  cases (show u=Value.ref b from ry);obtain ⟨z,hd,xs,rel,dd⟩:=qm I.hok e;obtain ⟨w',hw,rw'⟩:=RelO.some_of (v:=v) (o:=(atKey xs k).map (·.2)) (by rw [l];exact rel.val k);obtain ⟨p,hp,hp2⟩:=Yd.mp hw;refine wpAny_getItem_heap (tupleKind_room_in1 hu) (kO I.hok eb) dd hp ?_;rw [hp2];exact h w' _ (I.tok _) rw'
theorem QW {Q:Value->Shared->Prop} (hu:A.units+1<cLine) (I:Inv X pins σ H s) (g:DGet H a y o) (ry:RelV y u) (h: ∀s',Inv X pins σ H s'->Q (.bool o.isSome) s'):
  wpAny (model X.prog X.w) A (compareOp .In u (.ref a)) Q E s:=by
 rcases g with ⟨kvs,k,e,ey,l⟩ | ⟨kvs,k,b,e,ey,eb,l⟩
 ·subst ey;obtain ⟨z,hd,vs,rel,dd⟩:=jd I.hok e;refine wpAny_in_of (qj ry) hd dd.mapOf ?_;rw [<- (rel.val k).isSome_eq,<- l];exact h _ (I.tok _)
 ·subst ey
  cases (show u=Value.ref b from ry);obtain ⟨z,hd,xs,rel,dd⟩:=qm I.hok e;refine wpAny_in_heap (tupleKind_room_in1 hu) (kO I.hok eb) hd dd ?_;have q:=(rel.val k).isSome_eq;rw [Option.isSome_map] at q;rw [<- q,<- l];exact h _ (I.tok _)
theorem Gw {Q:Value->Shared->Prop} (hu:A.units+1<cLine) (I:Inv X pins σ H s) (g:DGet H a y o) (ry:RelV y u) (h: ∀s',Inv X pins σ H s'->Q (.bool (!o.isSome)) s'):
  wpAny (model X.prog X.w) A (compareOp .NotIn u (.ref a)) Q E s:=by
 rcases g with ⟨kvs,k,e,ey,l⟩ | ⟨kvs,k,b,e,ey,eb,l⟩
 ·subst ey;obtain ⟨z,hd,vs,rel,dd⟩:=jd I.hok e;refine wpAny_notIn_of (qj ry) hd dd.mapOf ?_;rw [<- (rel.val k).isSome_eq,<- l];exact h _ (I.tok _)
 ·subst ey
  cases (show u=Value.ref b from ry);obtain ⟨z,hd,xs,rel,dd⟩:=qm I.hok e;refine wpAny_notIn_heap (tupleKind_room_in1 hu) (kO I.hok eb) hd dd ?_;have q:=(rel.val k).isSome_eq;rw [Option.isSome_map] at q;rw [<- q,<- l];exact h _ (I.tok _)
theorem nA {h':Heap} {t':Nat} {ob:HO} (I:Inv X pins σ H s) (mu:Nz (H a)) (hs:Heap.SameBut a s.heap h') (he: ∃q,h'.get? a=some q) (new:ObjOk X.prog X.w (upd H a ob) h' a ob):
  Inv X pins σ (upd H a ob) { s with heap:=h',toks:=t' }:=
 I.write (x:=a) (e:=a) mu (.inl rfl) (λ b q hb z=>(hs.2 b hb).trans z) he new
theorem Ca {P:Program} {w:World} {H':Hp} {h':Heap} {kvs:List (Key×V)} {vs:List (Key×Value)} (z:kvs.length<=sizeLine) (hd:(a==sysModules)=false) (rel:KV kvs vs) (dd:h'.DictOf (bI P w) a vs):
  ObjOk P w H' h' a (.dK kvs):=⟨z,hd,vs,rel,dd⟩
theorem zY {H':Hp} {Q:Unit->Shared->Prop} (hu:A.units+1<cLine) (I:Inv X pins σ H s) (g:DPut H a y v H') (ry:RelV y u) (rv:RelV v r) (h: ∀s',Inv X pins σ H' s'->Q () s'):
  wpAny (model X.prog X.w) A (setItem (.ref a) u r) Q E s:=by
 rcases g with ⟨kvs,k,e,ey,l,eH⟩ | ⟨kvs,k,b,e,ey,eb,l,eH⟩
 ·subst ey eH;obtain ⟨z,hd,vs,rel,dd⟩:=Ip I.hok e;have hz:vs.length<=sizeLine:=by rw [<- rel.length];exact z
  have hl:(putK kvs k v).length<=sizeLine:=by have:=iQ kvs k v;rfl'
  refine wpAny_setItem_pairs (hsz:=hz) (qj ry) dd λ h' dd' hs=>h _ ?_
  have he: ∃q,h'.get? a=some q:=let ⟨q,_,_,hq,_⟩:=dd';⟨q,hq⟩;exact nA I (by rw [e];exact True.intro) hs he (Ca hl hd (rel.put k rv) dd')
 ·subst ey eH
  cases (show u=Value.ref b from ry);obtain ⟨z,hd,xs,rel,dd⟩:=yu I.hok e;have hz:xs.length<=sizeLine:=by rw [<- Paired.length rel];exact z
  have hl:(putK kvs k v).length<=sizeLine:=by have:=iQ kvs k v;rfl'
  refine wpAny_setItem_heap (hsz:=hz) (tupleKind_room_in1 hu) (kO I.hok eb) dd λ h' dd' hs=>h _ ?_
  obtain ⟨q,es,ep,hq,h2,h3,h4,_,h5⟩:=dd';refine nA I (by rw [e];exact True.intro) hs ⟨q,hq⟩ ⟨hl,hd,_,(rel.put k eb rv).keeps λ c ys ec=> ?_,q,es,ep,hq,h2,h3,h4,h5⟩;rw [aD (du ec e (λ z=>nomatch z))];exact ec
end
def O5 (i:Expr):Prop:= ∀ov iv,subscripted i false ov iv=operate [ov,iv] (getItem ov iv)
theorem Gx {prog:Program} {w:World} {A:Around} {E:Value->Shared->Prop} {s:Shared} {env:Env} {value slice:Expr} {pos:Pos} {T id:String} {Q:Value->Shared->Prop}
  (hl:typeLookup (.type T) "__getitem__"=pure (some (.builtin id))) (hs:O5 slice)
  (h:wpAny (model prog w) A (eval value env) (λ o s₁=>wpAny (model prog w) A (eval slice env) (λ i s₂=>s₂.TypeIs o T/\wpAny (model prog w) A (getItem o i) Q E s₂) E s₁) E s):
  wpAny (model prog w) A (eval (.Subscript value slice pos) env) Q E s:=by
 refine Subscript_ (Xe h (λ o s₁ h₁=>Xe h₁ (λ i s₂ h₂=> ?_) λ _ _ x=>x) λ _ _ x=>x);obtain ⟨hT,h₂⟩:=h₂;unfold subscriptTail;refine Za ?_;rw [getitemInPython_of_ne hT.not_modules];refine Za (wpAny_specialOf hT hl ?_);have fin:wpAny (model prog w) A (subscripted slice false o i) (λ r s₃=>wpAny (model prog w) A (letTemporaryGo value o r >>= λ _=>pure r) Q E s₃) E s₂:=by
  rw [hs o i];exact wpAny_operating (Xe h₂ (λ r s₃ h₃=>Za (wpAny_letTemporaryGo (Zh h₃))) λ _ _ x=>x)
 first
  | exact Zh (Za fin)
  | exact Za (Zh (Za fin))
  | exact Za fin
theorem ur {X:Cx} {pins:List (Addr×Obj)} {σ:St} {H:Hp} {s:Shared} {a:Addr} {y:V} {o:Option V} (I:Inv X pins σ H s) (g:DGet H a y o):s.TypeIs (.ref a) "dict":=by
 rcases g with ⟨kvs,k,e,_,_⟩ | ⟨kvs,k,b,e,_,_,_⟩
 ·obtain ⟨_,_,vs,_,dd⟩:=jd I.hok e;exact dd.typeIs
 ·obtain ⟨_,_,xs,_,dd⟩:=qm I.hok e;exact dd.typeIs
def g8 (td ty:TE):TE:=λ σ H Q=>td σ H λ x H1=>ty σ H1 λ y H2=> ∃a v,x= .ref a/\DGet H2 a y (some v)/\Q v H2
def Gy (ty td:TE):TE:=λ σ H Q=>ty σ H λ y H1=>td σ H1 λ x H2=> ∃a o,x= .ref a/\DGet H2 a y o/\Q (.bl o.isSome) H2
def rC (ty td:TE):TE:=λ σ H Q=>ty σ H λ y H1=>td σ H1 λ x H2=> ∃a o,x= .ref a/\DGet H2 a y o/\Q (.bl (!o.isSome)) H2
def je (td ty tv:TE):TS:=λ D σ H=>tv σ H λ v H1=>td σ H1 λ x H2=>ty σ H2 λ y H3=> ∃a H4,x= .ref a/\DPut H3 a y v H4/\D.nx σ H4
section
variable {X:Cx} {o i e value:Expr} {pos pos' tpos:Pos} {td ty tv:TE}
theorem d9 (hu:X.A.units+1<cLine) (ho:PE X o td) (hi:PE X i ty) (hs:O5 i):PE X (.Subscript o i pos) (g8 td ty):=by
 intro pins s σ H Q I h;refine Gx PySem.F.slot_dict_getitem.lookup hs (bL (ho pins s σ H _ I h) λ u s1 ⟨x,H1,I1,rx,q1⟩=>bL (hi pins s1 σ H1 _ I1 q1) λ iv s2 ⟨y,H2,I2,ry,a,v,ex,g,q2⟩=> ?_);subst ex;obtain rfl:u=Value.ref a:=rx;exact ⟨ur I2 g,zX hu I2 g ry λ w' s3 I3 rw'=>⟨v,H2,I3,rw',q2⟩⟩
theorem Cd (hu:X.A.units+1<cLine) (hi:PE X i ty) (ho:PE X o td):PC X .In i o (Gy ty td):=by
 intro pins s σ H Q I h;refine bL (hi pins s σ H _ I h) λ iv s1 ⟨y,H1,I1,ry,q1⟩=>bL (ho pins s1 σ H1 _ I1 q1) λ u s2 ⟨x,H2,I2,rx,a,ov,ex,g,q2⟩=> ?_
 subst ex;obtain rfl:u=Value.ref a:=rx;exact QW hu I2 g ry λ s3 I3=>⟨.bl ov.isSome,H2,I3,rfl,q2⟩
theorem zZ (hu:X.A.units+1<cLine) (hi:PE X i ty) (ho:PE X o td):PC X .NotIn i o (rC ty td):=by
 intro pins s σ H Q I h;refine bL (hi pins s σ H _ I h) λ iv s1 ⟨y,H1,I1,ry,q1⟩=>bL (ho pins s1 σ H1 _ I1 q1) λ u s2 ⟨x,H2,I2,rx,a,ov,ex,g,q2⟩=> ?_
 subst ex;obtain rfl:u=Value.ref a:=rx;exact Gw hu I2 g ry λ s3 I3=>⟨.bl (!ov.isSome),H2,I3,rfl,q2⟩
theorem gb (hu:X.A.units+1<cLine) (ho:PE X o td) (hi:PE X i ty) (hv:PE X value tv) (hs:swapsWith value (some (.Subscript o i pos')) pos.line X.env=pure false):
  PS X (.Assign [.Subscript o i pos'] value pos) (je td ty tv):=by
 intro pins s σ H D I h;refine wpAny_Assign_Subscript (bL (hv pins s σ H _ I h) λ r s1 ⟨v,H1,I1,rv,q1⟩=>bL (ho pins s1 σ H1 _ I1 q1) λ u s2 ⟨x,H2,I2,rx,q2⟩=>bL (hi pins s2 σ H2 _ I2 q2) λ iv s3 ⟨y,H3,I3,ry,a,H4,ex,g,q3⟩=> ?_) hs;subst ex;obtain rfl:u=Value.ref a:=rx;exact zY hu I3 g ry rv λ s4 I4=>⟨σ,H4,I4,q3⟩
end
theorem ut {P:Program} {w:World} {H:Hp} (h:Heap) (hb:sysModules<h.objs.size):ObjOk P w H (h.push { cls:= .type "dict",data:= .dict #[] }) h.objs.size (.dK []):=
 ⟨Nat.zero_le _,beq_eq_false_iff_ne.mpr (Ne.symm (Yc hb)),[], .nil,Heap.DictOf.new h⟩
theorem uv {P:Program} {w:World} {H:Hp} (h:Heap) (hb:sysModules<h.objs.size):ObjOk P w H (h.push { cls:= .type "dict",data:= .dict #[] }) h.objs.size (.dT []):=
 ⟨Nat.zero_le _,beq_eq_false_iff_ne.mpr (Ne.symm (Yc hb)),[], .nil,_,#[],0,Zo _ rfl,⟨rfl,rfl,rfl⟩,rfl,rfl,List.nodup_nil⟩
def oA:TE:=λ _ H Q=> ∀p,H p=none->Q (.ref p) (upd H p (.dK []))
def vQ:TE:=λ _ H Q=> ∀p,H p=none->Q (.ref p) (upd H p (.dT []))
section
variable {X:Cx} {pos:Pos}
theorem oE:PE X (.Dict [] [] pos) oA:=λ pins s σ H Q I h=>
 wpAny_Dict_empty ⟨.ref s.heap.objs.size,_,I.laid (a:=s.heap.objs.size) (o:= .dK []) (t':=s.toks) (λ _ _ q=>Zd _ q) (Zn _) (ut s.heap I.big),rfl,h _ (I.hok.fresh (Zn _))⟩
theorem Ce:PE X (.Dict [] [] pos) vQ:=λ pins s σ H Q I h=>
 wpAny_Dict_empty ⟨.ref s.heap.objs.size,_,I.laid (a:=s.heap.objs.size) (o:= .dT []) (t':=s.toks) (λ _ _ q=>Zd _ q) (Zn _) (uv s.heap I.big),rfl,h _ (I.hok.fresh (Zn _))⟩
end
def vR:List (TE×TE)->St->Hp->(List (V×V)->Hp->Prop)->Prop
 | [],_,H,Q=>Q [] H
 | (tk,tv)::r,σ,H,Q=>tk σ H λ x H1=>tv σ H1 λ y H2=>vR r σ H2 λ ps H3=>Q ((x,y)::ps) H3
abbrev VV:List (V×V)->List (Value×Value)->Prop:=Paired λ p q=>RelV p.1 q.1/\RelV p.2 q.2
def QG (X:Cx) (pos:Pos) (keys:List (Option Expr)) (values:List Expr) (trs:List (TE×TE)):Prop:=
 ∀ (pins:List (Addr×Obj)) (s:Shared) (σ:St) (H:Hp) (Q:List (V×V)->Hp->Prop),Inv X pins σ H s->vR trs σ H Q->
  wpAny (model X.prog X.w) X.A (evalPairs (pairTrees keys values X.env pos)) (λ vs s'=> ∃ps H',Inv X pins σ H' s'/\VV ps vs/\Q ps H') X.xe s
theorem yw {X:Cx} {pos:Pos}:QG X pos [] [] []:=λ pins s σ H Q I h=>pairTrees_nil_walk ⟨[],H,I, .nil,h⟩
theorem uw {X:Cx} {pos:Pos} {k v:Expr} {ks:List (Option Expr)} {vs:List Expr} {tk tv:TE} {trs:List (TE×TE)} (hk:PE X k tk) (hv:PE X v tv) (hr:QG X pos ks vs trs):
  QG X pos (some k::ks) (v::vs) ((tk,tv)::trs):=λ pins s σ H Q I h=>
 pairTrees_cons_walk (bL (hk pins s σ H _ I h) λ u s1 ⟨x,H1,I1,rx,q1⟩=>bL (hv pins s1 σ H1 _ I1 q1) λ w2 s2 ⟨y,H2,I2,ry,q2⟩=>
  bL (hr pins s2 σ H2 _ I2 q2) λ ws s3 ⟨ps,H3,I3,rel,q3⟩=>⟨(x,y)::ps,H3,I3, .cons ⟨rx,ry⟩ rel,q3⟩)
def kW (kvs more:List (Key×V)):List (Key×V):=more.foldl (λ acc kv=>putK acc kv.1 kv.2) kvs
theorem KV.merge: ∀ {more:List (Key×V)} {rs:List (Key×Value)} {kvs:List (Key×V)} {vs:List (Key×Value)},KV more rs->KV kvs vs->KV (kW kvs more) (merged vs rs):=by
 intro more rs kvs vs r;unfold KV at r;induction r generalizing kvs vs with
 | nil=>intro q;exact q
 | @cons p q ps qs h t ih=>
  intro r0;have e:KV (putK kvs p.1 p.2) (stored vs q.1 q.2):=by
   have:=r0.put p.1 h.2;rw [<- h.1];exact this
  exact ih e
theorem jf: ∀ (more kvs:List (Key×V)),(kW kvs more).length<=kvs.length+more.length
 | [],kvs=>by show kvs.length<=kvs.length+0;rfl'
 | p::r,kvs=>by
  have h1:=jf r (putK kvs p.1 p.2);have h2:=iQ kvs p.1 p.2;show (kW (putK kvs p.1 p.2) r).length<=_;rw [Xx];rfl'
theorem oF {P:Program} {w:World}: ∀ {kvs:List (Key×V)} {ws:List (Value×Value)},VV (kvs.map λ kv=>(kV kv.1,kv.2)) ws-> ∃rs,Carries (bI P w) ws rs/\KV kvs rs
 | [],_,r=>by rw [List.map_nil] at r;cases r;exact ⟨[],True.intro, .nil⟩
 | p::kvs,_,r=>by
  rw [Zz] at r
  cases r with
  | @cons a b as bs h t=>
   obtain ⟨rs,c,q⟩:=oF (P:=P) (w:=w) t;obtain ⟨b1,b2⟩:=b;exact ⟨(p.1,b2)::rs,⟨qj h.1,rfl,c⟩, .cons ⟨rfl,h.2⟩ q⟩
def Cg (trs:List (TE×TE)):TE:=λ σ H Q=> ∀p,H p=none->vR trs σ (upd H p (.dK [])) λ ps H2=>H2 p=some (.dK [])/\ ∃kvs:List (Key×V),ps=kvs.map (λ kv=>(kV kv.1,kv.2))/\kvs.length<=15/\Q (.ref p) (upd H2 p (.dK (kW [] kvs)))
theorem GC {X:Cx} {pos:Pos} {keys:List (Option Expr)} {values:List Expr} {trs:List (TE×TE)} (h:QG X pos keys values trs) (hall:keys.all (·.isSome)=true) (hl:keys.length=values.length) (h0:keys≠[])
  (h15:keys.length<=15):PE X (.Dict keys values pos) (Cg trs):=by
 intro pins s σ H Q I q;have hn:=I.hok.fresh (Zn s.heap.objs.size);have I1:=I.laid (a:=s.heap.objs.size) (o:= .dK []) (h':=s.heap.push { cls:= .type "dict",data:= .dict #[] }) (t':=s.toks) (λ _ _ q=>Zd _ q) (Zn _) (ut s.heap I.big);refine wpAny_Dict_walk (knd:=bI X.prog X.w) hall hl h0 h15 (bL (h pins _ σ _ _ I1 (q _ hn)) λ ws s2 ⟨ps,H2,I2,rel,e,kvs,ep,lk,q2⟩=> ?_);subst ep;obtain ⟨rs,c,rk⟩:=oF (P:=X.prog) (w:=X.w) rel;obtain ⟨z,hd,vs0,r0,dd⟩:=Ip I2.hok e
 cases r0;refine ⟨rs,c,dd,λ h' dd' hs=>⟨.ref s.heap.objs.size,_,?_,rfl,q2⟩⟩;have hz:(kW [] kvs).length<=sizeLine:=by
  have h1:=jf kvs [];rw [Wc] at h1;rw [Xp];rfl'
 have he: ∃q,h'.get? s.heap.objs.size=some q:=let ⟨q,_,_,hq,_⟩:=dd';⟨q,hq⟩;exact nA I2 (by rw [e];exact True.intro) hs he (Ca hz hd (rk.merge .nil) dd')
structure M1 (X:Cx) (o:Expr) (m:Str) (apos:Pos) (e:Expr) (cpos:Pos):Prop where
 base:attributeBase o m X.env (eval o X.env)=eval o X.env
 few:((backTo cpos (starEach [e] X.env)).all (λ x=> !x.1)&&(backToKw cpos (keywordEach [] X.env)).all (λ x=>x.1.isSome)
  &&decide (([e]:List Expr).length+([]:List Keyword).length+(if ([]:List Keyword).isEmpty then 0 else 1)<30))=true
 line:(apos.endLine==cpos.line)=true
 trees:backTo cpos (starEach [e] X.env)=[(false,eval e X.env)]
structure M2 (X:Cx) (o:Expr) (m:Str) (apos:Pos) (e f:Expr) (cpos:Pos):Prop where
 base:attributeBase o m X.env (eval o X.env)=eval o X.env
 few:((backTo cpos (starEach [e,f] X.env)).all (λ x=> !x.1)&&(backToKw cpos (keywordEach [] X.env)).all (λ x=>x.1.isSome)
  &&decide (([e,f]:List Expr).length+([]:List Keyword).length+(if ([]:List Keyword).isEmpty then 0 else 1)<30))=true
 line:(apos.endLine==cpos.line)=true
 trees:backTo cpos (starEach [e,f] X.env)=[(false,eval e X.env),(false,eval f X.env)]
def QX (H:Hp) (a:Addr):Prop:=(∃kvs,Rd H a (.dK kvs))\/ ∃kvs,Rd H a (.dT kvs)
theorem K7 {X:Cx} {pins:List (Addr×Obj)} {σ:St} {H:Hp} {s:Shared} {a:Addr} (I:Inv X pins σ H s) (d:QX H a):
  s.TypeIs (.ref a) "dict"/\(∀b,Value.ref a= .ref b-> ∃ob,s.heap.get? b=some ob/\ob.dict=none)/\(a==sysModules)=false:=by
 rcases d with ⟨kvs,e⟩ | ⟨kvs,e⟩
 ·obtain ⟨_,hd,vs,_,dd⟩:=jd I.hok e;refine ⟨dd.typeIs,λ b q=> ?_,hd⟩
  cases q;obtain ⟨ob,_,_,h1,h2,_⟩:=dd;exact ⟨ob,h1,h2.2.1⟩
 ·obtain ⟨_,hd,xs,_,dd⟩:=qm I.hok e;refine ⟨dd.typeIs,λ b q=> ?_,hd⟩
  cases q;obtain ⟨ob,_,_,h1,h2,_⟩:=dd;exact ⟨ob,h1,h2.2.1⟩
def QZ (td ty:TE):TE:=λ σ H Q=>td σ H λ x H1=> ∃a,x= .ref a/\QX H1 a/\ty σ H1 λ y H2=> ∃o,DGet H2 a y o/\Q (o.getD .non) H2
def R0 (td ty tx:TE):TE:=λ σ H Q=>td σ H λ x H1=> ∃a,x= .ref a/\QX H1 a/\ty σ H1 λ y H2=>tx σ H2 λ z H3=> ∃o,DGet H3 a y o/\Q (o.getD z) H3
end L2
set_option linter.all false
namespace Bm
def pop:Nat->Nat
 | 0=>0
 | n+1=>(n+1)%2+pop ((n+1) / 2)
decreasing_by rfl'
def bits (k n:Nat):List Nat:=(List.range k).filter λ i=>n.testBit i
end Bm
set_option linter.all false
section
namespace L2
open PySem PySem.Spec PyProof.Rows
abbrev blk (X:Cx) (sc:Scope) (N':List Str) (cl:List (Str×Addr)) (C:Addr) (s:Shared) (H:Hp) (fp:List Addr) (pins:List (Addr×Obj)):Cx where
 prog:=X.prog
 w:=X.w
 K:=X.K
 mg:=X.mg
 base:=X.base
 A:=X.A
 N:=N'
 s₀:=s
 H₀:=H
 env:=compEnvC sc cl C X.env
 outer:=X.stack
 stack:=X.stack
 ex:=fp
 fn:=λ _=>false
 calm:=X.calm
 pn:=X.pn++pins
 xe:=λ _ _=>False
structure CScope (esc sc:Scope):Prop where
 kind:sc.kind= .function
 nocell: ∀y∈sc.names,y.2≠ .cell
 locs: ∀y∈sc.names,y.2= .local->sc.names.lookup y.1=some .local
 frees: ∀y∈sc.names,y.2= .free->esc.names.lookup y.1=some .cell\/esc.names.lookup y.1=some .free
theorem mem_lookup {β:Type} {x:Str} {k:β}: ∀ {l:List (Str×β)},l.lookup x=some k->(x,k)∈l
 | [],h=>by simp at h
 | (n,k')::r,h=>by
  rw [List.lookup_cons] at h
  cases e:x==n with
  | true=>
   rw [e] at h;have e':x=n:=eq_of_beq e;injection h with h
   subst e';subst h;exact Zy
  | false=>
   rw [e] at h;exact Zr _ (mem_lookup h)
theorem rD {env:Env}: ∀ (names:List (Str×NameKind)) (cs:List (Str×Addr)),(∀y∈names,y.2= .free-> ∃c,env.cells.lookup y.1=some c)->(∀x c,cs.lookup x=some c->env.cells.lookup x=some c)->
  ∃cl:List (Str×Addr),(forIn names cs λ (y:Str×NameKind) (r:List (Str×Addr))=>(if (y.2==NameKind.free)=true then (cellOf env y.1 >>= λ c=>pure (ForInStep.yield ((y.1,c)::r))) else pure (ForInStep.yield r):Sem (ForInStep (List (Str×Addr)))))=pure cl/\
   (∀x c,cl.lookup x=some c->env.cells.lookup x=some c)/\ ∀x c,env.cells.lookup x=some c->((x,NameKind.free)∈names\/cs.lookup x=some c)->cl.lookup x=some c
 | [],cs,_,hcs=>⟨cs,rfl,hcs,λ x c _ h=>h.elim (λ z=>nomatch z) id⟩
 | (n, k) :: r, cs, hf, hcs => by
  have hf': ∀y∈r,y.2= .free-> ∃c,env.cells.lookup y.1=some c:=λ y hy=>hf y (Zr _ hy)
  by_cases hk:k= .free
  ·subst hk;obtain ⟨c,hc⟩:=hf (n, .free) Zy rfl;have ec:cellOf env n=pure c:=by
    have hc':env.cells.lookup n=some c:=hc;unfold cellOf;rw [hc']
   have hcs': ∀x c',((n,c)::cs).lookup x=some c'->env.cells.lookup x=some c':=λ x c' h=>by
    rw [List.lookup_cons] at h
    cases e:x==n with
    | true=>
     rw [e] at h;injection h with h
     have e':x=n:=eq_of_beq e;subst e';subst h;exact hc
    | false=>rw [e] at h;exact hcs x c' h
   obtain ⟨cl,e,h1,h2⟩:=rD r ((n,c)::cs) hf' hcs';refine ⟨cl,?_,h1,λ x c' hx hm=>h2 x c' hx ?_⟩
   ·rw [List.forIn_cons];simp only [beq_self_eq_true,if_true];rw [ec];exact e
   ·rw [List.lookup_cons]
    cases ex:x==n with
    | true=>
     right;have e':x=n:=eq_of_beq ex;subst e';exact hc.symm.trans hx
    | false=>
     rcases hm with hm | hm
     ·rcases Zp.mp hm with z | z
      ·have e':x=n:=Yn Prod.fst z;subst e';rw [beq_self_eq_true] at ex
       cases ex
      ·exact .inl z
     ·exact .inr hm
  ·obtain ⟨cl,e,h1,h2⟩:=rD r cs hf' hcs;have hk':(k==NameKind.free)=false:=by
    cases k<;>first | rfl | exact absurd rfl hk
   refine ⟨cl,?_,h1,λ x c' hx hm=>h2 x c' hx ?_⟩
   ·rw [List.forIn_cons];simp only [hk',Ym,if_false];exact e
   ·rcases hm with hm | hm
    ·rcases Zp.mp hm with z | z
     ·exact absurd (Yn Prod.snd z).symm hk
     ·exact .inl z
    ·exact .inr hm
theorem rE {sc:Scope} {env:Env} (hf: ∀y∈sc.names,y.2= .free-> ∃c,env.cells.lookup y.1=some c):
  ∃cl:List (Str×Addr),closureFor sc env=pure cl/\(∀x c,cl.lookup x=some c->env.cells.lookup x=some c)/\ ∀x c,env.cells.lookup x=some c->(x,NameKind.free)∈sc.names->cl.lookup x=some c:=by
 obtain ⟨cl,e,h1,h2⟩:=rD (env:=env) sc.names [] hf (λ x c h=>by simp at h);refine ⟨cl,?_,h1,λ x c hx hm=>h2 x c hx (.inl hm)⟩;have q:closureFor sc env=((forIn sc.names [] λ (y:Str×NameKind) (r:List (Str×Addr))=>(if (y.2==NameKind.free)=true then (cellOf env y.1 >>= λ c=>pure (ForInStep.yield ((y.1,c)::r))) else pure (ForInStep.yield r):Sem (ForInStep (List (Str×Addr))))) >>= λ cs=>pure cs):=by
  first
   | rfl
   | (unfold closureFor;congr 1)
 rw [q,e];rfl
theorem il {env:Env} {x:Str}: ∀ {names:List (Str×NameKind)},
  (names.map λ (n,k)=>if (k==NameKind.free&&env.scope.kind== .function&&env.kindOf n==some .cell) then (n,NameKind.cell) else (n,k)).lookup x=
   (names.lookup x).map λ k=>if (k==NameKind.free&&env.scope.kind== .function&&env.kindOf x==some .cell) then NameKind.cell else k
 | []=>rfl
 | (n, k) :: r => by
  have ih:=il (env:=env) (x:=x) (names:=r);show List.lookup x ((if (k==NameKind.free&&env.scope.kind== .function&&env.kindOf n==some .cell)=true then (n,NameKind.cell) else (n,k))::_)=_;rw [List.lookup_cons (b:=k)]
  cases hx:x==n with
  | true=>
   have e:x=n:=eq_of_beq hx;subst e;by_cases hc:(k==NameKind.free&&env.scope.kind== .function&&env.kindOf x==some .cell)=true
   ·rw [if_pos hc,List.lookup_cons,hx];show some NameKind.cell=some (if (k==NameKind.free&&env.scope.kind== .function&&env.kindOf x==some .cell)=true then NameKind.cell else k);rw [if_pos hc]
   ·rw [if_neg hc,List.lookup_cons,hx];show some k=some (if (k==NameKind.free&&env.scope.kind== .function&&env.kindOf x==some .cell)=true then NameKind.cell else k);rw [if_neg hc]
  | false=>
   by_cases hc:(k==NameKind.free&&env.scope.kind== .function&&env.kindOf n==some .cell)=true
   ·rw [if_pos hc,List.lookup_cons,hx];exact ih
   ·rw [if_neg hc,List.lookup_cons,hx];exact ih
theorem CScope.free_of {esc sc:Scope} {env:Env} (S:CScope esc sc) {x:Str} (h:(relabel sc env).names.lookup x=some .cell\/(relabel sc env).names.lookup x=some .free):(x,NameKind.free)∈sc.names:=by
 have q:(relabel sc env).names.lookup x=_:=il (env:=env) (x:=x) (names:=sc.names);rw [q] at h
 cases e:sc.names.lookup x with
 | none=>rw [e] at h;simp at h
 | some k=>
  have hm:=mem_lookup e;have hn:=S.nocell _ hm
  cases k with
  | free=>exact hm
  | cell=>exact absurd rfl hn
  | _=>rw [e] at h;simp at h
theorem CScope.cell_of {esc sc:Scope} {env:Env} (S:CScope esc sc) (he:env.scope=esc) (hk:env.scope.kind= .function) {x:Str} (h:sc.names.lookup x=some .free):(relabel sc env).names.lookup x=some .cell\/(relabel sc env).names.lookup x=some .free:=by
 have q:(relabel sc env).names.lookup x=_:=il (env:=env) (x:=x) (names:=sc.names);rw [q,h];simp only [Option.map_some];split
 ·exact .inl rfl
 ·exact .inr rfl
def cap (κ:List (Option Nat)) (σ:St):St:=κ.map λ o=>o.bind λ i=>(σ[i]?).join
def capOk (κ:List (Option Nat)) (N' N:List Str) (sc:Scope):Bool:=
 decide (κ.length=N'.length)&&(κ.zip N').all λ p=>match p.1 with
  | none=>true
  | some i=>N[i]? ==some p.2&&sc.names.lookup p.2==some .free
theorem capOk.len {κ:List (Option Nat)} {N' N:List Str} {sc:Scope} (h:capOk κ N' N sc=true):κ.length=N'.length:=by
 unfold capOk at h;rw [Xw] at h;exact Ww h.1
theorem capOk.at {κ:List (Option Nat)} {N' N:List Str} {sc:Scope} (h:capOk κ N' N sc=true) {j:Nat} {y:Str} {v:V} {σ:St} (hN:N'[j]? =some y) (hv:(cap κ σ)[j]? =some (some v)):
  ∃i:Nat,N[i]? =some y/\σ[i]? =some (some v)/\sc.names.lookup y=some .free:=by
 unfold capOk at h;rw [Xw,List.all_eq_true] at h;unfold cap at hv;rw [Zg] at hv
 cases e:κ[j]? with
 | none=>rw [e] at hv;simp at hv
 | some o=>
  rw [e] at hv;simp only [Option.map_some,Option.some.injEq] at hv
  cases o with
  | none=>simp at hv
  | some i=>
   have hm:(some i,y)∈κ.zip N':=Zj (i:=j) (by rw [List.getElem?_zip_eq_some];exact ⟨e,hN⟩);have q:=h.2 _ hm;simp only [Xw,beq_iff_eq] at q;refine ⟨i,q.1,?_,q.2⟩;simp only [Option.bind_some] at hv
   cases r:σ[i]? with
   | none=>rw [r] at hv;simp at hv
   | some z=>rw [r] at hv;simp at hv;rw [hv]
def qp (a b:St):Prop:=b.length=a.length/\ ∀ (i:Nat) v,a[i]? =some (some v)->b[i]? =some (some v)
def vU (X:Cx) (ifs:List Expr) (t:TT):Prop:=
 ∀ (pins:List (Addr×Obj)) (s:Shared) (σ:St) (H:Hp) (Q:Bool->Hp->Prop),Inv X pins σ H s->t σ H Q->
  wpAny (model X.prog X.w) X.A (forIn ifs true λ c r=>if r=true then do let ok <- isTrue c X.env (eval c X.env);pure (ForInStep.yield ok) else pure (ForInStep.yield r)) (TP X pins σ Q) X.xe s
def eY:TT:=λ _ H Q=>Q true H
theorem cA {X:Cx}:vU X [] eY:=λ pins s σ H Q I h=>wpAny_tests_nil ⟨H,I,h⟩
theorem GD {X:Cx} {c:Expr} {t:TT} (h:PT X c t):vU X [c] t:=λ pins s σ H Q I q=>wpAny_tests_one (h pins s σ H Q I q)
section
variable {prog:Program} {w:World} {A:Around} {R:Result->Shared->Prop} {s:Shared}
theorem rG {elt target iter:Expr} {ifs:List Expr} {scope:Scope} {pos:Pos} {it acc:Value} {env:Env} (I:Nat->Shared->Prop)
  (turn: ∀n s,I n s->wpAny (model prog w) A (pyNext it) (λ r s₁=>match r with
   | none=>R (.ok .next) s₁
   | some v=>wpAny (model prog w) A (letOwnedTupleGo target it v) (λ _ s₁'=>wpAny (model prog w) A (assign target env v) (λ _ s₂=>
     wpAny (model prog w) A (forIn ifs true λ c r=>if r=true then do let ok <- isTrue c env (eval c env);pure (ForInStep.yield ok) else pure (ForInStep.yield r)) (λ ok s₃=>
      if ok=true then wpAny (model prog w) A (eval elt env) (λ x s₄=>
       wpAny (model prog w) A (call (.builtin "list.append") [acc,x]) (λ _ s₅=> ∃m,m<n/\I m s₅) (λ _ _=>False) s₄) (λ _ _=>False) s₃
      else ∃m,m<n/\I m s₃) (λ _ _=>False) s₂) (λ _ _=>False) s₁') (λ _ _=>False) s₁) (λ _ _=>False) s)
  (n:Nat) (h:I n s):
  codeAny (model prog w) A (.compLoop (.ListComp elt [⟨target,iter,ifs,0⟩] scope pos) 0 it acc env) R s:=by
 refine codeAny_loop rfl I (λ n s hI=> ?_) n h;show wpAny _ A ((compTurn (.ListComp elt [⟨target,iter,ifs,0⟩] scope pos) 0 it acc env).onRaise (λ x=>do noteFrame x env;theTreesLotGoes x)) _ _ s;refine wpAny_noted ?_;rw [compTurn_list];refine Xe (E:=λ _ _=>False) ?_ (λ _ _ q=>q) (λ _ _ z=>z.elim);refine Za (wpAny_standAt (Za (Xe (turn n s hI) (λ r s₁ h₁=> ?_) λ _ _ h'=>h')))
 cases r with
 | none=>exact Zh h₁
 | some v=>
  refine Za (Xe h₁ (λ _ s₁' h₁'=> ?_) λ _ _ h'=>h');refine Za (Xe h₁' (λ _ s₂ h₂=>Za (Xe h₂ (λ ok s₃ h₃=> ?_) λ _ _ h'=>h')) λ _ _ h'=>h')
  cases ok with
  | false=>exact Zh ⟨rfl,h₃⟩
  | true=>
   exact Za (Za (Xe h₃ (λ x s₄ h₄=>Za (Xe h₄ (λ _ s₅ h₅=>Zh (Zh ⟨rfl,h₅⟩)) λ _ _ h'=>h')) λ _ _ h'=>h'))
end
theorem HOk.track {P:Program} {w:World} {H:Hp} {h:Heap} {a:Addr} {o:HO} (x:HOk P w H h) (hn:H a=none) (new:ObjOk P w (upd H a o) h a o):HOk P w (upd H a o) h:=λ b u e=>by
 by_cases hb:b=a
 ·subst hb;rw [au] at e;cases e;exact new
 ·rw [aD hb] at e;exact (x b u e).stay (λ c v _ q=>q) (λ c q=>by rw [aD (aU q hn)];exact q) λ c xs q=>by rw [aD (aU q hn)];exact q
section
variable {X:Cx} {pins:List (Addr×Obj)} {σ:St} {H2:Hp} {s₂:Shared} {tg iter elt:Expr} {ifs:List Expr} {sc:Scope} {pos:Pos} {N':List Str} {κ:List (Option Nat)} {cl:List (Str×Addr)} {it:Addr} {fp:List Addr} {tn:Nat->Heap->Prop} {J:It} {g:TG} {tc:TT} {te:TE}
theorem K8 (I:Inv X pins σ H2 s₂) (f2: ∀b∈fp,kE X pins H2 b) (fl: ∀b∈fp,b<s₂.heap.objs.size) (S:CScope X.env.scope sc)
  (hcl1: ∀x c,cl.lookup x=some c->X.env.cells.lookup x=some c) (hcl2: ∀x c,X.env.cells.lookup x=some c->(x,NameKind.free)∈sc.names->cl.lookup x=some c) {C:Addr} (hC:s₂.heap.objs.size<=C):
  (blk X sc N' cl C s₂ H2 fp pins).Ok where
 mod:=I.mod
 kind:=S.kind
 glob:=I.ok.glob
 blt:=I.ok.blt
 above:=hC
 inj:=λ x y c h1 h2=>I.ok.inj x y c (hcl1 _ _ h1) (hcl1 _ _ h2)
 has:=λ x h=>by
  have hm:=S.free_of (env:=X.env) h;obtain ⟨c,hc⟩:=I.ok.has x (S.frees _ hm rfl);exact ⟨c,hcl2 x c hc hm⟩
 cab:=λ x c h _=>by cases h
 hd:=I.ok.hd
 frames:=I.ok.frames
 stk:= .inl rfl
 exf:=λ b hb=>⟨Nat.ne_of_lt (Zs (fl b hb) hC),λ x c hx=>(f2 b hb).2.2.2.2.1 x c (hcl1 x c hx)⟩
 bs:=I.bs
 bsz:=Zw I.ok.bsz I.sz
 noex:=λ b o hb hm=>by
  obtain ⟨_,_,_,h4,_⟩:=f2 b hm;rcases h4 with h4 | h4
  ·exact I.ok.noex b o hb h4
  ·exact absurd (Zm (I.ok.bs b o hb).1) (Nat.not_lt.mpr h4)
 exfs:=λ b hb hm=>by
  rcases Zp.mp (I.stkSub b hm) with z | z
  ·exact (f2 b hb).2.1 z
  ·exact (f2 b hb).2.2.1 z
 funs:=I.stack
 frf:=I.stkFree
theorem yz (I:Inv X pins σ H2 s₂) (f2: ∀b∈fp,kE X pins H2 b) (fl: ∀b∈fp,b<s₂.heap.objs.size) (S:CScope X.env.scope sc) (hcap:capOk κ N' X.N sc=true)
  (hcl1: ∀x c,cl.lookup x=some c->X.env.cells.lookup x=some c) (hcl2: ∀x c,X.env.cells.lookup x=some c->(x,NameKind.free)∈sc.names->cl.lookup x=some c) {C:Addr} (hC:s₂.heap.objs.size<=C)
  {h':Heap} {m':Str->Option Value} {tk:Nat} (hn:h'.Ns C m') (old: ∀b o,s₂.heap.get? b=some o->h'.get? b=some o):
  Inv (blk X sc N' cl C s₂ H2 fp pins) [] (cap κ σ) H2 { s₂ with heap:=h',toks:=tk } where
 ok:=K8 I f2 fl S hcl1 hcl2 hC
 os:=rfl
 bare:=I.bare
 base:=Un.kept old
 loc:=⟨m',hn,λ j y v hy hv hvis=>by
  obtain ⟨i,hi,hs,hf⟩:=capOk.at hcap hy hv;have hm:=mem_lookup hf;have hfr:=S.frees _ hm rfl;obtain ⟨m,_,hl⟩:=I.loc;obtain ⟨u,ru,lk⟩:=hl i y v hi hs (.inr hfr);refine ⟨u,ru, .inr ⟨S.cell_of (env:=X.env) rfl I.ok.kind hf,?_⟩⟩;rcases lk with ⟨hk,_⟩ | ⟨_,c,hc,hu⟩
  ·have hk':X.env.scope.names.lookup y=some .local:=hk;rcases hfr with z | z<;>(have z':X.env.scope.names.lookup y=_:=z;rw [hk'] at z';cases z')
  ·obtain ⟨o,e,r⟩:=hu;exact ⟨c,hcl2 y c hc hm,o,old _ _ e,r⟩⟩
 cell:=λ x c hx=>by
  obtain ⟨v,o,e,r⟩:=I.cell x c (hcl1 x c hx);exact ⟨v,o,old _ _ e,r⟩
 free:=I.hok.fresh hC
 freeC:=λ x c hx=>I.freeC x c (hcl1 x c hx)
 pin:=λ p hp=>by
  have hp':p∈X.pn++pins:=by simpa using hp
  obtain ⟨h1,h2,h3,h4,h5⟩:=I.pin p hp';refine ⟨old _ _ h1,h2,Yc (Zs (Zm h1) hC),λ z=> ?_,h5⟩;rcases Zp.mp (I.stkSub p.1 z) with y | y
  ·exact h3 y
  ·exact h4 y
 hok:=I.hok.kept old
 len:=by
  show (cap κ σ).length=N'.length;unfold cap;rw [Qr];exact capOk.len hcap
structure Left (X:Cx) (pins:List (Addr×Obj)) (σ:St) (C:Addr) (H:Hp) (s:Shared):Prop where
 inv:Inv X pins σ H s
 ns: ∃m,s.heap.Ns C m
 un:H C=none
 nl:C≠X.env.locals
 nf:C∉X.fs
 ab:X.s₀.heap.objs.size<=C
 nc: ∀x c,X.env.cells.lookup x=some c->c≠C
 np: ∀p∈X.pn++pins,p.1≠C
theorem Left.go {C:Addr} {H:Hp} {s:Shared} (l:Left X pins σ C H s) {h':Heap} (hs:Heap.SameBut C s.heap h'):Inv X pins σ H { s with heap:=h' }:=
 l.inv.turned (t':=s.toks) (λ b o hb e=>hs.extBut b o hb e) l.un l.nl (.inr l.ab) l.nc l.np
theorem yC (hc:X.calm=true) (I:Inv X pins σ H2 s₂) (T:Turn X.prog X.w X.K tg J fp it tn) (st:tn 0 s₂.heap) (f2: ∀b∈fp,kE X pins H2 b)
  (S:CScope X.env.scope sc) (hcap:capOk κ N' X.N sc=true) (hcl1: ∀x c,cl.lookup x=some c->X.env.cells.lookup x=some c) (hcl2: ∀x c,X.env.cells.lookup x=some c->(x,NameKind.free)∈sc.names->cl.lookup x=some c)
  (hg: ∀C,PG (blk X sc N' cl C s₂ H2 fp pins) tg g) (hi: ∀C,vU (blk X sc N' cl C s₂ H2 fp pins) ifs tc) (he: ∀C,PE (blk X sc N' cl C s₂ H2 fp pins) elt te)
  {W:Nat->Nat->List V->Hp->Prop} {Q:VK} {m0:Nat} (w0:W 0 m0 [] H2)
  (turn: ∀i m ys H,W i m ys H->(J.stop i H/\ ∀p,H p=none->Q (.ref p) (upd H p (.lst ys)))\/
   (J.go i H/\ys.length<sizeLine/\ ∃N:List V->Hp->Prop,(∀ys' H',N ys' H'-> ∃m',m'<m/\W (i+1) m' ys' H')/\ ∀x H',J.yld i H x H'->g x (cap κ σ) H' λ σ2 H2=>qp (cap κ σ) σ2/\tc σ2 H2 λ b H3=>if b=true then te σ2 H3 λ y H4=>N (ys++[y]) H4 else N ys H3))
  {E:Value->Shared->Prop} {RR:Value->Addr->Result->Shared->Prop} (hRR: ∀D C H' s1,Left X pins σ C H' s1->Q (.ref D) H'->RR (.ref D) C (.ok .next) s1):
  wpAny (model X.prog X.w) X.A (newList []) (λ acc s₃=>wpAny (model X.prog X.w) X.A (newFunctionEnv sc X.env.globals cl [] X.env.qual none .none (some X.env)) (λ cenv s₄=>
   codeAny (model X.prog X.w) X.A (.compStart (.ListComp elt [⟨tg,iter,ifs,0⟩] sc pos) 0 (.ref it) acc { cenv with scope:=relabel sc X.env }) (RR acc cenv.locals) s₄) E s₃) E s₂:=by
 refine Xi (wpAny_newFunctionEnv S.nocell (by intro y hy;simp at hy) (λ h₁ hns₁ hsb₁=> ?_) S.kind);dsimp only at hns₁ hsb₁ ⊢;generalize hH2:s₂.heap.push { cls:= .type "list",dict:=none,data:= .seq ([]:List Value).toArray }=P2 at hns₁ hsb₁ ⊢;have hCs:P2.objs.size=s₂.heap.objs.size+1:=by rw [<- hH2,Heap.size_push]
 generalize hCe:P2.objs.size=C at hns₁ hsb₁ hCs ⊢;generalize hDe:s₂.heap.objs.size=D at hCs ⊢;have hDC:D≠C:=by rw [hCs];exact Yc (Nat.lt_succ_self _)
 have hC:s₂.heap.objs.size<=C:=by rw [hDe,hCs];exact Nat.le_succ _
 have hD:s₂.heap.objs.size<=D:=by rw [hDe];exact Zn _
 have below: ∀b,b<s₂.heap.objs.size->b≠C/\b≠D:=λ b hb=>⟨Nat.ne_of_lt (Zs hb hC),Yc (Zs hb hD)⟩
 have old: ∀b o,s₂.heap.get? b=some o->h₁.get? b=some o:=λ b o e=>hsb₁.extBut b o (below b (Zm e)).1 (Zd _ (hH2▸Zd _ e))
 have hacc:h₁.get? D=some { cls:= .type "list",data:= .seq ([]:List Value).toArray ([]:List Value).length }:=by
  have q:P2.get? s₂.heap.objs.size=some { cls:= .type "list",data:= .seq ([]:List Value).toArray 0 }:=hH2▸Zo _ rfl;rw [hDe] at q;exact hsb₁.extBut _ _ hDC (Zd _ q)
 have fl: ∀b∈fp,b<s₂.heap.objs.size:=λ b hb=>by
  obtain ⟨o,e,_⟩:=T.obj 0 _ st b hb;exact Zm e
 have st₁:tn 0 h₁:=T.keep 0 _ _ st λ b _ o e=>old b o e
 have IB: ∀tk,Inv (blk X sc N' cl C s₂ H2 fp pins) [] (cap κ σ) H2 { s₂ with heap:=h₁,toks:=tk }:=λ tk=>yz I f2 fl S hcap hcl1 hcl2 hC hns₁ old
 have cells: ∀x c,cl.lookup x=some c->c<s₂.heap.objs.size:=λ x c hx=>by
  obtain ⟨v,o,e,_⟩:=I.cell x c (hcl1 x c hx);exact Zm e
 have pnlt: ∀p∈X.pn++pins,p.1<s₂.heap.objs.size:=λ p hp=>Zm (I.pin p hp).1
 have stat: ∀ {H':Hp} {pl:List (Addr×Obj)},(∀b∈fp,H' b=none)->(∀p∈pl,p.1=D)-> ∀b∈fp,kE (blk X sc N' cl C s₂ H2 fp pins) pl H' b:=λ {H' pl} hn hpl b hb=>by
  refine ⟨hn b hb,(below b (fl b hb)).1,λ z=> ?_, .inl hb,λ x c hx=>(f2 b hb).2.2.2.2.1 x c (hcl1 x c hx),λ p hp=> ?_⟩
  ·rcases Zp.mp (I.stkSub b z) with z | z
   ·exact (f2 b hb).2.1 z
   ·exact (f2 b hb).2.2.1 z
  ·rcases Zv.mp hp with z | z
   ·exact (f2 b hb).2.2.2.2.2 p z
   ·rw [hpl p z];exact Ne.symm (below b (fl b hb)).2
 have pinD: ∀ {s':Shared} {σ':St} {H':Hp} {o:Obj},Inv (blk X sc N' cl C s₂ H2 fp pins) [] σ' H' s'->s'.heap.get? D=some o->H' D=none->(∀v,o.data≠ .cell v)->Inv (blk X sc N' cl C s₂ H2 fp pins) [(D,o)] σ' H' s':=λ {s' σ' H' o} I' e n d=>
  I'.pins_of λ p hp=>by
   rw [Ze.mp hp];refine ⟨e,n,hDC,λ z=> ?_,d⟩;have z':D<s₂.heap.objs.size:=by
    rcases Zp.mp (I.stkSub D z) with y | y
    ·have y':D=X.env.locals:=y;rw [y'];exact I.lt
    ·exact absurd y (I.nofs hD)
   exact absurd z' (Nat.not_lt.mpr hD)
 have loop : ∀ s₃ : Shared, s₃ = { s₂ with heap := h₁, toks := s₂.toks + ([] : List (Str × Value)).length } ->
   codeAny (model X.prog X.w) X.A (.compLoop (.ListComp elt [⟨tg,iter,ifs,0⟩] sc pos) 0 (.ref it) (.ref D) (compEnvC sc cl C X.env)) (RR (.ref D) C) s₃:=by
  rintro s₃ rfl;refine rG (λ n s'=> ∃ (i:Nat) (ys:List V) (its:List Value) (H':Hp),Inv (blk X sc N' cl C s₂ H2 fp pins) [] (cap κ σ) H' s'/\tn i s'.heap/\(∀b∈fp,H' b=none)/\
   s'.heap.get? D=some { cls:= .type "list",data:= .seq its.toArray its.length }/\Vals ys its/\H' D=none/\ys.length<=sizeLine/\W i n ys H') ?_ m0
   ⟨0,[],[],H2,IB _,st₁,λ b hb=>(f2 b hb).1,hacc, .nil,I.hok.fresh hD,Yu _,w0⟩
  rintro n s3 ⟨i,ys,its,H3,I3,st3,fr3,d3,v3,n3,z3,w3⟩;have I3':=pinD I3 d3 n3 (by intro v z;cases z);have ff:=stat (pl:=[(D,({ cls:= .type "list",data:= .seq its.toArray its.length }:Obj))]) fr3 (λ p hp=>by rw [Ze.mp hp]);rcases turn i n ys H3 w3 with ⟨stop,qn⟩ | ⟨go,hlt,N,hN,step⟩
  ·refine bL (T.done (blk X sc N' cl C s₂ H2 fp pins) rfl rfl rfl hc i _ s3 (cap κ σ) H3 _ I3' ff st3 stop) λ r s4 ⟨hr,I4⟩=> ?_
   subst hr;show RR (.ref D) C (.ok .next) s4;obtain ⟨dD,nD,_⟩:=I4.pin (D,_) (Yg _ Zy);have nC:H3 C=none:=I4.free;have u4:=I4.base;have hok:HOk X.prog X.w (upd H3 D (.lst ys)) s4.heap:=HOk.track I4.hok nD ⟨z3,its,its.length,v3,dD⟩;have un:Un (frs X.stack) fp H2 (upd H3 D (.lst ys)) s₂.heap s4.heap:=
    ⟨u4.keep,u4.slot,λ b o q n hx=>by rw [aD (below b (Zm q)).2];exact u4.free b o q n hx,u4.there,
     λ b xs q=>by rw [aD (aU (u4.tups b xs q) nD)];exact u4.tups b xs q,
     λ b o x q=>by rw [aD (aU (u4.frzs b o x q) nD)];exact u4.frzs b o x q,
     λ b ps q=>by
      obtain ⟨m1,e1⟩:=u4.tbls b ps q;exact ⟨m1,by rw [aD (aU e1 nD)];exact e1⟩⟩
   have IX:Inv X pins σ (upd H3 D (.lst ys)) s4:=I.call' (by exact I4.os) un hok I4.bare λ b hb=>⟨(f2 b hb).2.2.2.1,(f2 b hb).2.1,(f2 b hb).2.2.2.2⟩
   obtain ⟨m4,hn4,_⟩:=I4.loc;refine hRR D C _ s4 ⟨IX,⟨m4,hn4⟩,by rw [aD (Ne.symm hDC)];exact nC,Ne.symm (below _ I.lt).1,I.nofs hC,Zw I.sz hC,λ x c hx=> ?_,λ p hp=>(below _ (pnlt p hp)).1⟩ (qn D nD);obtain ⟨v,o,e,_⟩:=I.cell x c hx;exact (below c (Zm e)).1
  ·refine bL (T.item (blk X sc N' cl C s₂ H2 fp pins) rfl rfl rfl hc i _ s3 (cap κ σ) H3 _ I3' ff st3 go) λ r s4 ⟨u,hr,h4⟩=> ?_
   subst hr;refine bL h4 λ _ s5 ⟨x,H5,I5,r5,y5,st5,fr5⟩=> ?_
   have ff5:=stat (pl:=[(D,({ cls:= .type "list",data:= .seq its.toArray its.length }:Obj))]) fr5 (λ p hp=>by rw [Ze.mp hp]);have I5':=I5.pinned ff5 (T.obj _ _ st5);refine bL (hg C _ s5 (cap κ σ) H5 x u _ I5' r5 (step x H5 y5)) λ _ s6 ⟨σ6,H6,I6,ex6,q6⟩=> ?_
   refine bL (hi C _ s6 σ6 H6 _ I6 q6) λ ok s7 ⟨H7,I7,q7⟩=> ?_
   have keep: ∀ {σ8:St} {H8:Hp} {s8:Shared},Inv (blk X sc N' cl C s₂ H2 fp pins) ([(D,({ cls:= .type "list",data:= .seq its.toArray its.length }:Obj))]++kI fp s5.heap) σ8 H8 s8->
     tn (i+1) s8.heap/\(∀b∈fp,H8 b=none)/\s8.heap.get? D=some { cls:= .type "list",data:= .seq its.toArray its.length }/\H8 D=none:=λ {σ8 H8 s8} I8=>by
    refine ⟨T.keep _ _ _ st5 λ b hb o e=>(I8.pin (b,o) (Yg _ (Yg _ (dY hb e)))).1,λ b hb=> ?_,?_⟩
    ·obtain ⟨o,e,d⟩:=T.obj _ _ st5 b hb;exact (I8.pin (b,o) (Yg _ (Yg _ (dY hb e)))).2.1
    ·obtain ⟨e,n,_⟩:=I8.pin (D,_) (Yg _ (Xo _ Zy));exact ⟨e,n⟩
   cases ok with
   | false=>
    have q7':N ys H7:=by simpa using q7
    obtain ⟨m',hm,w7⟩:=hN _ _ q7';obtain ⟨t8,f8,d8,n8⟩:=keep I7;show ∃m,m<n/\_;exact ⟨m',hm,i+1,ys,its,H7,(I7.pins_of (pins':=[]) (λ p hp=>nomatch hp)).weak ex6.1.symm ex6.2,t8,f8,d8,v3,n8,z3,w7⟩
   | true=>
    have q7':te σ6 H7 λ y H4=>N (ys++[y]) H4:=by simpa using q7
    show wpAny _ _ (eval elt (compEnvC sc cl C X.env)) _ _ s7;refine bL (he C _ s7 σ6 H7 _ I7 q7') λ v s8 ⟨y,H8,I8,r8,q8⟩=> ?_
    obtain ⟨m',hm,w8⟩:=hN _ _ q8;obtain ⟨t8,f8,d8,n8⟩:=keep I8;refine append_at (hsz:=by rw [Yf,<- v3.length];exact z3) d8 λ h9 hs9 hd9=> ?_
    have I9:Inv (blk X sc N' cl C s₂ H2 fp pins) [] σ6 H8 { s8 with heap:=h9,toks:=s8.toks }:=by
     refine (I8.pins_of (pins':=[]) (λ p hp=>nomatch hp)).turned (λ b o hb e=>hs9.extBut b o hb e) n8 hDC (.inr hD) (λ x c hx=>(below c (cells x c hx)).2) λ p hp=> ?_
     have hp':p∈X.pn++pins:=by simpa using hp
     exact (below _ (pnlt p hp')).2
    refine ⟨m',hm,i+1,ys++[y],its++[v],H8,I9.weak ex6.1.symm ex6.2,T.keep _ _ _ t8 λ b hb o e=>hs9.extBut b o (below b (fl b hb)).2 e,f8,?_,Vals.append v3 (.cons r8 .nil),n8,?_,w8⟩
    ·show h9.get? D=_;rw [hd9];simp
    ·rw [Yl,Wy];exact hlt
 exact codeAny_compStart_list (loop _ rfl) (T.self X.A 0 _ _ _ st₁ (loop _ rfl))
def qt (κ:List (Option Nat)) (wi:TI) (g:TG) (tc:TT) (te:TE):TE:=λ σ H Q=>wi σ H λ J H1=> ∃W:Nat->Nat->List V->Hp->Prop,(∃m,W 0 m [] H1)/\ ∀i m ys H,W i m ys H->
 (J.stop i H/\ ∀p,H p=none->Q (.ref p) (upd H p (.lst ys)))\/
 (J.go i H/\ys.length<sizeLine/\ ∃N:List V->Hp->Prop,(∀ys' H',N ys' H'-> ∃m',m'<m/\W (i+1) m' ys' H')/\ ∀x H',J.yld i H x H'->g x (cap κ σ) H' λ σ2 H2=>qp (cap κ σ) σ2/\tc σ2 H2 λ b H3=>if b=true then te σ2 H3 λ y H4=>N (ys++[y]) H4 else N ys H3)
theorem jK {wi:TI} (κ:List (Option Nat)) (N':List Str) (hc:X.calm=true) (hit:PI X tg iter wi) (S:CScope X.env.scope sc) (hcap:capOk κ N' X.N sc=true)
  (hg: ∀cl C s H fp pins,PG (blk X sc N' cl C s H fp pins) tg g) (hi: ∀cl C s H fp pins,vU (blk X sc N' cl C s H fp pins) ifs tc) (he: ∀cl C s H fp pins,PE (blk X sc N' cl C s H fp pins) elt te)
  (hs: ∀x,foldedSetIterable iter X.env x=pure x:=by intro _;rfl):PE X (.ListComp elt [⟨tg,iter,ifs,0⟩] sc pos) (qt κ wi g tc te):=by
 intro pins s σ H Q I h;obtain ⟨cl,hclos,hcl1,hcl2⟩:=rE (sc:=sc) (env:=X.env) λ y hy hf=>I.ok.has y.1 (S.frees y hy hf)
 rw [eval_ListComp];refine wpAny_comprehension_free (use:=none) rfl hs hclos S.kind S.locs (bL (hit pins s σ H _ I h) λ v s1 h1=>bL h1 λ itv s2 h2=> ?_);obtain ⟨it,fp,tn,J,H2,e,I2,T,st2,f2,W,⟨m0,w0⟩,turn⟩:=h2;subst e;refine yC hc I2 T st2 f2 S hcap hcl1 hcl2 (λ C=>hg cl C s2 H2 fp pins) (λ C=>hi cl C s2 H2 fp pins) (λ C=>he cl C s2 H2 fp pins) w0 turn λ D C H' s1 l q=> ?_
 obtain ⟨m,hn⟩:=l.ns;exact ⟨m,hn,λ h' hs'=>⟨V.ref D,H',l.go hs',rfl,q⟩⟩
theorem qu {wi:TI} {i:Nat} {x:Str} {px spos:Pos} (κ:List (Option Nat)) (N':List Str) (hc:X.calm=true) (hN:X.N.Nodup) (hix:X.N[i]? =some x) (hlx:X.env.scope.names.lookup x=some .local)
  (hit:PI X tg iter wi) (S:CScope X.env.scope sc) (hcap:capOk κ N' X.N sc=true)
  (hg: ∀cl C s H fp pins,PG (blk X sc N' cl C s H fp pins) tg g) (hi: ∀cl C s H fp pins,vU (blk X sc N' cl C s H fp pins) ifs tc) (he: ∀cl C s H fp pins,PE (blk X sc N' cl C s H fp pins) elt te)
  (hsw:swapsWith (.ListComp elt [⟨tg,iter,ifs,0⟩] sc pos) (some (.Name x px)) spos.line X.env=pure true:=by rfl)
  (hs: ∀x,foldedSetIterable iter X.env x=pure x:=by intro _;rfl):PS X (.Assign [.Name x px] (.ListComp elt [⟨tg,iter,ifs,0⟩] sc pos) spos) (b7 (qt κ wi g tc te) (aB i)):=by
 intro pins s σ H D I h;obtain ⟨cl,hclos,hcl1,hcl2⟩:=rE (sc:=sc) (env:=X.env) λ y hy hf=>I.ok.has y.1 (S.frees y hy hf)
 rw [exec_Assign_Name_used _ _ _ _ hsw];refine Za (wpAny_standAt (Za ?_));show wpAny _ X.A (do let _ <- comprehension (.ListComp elt [⟨tg,iter,ifs,0⟩] sc pos) sc X.env _ (newList []) false (eval iter X.env) (some (assign (.Name x px) X.env))) _ _ s;refine Za (Xe (wpAny_comprehension_free (use:=some (assign (.Name x px) X.env)) (Q:=λ _ s'=>SP X pins D .next s') rfl hs hclos S.kind S.locs
  (bL (hit pins s σ H _ I h) λ v s1 h1=>bL h1 λ itv s2 h2=> ?_)) (λ _ s' hq=>Zh (Zh hq)) λ _ _ e=>e)
 obtain ⟨it,fp,tn,J,H2,e,I2,T,st2,f2,W,⟨m0,w0⟩,turn⟩:=h2;subst e;refine yC (Q:=λ y H1=>aB i y σ H1 D.nx) hc I2 T st2 f2 S hcap hcl1 hcl2 (λ C=>hg cl C s2 H2 fp pins) (λ C=>hi cl C s2 H2 fp pins) (λ C=>he cl C s2 H2 fp pins) w0 turn λ Dl C H' s1 l q=> ?_
 show wpAny _ X.A (assign (.Name x px) X.env (.ref Dl)) _ _ _;refine wpAny_assign_Name (pU l.inv hN hix (.inl hlx) (v:= .ref Dl) rfl (λ s3 I3 ⟨a,hsa,ha⟩=> ?_) (.inr hlx));obtain ⟨m,hn⟩:=l.ns;have hCa:C≠a:=by
  rcases ha with z | z
  ·rw [z];exact l.nl
  ·exact Ne.symm (l.nc x a z)
 refine ⟨m,hn.sameBut hsa hCa,λ h' hs'=> ?_⟩;have I4:Inv X pins (σ.set i (some (.ref Dl))) H' { s3 with heap:=h' }:=I3.turned (t':=s3.toks) (λ b o hb e=>hs'.extBut b o hb e) l.un l.nl (.inr l.ab) l.nc l.np;exact ⟨_,_,I4,q⟩
end
section
variable {κ:List (Option Nat)} {g:TG} {tc:TT} {te:TE} {σ:St} {H:Hp} {Q:VK}
theorem Ci {lo:Int} {n:Nat} (Pv:Nat->List V->Hp->Prop) (h0:Pv 0 [] H) (hn:n<=sizeLine) (hz: ∀i ys H,Pv i ys H->ys.length<=i)
  (hs: ∀i ys H,i<n->Pv i ys H->g (.int (lo+i)) (cap κ σ) H λ σ2 H2=>qp (cap κ σ) σ2/\tc σ2 H2 λ b H3=>if b=true then te σ2 H3 λ y H4=>Pv (i+1) (ys++[y]) H4 else Pv (i+1) ys H3)
  (hd: ∀ys H,Pv n ys H-> ∀p,H p=none->Q (.ref p) (upd H p (.lst ys))):
  ∃W:Nat->Nat->List V->Hp->Prop,(∃m,W 0 m [] H)/\ ∀i m ys H,W i m ys H->
   ((vD lo n).stop i H/\ ∀p,H p=none->Q (.ref p) (upd H p (.lst ys)))\/
   ((vD lo n).go i H/\ys.length<sizeLine/\ ∃N:List V->Hp->Prop,(∀ys' H',N ys' H'-> ∃m',m'<m/\W (i+1) m' ys' H')/\ ∀x H',(vD lo n).yld i H x H'->g x (cap κ σ) H' λ σ2 H2=>qp (cap κ σ) σ2/\tc σ2 H2 λ b H3=>if b=true then te σ2 H3 λ y H4=>N (ys++[y]) H4 else N ys H3):=by
 refine ⟨λ i m ys H=>m=n-i/\i<=n/\Pv i ys H,⟨n,by simp,Yu _,h0⟩,?_⟩;rintro i m ys H ⟨rfl,hi,p⟩;by_cases hlt:i<n
 ·refine .inr ⟨hlt,Zs (Xa (hz _ _ _ p) hlt) hn,Pv (i+1),λ ys' H' p'=>⟨n-(i+1),by rfl',rfl,hlt,p'⟩,λ x H' y=> ?_⟩;obtain ⟨e,y⟩:=y;subst e y;exact hs i ys _ hlt p
 ·have e:i=n:=by rfl'
  subst e;exact .inl ⟨Nat.le_refl _,hd ys H p⟩
theorem GF {K:W.Frag} {a:Addr} {xs:List V} (Pv:Nat->List V->Hp->Prop) (h0:Pv 0 [] H) (hn:xs.length<=sizeLine) (hl: ∀i ys H,i<=xs.length->Pv i ys H->SqL K H a xs) (hz: ∀i ys H,Pv i ys H->ys.length<=i)
  (hs: ∀i x ys H,xs[i]? =some x->Pv i ys H->g x (cap κ σ) H λ σ2 H2=>qp (cap κ σ) σ2/\tc σ2 H2 λ b H3=>if b=true then te σ2 H3 λ y H4=>Pv (i+1) (ys++[y]) H4 else Pv (i+1) ys H3)
  (hd: ∀ys H,Pv xs.length ys H-> ∀p,H p=none->Q (.ref p) (upd H p (.lst ys))):
  ∃W:Nat->Nat->List V->Hp->Prop,(∃m,W 0 m [] H)/\ ∀i m ys H,W i m ys H->
   ((Gg K a).stop i H/\ ∀p,H p=none->Q (.ref p) (upd H p (.lst ys)))\/
   ((Gg K a).go i H/\ys.length<sizeLine/\ ∃N:List V->Hp->Prop,(∀ys' H',N ys' H'-> ∃m',m'<m/\W (i+1) m' ys' H')/\ ∀x H',(Gg K a).yld i H x H'->g x (cap κ σ) H' λ σ2 H2=>qp (cap κ σ) σ2/\tc σ2 H2 λ b H3=>if b=true then te σ2 H3 λ y H4=>N (ys++[y]) H4 else N ys H3):=by
 refine ⟨λ i m ys H=>m=xs.length-i/\i<=xs.length/\Pv i ys H,⟨xs.length,by simp,Yu _,h0⟩,?_⟩;rintro i m ys H ⟨rfl,hi,p⟩;have q:=hl i ys H hi p;by_cases hlt:i<xs.length
 ·refine .inr ⟨⟨xs,xs[i],q,by simp [hlt]⟩,Zs (Xa (hz _ _ _ p) hlt) hn,Pv (i+1),λ ys' H' p'=>⟨xs.length-(i+1),by rfl',rfl,hlt,p'⟩,λ x H' y=> ?_⟩;obtain ⟨e,y⟩:=y;subst e;exact hs i x ys _ (y xs q) p
 ·have e:i=xs.length:=by rfl'
  subst e;exact .inl ⟨⟨xs,q,Zn _⟩,hd ys H p⟩
end
end L2
end
section
namespace L2
open PySem PySem.Spec PyProof.Rows
mutual
inductive Dp (K:W.Frag) (H:Hp):V->PyData->Prop where
 | non:Dp K H .non .none
 | bl (b:Bool):Dp K H (.bl b) (.bool b)
 | int (i:Int):Dp K H (.int i) (.int i)
 | str (x:Str):Dp K H (.str x) (.str x)
 | lst {a:Addr} {xs:List V} {ds:List PyData}:SqL K H a xs->DpAll K H xs ds->Dp K H (.ref a) (.list ds)
 | tup {a:Addr} {xs:List V} {ds:List PyData}:SqT K H a xs->DpAll K H xs ds->Dp K H (.ref a) (.tuple ds)
inductive DpAll (K:W.Frag) (H:Hp):List V->List PyData->Prop where
 | nil:DpAll K H [] []
 | cons {x:V} {xs:List V} {d:PyData} {ds:List PyData}:Dp K H x d->DpAll K H xs ds->DpAll K H (x::xs) (d::ds)
end
theorem DpAll.ints {K:W.Frag} {H:Hp}: ∀ns:List Int,DpAll K H (ns.map V.int) (ns.map PyData.int)
 | []=> .nil
 | n::r=> .cons (.int n) (DpAll.ints r)
theorem Dp.ints {K:W.Frag} {H:Hp} {a:Addr} {ns:List Int} (h:SqL K H a (ns.map V.int)):Dp K H (.ref a) (.list (ns.map PyData.int)):= .lst h (DpAll.ints ns)
section
variable {X:Cx} {pins:List (Addr×Obj)} {σ:St} {H:Hp} {s:Shared}
mutual
theorem Dp.reads (I:Inv X pins σ H s): ∀ {x:V} {d:PyData} {u:Value},Dp X.K H x d->RelV x u-> ∃as,Reads s.heap u d as
 | _,_,_, .non,r=>by cases (show _=Value.none from r);exact ⟨_, .none⟩
 | _,_,_, .bl b,r=>by cases (show _=Value.bool b from r);exact ⟨_, .bool b⟩
 | _,_,_, .int i,r=>by obtain ⟨t,rfl⟩:=r;exact ⟨_, .int i t⟩
 | _,_,_, .str x,r=>by obtain ⟨t,rfl⟩:=r;exact ⟨_, .str x t⟩
 | _,_,_, .lst (a:=a) h hs,r=>by
  cases (show _=Value.ref a from r);obtain ⟨its,rv,p,_⟩:=I.list h;obtain ⟨as,q⟩:=DpAll.reads I hs rv;obtain ⟨o,n,e,hc,_,hd⟩:=p;exact ⟨_, .list e hc hd (by simpa using q)⟩
 | _,_,_, .tup (a:=a) h hs,r=>by
  cases (show _=Value.ref a from r);obtain ⟨its,rv,p,_⟩:=I.tuple h;obtain ⟨as,q⟩:=DpAll.reads I hs rv;obtain ⟨o,e,hc,n,hd⟩:=p;exact ⟨_, .tuple e hc hd (by simpa using q)⟩
theorem DpAll.reads (I:Inv X pins σ H s): ∀ {xs:List V} {ds:List PyData} {us:List Value},DpAll X.K H xs ds->Vals xs us-> ∃as,ReadsAll s.heap us ds as
 | _,_,_, .nil,r=>by cases r;exact ⟨_, .nil⟩
 | _,_,_, .cons h hs,r=>by
  cases r with
  | cons r rr=>
   obtain ⟨as,q⟩:=Dp.reads I h r;obtain ⟨bs,p⟩:=DpAll.reads I hs rr;exact ⟨_, .cons q p⟩
end
def rEqD (K:W.Frag):R2:=λ x y H Q=> ∃d e,Dp K H x d/\Dp K H y e/\SeqAt.shaped d=true/\SeqAt.shaped e=true/\Q (.bl (PyData.eqv d e)) H
def rNeD (K:W.Frag):R2:=λ x y H Q=> ∃d e,Dp K H x d/\Dp K H y e/\SeqAt.shaped d=true/\SeqAt.shaped e=true/\Q (.bl (!PyData.eqv d e)) H
theorem K9 (hu:X.A.units+64<cLine):iH X (compareOp .Eq) (rEqD X.K):=by
 intro pins s σ H x y v u Q I rx ry h;obtain ⟨d,e,h1,h2,h3,h4,q⟩:=h;obtain ⟨as,r1⟩:=h1.reads I rx;obtain ⟨bs,r2⟩:=h2.reads I ry;exact eq_dataH r1 r2 h3 h4 hu ⟨.bl _,H,I,rfl,q⟩
theorem Ka (hu:X.A.units+64<cLine):iH X (compareOp .NotEq) (rNeD X.K):=by
 intro pins s σ H x y v u Q I rx ry h;obtain ⟨d,e,h1,h2,h3,h4,q⟩:=h;obtain ⟨as,r1⟩:=h1.reads I rx;obtain ⟨bs,r2⟩:=h2.reads I ry;exact ne_dataH r1 r2 h3 h4 hu ⟨.bl _,H,I,rfl,q⟩
end
section
variable {X:Cx}
theorem ux:cX X (.builtin "isinstance") (λ xs H Q=> ∃T x t b,xs=[x, .ty T]/\TyOf X.K H x t/\PySem.W.kitOne X.K t (.type T)=some b/\Q (.bl b) H):=by
 intro pins s σ H xs us Q I rv h;obtain ⟨T,x,t,b,rfl,ty,e,q⟩:=h;obtain ⟨u,u',rfl,ru,ru'⟩:=rv.two
 cases (show u'=Value.type T from ru');exact zO I ru ty e λ tk=>⟨.bl b,H,I.tok tk,rfl,q⟩
theorem qw:iH X (compareOp .LtE) (λ x y H Q=> ∃i j,x= .str i/\y= .str j/\Q (.bl (!(decide (j.cps.toList<i.cps.toList)))) H):=by
 intro pins s σ H x y v u Q I rx ry h;obtain ⟨i,j,rfl,rfl,q⟩:=h;obtain ⟨t,rfl⟩:=rx;obtain ⟨t',rfl⟩:=ry;exact PySem.P.le_str (bA I q (by simp))
end
section
variable {X:Cx} {tg:Expr}
def R1 (x:Str):It:=⟨λ i _=>i<x.cps.size,λ i H v H'=>H'=H/\ ∃c,x.cps[i]? =some c/\v= .str ⟨#[c]⟩,λ i _=>i=x.cps.size⟩
theorem Cj {P:Program} {w:World} {K:W.Frag} {tg:Expr} (x:Str) (t:Tok) (ty:String) (it:Addr) (hty:["enumerate","zip","dict_itemiterator","dict_reverseitemiterator","odict_iterator","itertools.zip_longest","itertools.pairwise"].contains ty=false)
  (W: ∀A:Around,A.handled=none->Walks P w A it [it] [it] x.cps.size (SignAt x) (λ i h=>h.IsStrIter it ty x t i))
  (S: ∀ (A:Around) (i:Nat) (s:Shared) (Q:Value->Shared->Prop) (E:Value->Shared->Prop),s.heap.IsStrIter it ty x t i->Q (.ref it) s->wpAny (model P w) A (pyIter (.ref it)) Q E s):
  Turn P w K tg (R1 x) [it] it (λ i h=>h.IsStrIter it ty x t i) where
 mem:=by simp
 obj:=λ i h st b hb=>by
  have e:b=it:=by simpa using hb
  subst e;obtain ⟨o,e,c,d⟩:=st;exact ⟨o,e,λ v z=>by rw [d] at z;cases z⟩
 keep:=λ i h h' st k=>by
  obtain ⟨o,e,r⟩:=st;exact ⟨o,k it (by simp) o e,r⟩
 item:=by
  intro X hP hw hK hc i pins s σ H E I hf st hg;subst hP hw hK;obtain ⟨f0,f1,f2,f3,f4,f5⟩:=hf it (by simp);refine (W X.A (I.ok.hd hc)).item i s _ _ hg st λ v h' tk hv st' kk=> ?_
  obtain ⟨c,u,hx,rfl⟩:=hv;have I1:Inv X pins σ H { s with heap:=h',toks:=tk }:=I.turned (λ b o hb e=>kk b o (by simpa using hb) e) f0 f1 f3 f4 f5;obtain ⟨o,e,hcl,d⟩:=id st';exact ⟨_,rfl,ud (s:={ s with heap:=h',toks:=tk }) e hcl d hty ⟨.str ⟨#[c]⟩,H,I1,⟨u,rfl⟩,⟨rfl,c,hx,rfl⟩,st',λ b hb=>(hf b hb).1⟩⟩
 done:=by
  intro X hP hw hK hc i pins s σ H E I hf st hg;subst hP hw hK;obtain ⟨f0,f1,f2,f3,f4,f5⟩:=hf it (by simp);have e:i=x.cps.size:=hg;subst e;exact (W X.A (I.ok.hd hc)).done s _ _ st λ h' tk kk=>⟨rfl,I.turned (λ b o hb e=>kk b o (by simpa using hb) e) f0 f1 f3 f4 f5⟩
 self:=λ A i s Q E st h=>S A i s Q E st h
def Kc (tl:TE):TI:=λ σ H R=>tl σ H λ x H1=> ∃z,x= .str z/\R (R1 z) H1
theorem Kd {l:Expr} {tl:TE} (hl:PE X l tl):PI X tg l (Kc tl):=by
 intro pins s σ H R I h;refine bL (hl pins s σ H _ I h) λ v s1 ⟨x,H1,I1,r1,q1⟩=> ?_
 obtain ⟨z,e,q⟩:=q1;subst e;obtain ⟨t,rfl⟩:=r1;have fin: ∀ (ty:String) (o:Obj),(["enumerate","zip","dict_itemiterator","dict_reverseitemiterator","odict_iterator","itertools.zip_longest","itertools.pairwise"].contains ty=false)->
   (∀A:Around,A.handled=none->Walks X.prog X.w A s1.heap.objs.size [s1.heap.objs.size] [s1.heap.objs.size] z.cps.size (SignAt z) (λ i h=>h.IsStrIter s1.heap.objs.size ty z t i))->
   (∀ (A:Around) (i:Nat) (s:Shared) (Q:Value->Shared->Prop) (E:Value->Shared->Prop),s.heap.IsStrIter s1.heap.objs.size ty z t i->Q (.ref s1.heap.objs.size) s->wpAny (model X.prog X.w) A (pyIter (.ref s1.heap.objs.size)) Q E s)->
   (s1.heap.push o).IsStrIter s1.heap.objs.size ty z t 0->PIE X pins σ tg R (.ref s1.heap.objs.size) { s1 with heap:=s1.heap.push o }:=λ ty o h1 W S st=>by
  refine ⟨s1.heap.objs.size,[s1.heap.objs.size],_,_,H1,rfl,I1.kept (t':=s1.toks) λ b o e=>Zd _ e,Cj z t ty _ h1 W S,st,λ b hb=> ?_,q⟩;have e:b=s1.heap.objs.size:=by simpa using hb
  subst e;exact I1.fpOk (Zn _) (I1.hok.fresh (Zn _))
 cases ha:z.cps.all (· <128)
 ·exact wpAny_pyIter_wide ha (fin "str_iterator" _ (by decide) (λ A hA=>Walks.strWide hA _ z t) (λ A i s Q E st h=>wpAny_pyIter_striter_wide st h) ⟨_,Zo _ rfl,rfl,rfl⟩)
 ·exact wpAny_pyIter_ascii ha (fin "str_ascii_iterator" _ (by decide) (λ A hA=>Walks.strAscii hA _ z t) (λ A i s Q E st h=>wpAny_pyIter_striter_ascii st h) ⟨_,Zo _ rfl,rfl,rfl⟩)
def O6 (lo c:Int) (n:Nat):It:=⟨λ i _=>i<n,λ i H x H'=>H'=H/\x= .int (lo+i*c),λ i _=>n<=i⟩
def RB (ta:TA):TI:=λ σ H R=>ta σ H λ vs H1=> ∃ (i j c:Int) (n:Nat),vs=[.int i, .int j, .int c]/\c≠0/\Builtin.Range.small i j c=true/\Builtin.divisionGoesByPylong (j-i) c=false/\Builtin.Range.rangeSize i j c=(n:Int)/\R (O6 i c n) H1
end
end L2
namespace L2
open PySem PySem.Spec PyProof.Rows
def RC (K:W.Frag) (a b:Addr):It:=
 ⟨λ i H=> ∃xs ys x y,SqL K H a xs/\SqL K H b ys/\xs[i]? =some x/\ys[i]? =some y,
  λ i H v H'=> ∃p x y,H p=none/\v= .ref p/\H'=upd H p (.tup [x,y])/\(∀xs,SqL K H a xs->xs[i]? =some x)/\ ∀ys,SqL K H b ys->ys[i]? =some y,
  λ i H=> ∃xs ys,SqL K H a xs/\SqL K H b ys/\(xs.length<=i\/ys.length<=i)⟩
structure ZipSt (z TI TO i1 i2 a b:Addr) (i:Nat) (h:Heap):Prop where
 hz:IsZip h z TI TO .none
 hTI:IsPair h TI (.ref i1) (.ref i2)
 hTO: ∃u v,IsPair h TO u v
 h1:h.IsListIter i1 a i
 h2:h.IsListIter i2 b i
structure ZipNe (z TI TO i1 i2:Addr):Prop where
 TIz:TI≠z
 TOz:TO≠z
 i1z:i1≠z
 i2z:i2≠z
 TITO:TI≠TO
 TIi1:TI≠i1
 TIi2:TI≠i2
 TOi1:TO≠i1
 TOi2:TO≠i2
 i12:i1≠i2
theorem Inv.turnedAll {X:Cx} {pins:List (Addr×Obj)} {σ:St} {H:Hp} {s:Shared} {h':Heap} {t':Nat} {ch:List Addr} (I:Inv X pins σ H s) (k: ∀b o,b∉ch->s.heap.get? b=some o->h'.get? b=some o)
  (hf: ∀b∈ch,kE X pins H b):Inv X pins σ H { s with heap:=h',toks:=t' }:=by
 have nit: ∀b u,H b=some u->b∉ch:=λ b u e z=>by rw [(hf b z).1] at e;cases e
 refine I.step (g':=s.gens) (d':=s.drawn) (ch:=ch) (λ b hb=> ?_) (λ b o _ _ hc e _=>k b o hc e) (λ b o _ _ hc e _=>⟨o.slots,k b o hc e⟩) (λ _ _ _ _ n=>n)
  (λ b o hc e=>⟨o,k b o hc e⟩) (λ _ _ e=>e) (λ _ _ _ e=>e) (λ b ps e=>⟨#[],by rw [e];simp⟩) (λ m hm=> ?_) (λ b u e=> ?_) I.bare
 ·exact ⟨(hf b hb).2.2.2.1,(hf b hb).2.1,(hf b hb).2.2.2.2.1,(hf b hb).2.2.2.2.2⟩
 ·obtain ⟨o,es,ep,ho,r⟩:=hm;exact ⟨o,es,ep,k _ o (λ z=>(hf _ z).2.1 rfl) ho,r⟩
 ·refine (I.hok b u e).stay (λ c v hc q=>k c v ?_ q) (λ _ q=>q) λ _ _ q=>q
  rcases hc with z | z
  ·rw [z];exact nit b u e
  ·exact nit c _ z
def T9 (K:W.Frag) (ta:TA):TI:=λ σ H R=>ta σ H λ vs H1=> ∃a b xs ys,vs=[.ref a, .ref b]/\SqL K H1 a xs/\SqL K H1 b ys/\R (RC K a b) H1
end L2
end
section
namespace L2
open PySem PySem.Spec PyProof.Rows
structure Cal (P:Program) (w:World) (K:W.Frag) (mg:Str->Option Value) (base:Heap) (n:Nat) (x:Str) (ps:List Str) (sp:Sp):Prop where
 ex: ∃ (f:Addr) (fd:FuncData),FnOk P w K mg base Gv n f fd ps sp/\Binds K fd ps []/\W.keepIn K (.ref f)=true/\mg x=some (.ref f)
section
variable {X:Cx} {n k:Nat} {x:Str} {ps:List Str} {sp:Sp} {p pos:Pos} {e:Expr} {es:List Expr} {t:TA}
theorem b8 (c:Cal X.prog X.w X.K X.mg X.base n x ps sp) (hr:Room k X.A) (hk:n<=k) (hg:Gl X x) (ha:PA X (e::es) t) (hdb:(x==("__debug__":Str))=false:=by decide)
  (he:starEach (e::es) X.env=(false,eval e X.env)::starEach es X.env:=by rfl) (hpl:(backTo pos (starEach es X.env)).any (·.1)=false:=by rfl):
  PE X (.Call (.Name x p) (e::es) [] pos) (aX sp [] E0 t):=by
 obtain ⟨f,fd,F,hb,kp,hm⟩:=c.ex;exact qU F (hr.mono hk) hg hm kp hb .nil Im ha hdb he hpl
end
theorem small {n:Nat} (h:n<=1000):n<=sizeLine:=Xh (zV h)
theorem aH {H:Hp} {p:Addr} (h:H p=none) (o:HO):Same H (upd H p o):=λ b u q=>by rw [aD (aU q h)];exact q
theorem Same.get {H H':Hp} (e:Same H H') {a:Addr} {o:HO} (h:H a=some o):H' a=some o:=e a o h
theorem aO {H:Hp} {p a:Addr} {o o':HO} (h:H p=none) (q:H a=some o):upd H p o' a=some o:=aH h o' a o q
end L2
end
section
namespace L2
open PySem PySem.Spec PyProof.Rows
section
variable {X:Cx} (K:W.Frag) (hK:X.K=K)
include hK
theorem bO:Nx X (gJ K):=hK▸Gr
theorem aK:Nx X (bu K):=hK▸K3
theorem uy:QF X (BR K):=hK▸Gs
theorem di:iH X (compareOp .In) (vN K false):=hK▸zQ
theorem jg:iH X (compareOp .NotIn) (vN K true):=hK▸qZ
theorem GJ (hu:X.A.units+64<cLine):iH X (compareOp .Eq) (rEqD K):=hK▸K9 hu
theorem yD (hu:X.A.units+64<cLine):iH X (compareOp .NotEq) (rNeD K):=hK▸Ka hu
def cB (K:W.Frag):List V->Hp->VK->Prop:=λ xs H Q=> ∃x n,xs=[x]/\O2 K x H n/\Q (.int n) H
theorem aR:cX X (.builtin "len") (cB K):=by subst hK;exact BJ
def nF (K:W.Frag):List V->Hp->VK->Prop:=λ xs H Q=> ∃p ys,xs=[.ref p]/\(SqL K H p ys\/SqT K H p ys)/\ ∀l,H l=none->Q (.ref l) (upd H l (.lst ys))
theorem jh:cX X (.type "list") (nF K):=by subst hK;exact rA
def dN (K:W.Frag):List V->Hp->VK->Prop:=λ xs H Q=> ∃p ys,xs=[.ref p]/\((SqL K H p ys/\ ∀l,H l=none->Q (.ref l) (upd H l (.tup ys)))\/(SqT K H p ys/\Q (.ref p) H))
theorem bT:cX X (.type "tuple") (dN K):=by subst hK;exact pM
def gf (K:W.Frag):List V->Hp->VK->Prop:=λ xs H Q=> ∃T x t b,xs=[x, .ty T]/\TyOf K H x t/\PySem.W.kitOne K t (.type T)=some b/\Q (.bl b) H
theorem cU:cX X (.builtin "isinstance") (gf K):=by subst hK;exact ux
theorem bQ {tg l:Expr} {tl:TE} (hl:PE X l tl):PI X tg l (dF K tl):=hK▸Gh hl
theorem fC {tg l:Expr} {tl:TE} (hl:PE X l tl):PI X tg l (mW K tl):=hK▸JS hl
def kY (K:W.Frag) (ta:TE):TT:=λ σ H Q=>ta σ H λ x H'=> ∃k,Bw K x H' k/\Q k H'
theorem cg {a:Expr} {ta:TE} (ha:PE X a ta) (he: ∀whole,isTrue a X.env whole=(do let v <- whole;standAt a.pos;holding [v] (truthy v))):PT X a (kY K ta):=by subst hK;exact Bx ha he
theorem eU {es:List Expr} {k:Nat} {t:G4} {n:Nat} {pos:Pos} (hc:X.calm=true) (h:NB X es t)
  (hn:(assignEach es X.env).length=n:=by rfl) (hst:(assignEach es X.env).findIdx? (·.1)=none:=by rfl):PG X (.Tuple es k pos) (km K n t):=by subst hK;exact JP hc h hn hst
end
section
variable {X:Cx} (K:W.Frag) (hK:X.K=K) {o e:Expr} {es:List Expr} {to:TE} {t:TA} {name:Str} {apos cpos:Pos} {T id:String} {r:V->List V->Hp->VK->Prop}
include hK
theorem fc (pa:PlainAttrs T) (slot:Slot T name id) (hty:typeOf (.builtin id)=pure (.type "method_descriptor")) (hm:O3 X id r) (ho:PE X o to) (ha:PA X (e::es) t) (hbase:attributeBase o name X.env (eval o X.env)=eval o X.env:=by rfl)
  (hfew:((backTo cpos (starEach (e::es) X.env)).all (λ x=> !x.1)&&(backToKw cpos (keywordEach [] X.env)).all (λ x=>x.1.isSome)&&decide ((e::es).length+([]:List Keyword).length+(if ([]:List Keyword).isEmpty then 0 else 1)<30))=true:=by rfl)
  (hline:(apos.endLine==cpos.line)=true:=by rfl) (hs:starEach (e::es) X.env=(false,eval e X.env)::starEach es X.env:=by rfl) (hplain:(backTo cpos (starEach es X.env)).any (·.1)=false:=by rfl):
  PE X (.Call (.Attribute o name apos) (e::es) [] cpos) (vO K T r to t):=by subst hK;exact O4 pa slot hty hm ho ha hbase hfew hline hs hplain
end
abbrev dO:R2:=vI λ i j=> .int (i+j)
abbrev Cm:R2:=vI λ i j=> .int (i-j)
abbrev jL:R2:=rI CMul λ i j=> .int (i*j)
abbrev cJ:R2:=rI NT λ i j=> .int (i / j)
abbrev bZ:R2:=rI (λ _ j=>0<j) λ i j=> .int (i%j)
abbrev O7:R2:=rI NZ λ i j=> .int (i^j.toNat)
abbrev Ke:R2:=vI λ i j=> .bl (decide (i<j))
abbrev Cp:R2:=vI λ i j=> .bl (decide (i<=j))
abbrev Cq:R2:=vI λ i j=> .bl (decide (j<i))
abbrev R3:R2:=vI λ i j=> .bl (decide (j<=i))
abbrev eF:R2:=λ x y H Q=> ∃i j,x= .str i/\y= .str j/\i.length+j.length<=sizeLine/\Q (.str (i++j)) H
abbrev oG:R2:=λ x y H Q=> ∃i j,x= .str i/\y= .str j/\Q (.bl (!(decide (j.cps.toList<i.cps.toList)))) H
abbrev gP:R2:=λ x y H Q=>y= .non/\Q (.bl (decide (x= .non))) H
abbrev ir:R2:=λ x y H Q=>y= .non/\Q (.bl (!decide (x= .non))) H
abbrev yE:V->Hp->VK->Prop:=rU λ i=> .int (-i)
abbrev O8:V->List V->Hp->VK->Prop:=λ x xs H Q=> ∃i,x= .int i/\xs=[]/\Q (.int (Builtin.Int.intBits i)) H
abbrev Ir:List V->Hp->VK->Prop:=λ xs H Q=> ∃x,xs=[.str x]/\x.length=1/\Q (.int (x.cps.getD 0 0:Nat)) H
abbrev R4:List V->Hp->VK->Prop:=λ xs H Q=> ∃i j,xs=[.int i, .int j]/\Q (.int (if j<i then j else i)) H
abbrev R5:List V->Hp->VK->Prop:=λ xs H Q=> ∃i j,xs=[.int i, .int j]/\Q (.int (if j>i then j else i)) H
end L2
end
section
namespace L2
open PySem PySem.Spec PyProof.Rows
theorem ObjOk.there {P:Program} {w:World} {H:Hp} {h:Heap} {a:Addr} {o:HO} (x:ObjOk P w H h a o): ∃u,h.get? a=some u:=by
 cases o with
 | lst xs=>obtain ⟨_,_,_,_,e⟩:=x;exact ⟨_,e⟩
 | tup xs=>obtain ⟨_,_,_,o,e,_⟩:=x;exact ⟨_,e⟩
 | dK kvs=>obtain ⟨_,_,_,_,o,_,_,e,_⟩:=x;exact ⟨_,e⟩
 | dT kvs=>obtain ⟨_,_,_,_,o,_,_,e,_⟩:=x;exact ⟨_,e⟩
 | set S n=>obtain ⟨o,_,_,_,e,_⟩:=x;exact ⟨_,e⟩
 | ins C dx fs=>obtain ⟨_,_,_,e,_⟩:=x;exact ⟨_,e⟩
 | own y=>exact x
 | xd fs=>obtain ⟨_,⟨_,_,_,e,_⟩,_⟩:=x;exact ⟨_,e⟩
 | rng lo hi=>obtain ⟨_,_,_,e⟩:=x;exact ⟨_,e⟩
 | frz ob u=>obtain ⟨e,_⟩:=x;exact ⟨_,e⟩
 | tbl ps=>exact ⟨_,(show h.get? a=some _ from x)⟩
 | met f y=>exact ⟨_,(show h.get? a=some _ from x)⟩
 | ext φ=>obtain ⟨_,⟨_,e⟩,_⟩:=x;exact ⟨_,e⟩
def kZ (P:Program) (w:World):Bb:=λ outer H s E e s'=>
 ∃ (x:Addr) (C a0:Value) (B:Heap) (H':Hp),e= .ref x/\s'.os=s.os/\AllBare s'.gens/\Un (frs outer) [] H H' s.heap s'.heap/\HOk P w H' s'.heap/\H' x=none/\
  Heap.FlyingW B outer x C a0 s'.heap/\s.heap.get? x=none/\(∀b o,s.heap.get? b=some o->b∉frs outer-> ∃u,B.get? b=some u)/\(∀b o,H' b=some o-> ∃u,B.get? b=some u)/\E C none H'
def Iu (X:Cx) (E:XK):Prop:=
 ∀ (pins:List (Addr×Obj)) (σ:St) (H:Hp) (s:Shared) (x:Addr) (C:Value) (vs:List Value) (h':Heap),Inv X pins σ H s->Heap.MadeExcOf s.heap h' x C vs->E C none H->X.xe (.ref x) { s with heap:=h' }
section
variable {P:Program} {w:World} {K:W.Frag} {mg:Str->Option Value} {base:Heap} {N:List Str} {qual:Str} {sc:Scope} {f:Addr} {cd:Value} {A:Around} {outer:List Env} {s₀:Shared} {H₀:Hp} {E E':XK}
theorem gQ:frs (envOfC qual sc s₀.heap.objs.size f cd::outer)=s₀.heap.objs.size::frs outer:=rfl
theorem cH:Iu (jb (kZ P w) P w K mg base N qual sc f cd A outer s₀ H₀ E) E:=by
 intro pins σ H s x C vs h' I hx hE;have fr:(A.deeper (envOfC qual sc s₀.heap.objs.size f cd)).frames=some (envOfC qual sc s₀.heap.objs.size f cd::outer):=I.ok.frames;have FF:s.heap.FunFrames base (envOfC qual sc s₀.heap.objs.size f cd::outer):=I.stack;have u:Un (frs outer) [] H₀ H s₀.heap s.heap:=I.base;have sf: ∀b∈frs (envOfC qual sc s₀.heap.objs.size f cd::outer),H b=none:=I.stkFree;show wpAny (model P w) (A.deeper (envOfC qual sc s₀.heap.objs.size f cd)) (leaving (envOfC qual sc s₀.heap.objs.size f cd) (.ref x)) (λ _ s''=>kZ P w outer H₀ s₀ E (.ref x) s'') (λ e' s''=>kZ P w outer H₀ s₀ E e' s'') { s with heap:=h' };refine wpAny_leaves_madeW (base:=PySem.W.hideAll s.heap (frs (envOfC qual sc s₀.heap.objs.size f cd::outer))) fr rfl (λ b o q=>PySem.W.of_hideAll _ q) (PySem.W.funFrames_hide FF λ e he a ha=>List.mem_filterMap.mpr ⟨e,he,ha⟩) hx λ h'' t x1 x2 x3 x4=> ?_
 have kept: ∀b o,s.heap.get? b=some o->b∉frs (envOfC qual sc s₀.heap.objs.size f cd::outer)->h''.get? b=some o:=λ b o e hb=>x1.1 b o (PySem.W.hideAll_get _ e hb)
 have slots: ∀b o,s.heap.get? b=some o->b∈frs (envOfC qual sc s₀.heap.objs.size f cd::outer)-> ∃sl,h''.get? b=some { o with slots:=sl }:=λ b o e hb=>by
  obtain ⟨_,o',e',hd⟩:=FF.mem hb;rw [e] at e'
  cases e';exact x4 b o (hx.keeps b o e) hd
 have nL: ∀b o,s₀.heap.get? b=some o->b∉frs outer->b∉frs (envOfC qual sc s₀.heap.objs.size f cd::outer):=λ b o e hb hm=>by
  rw [gQ] at hm;rcases Zp.mp hm with z | z
  ·exact absurd (Zm e) (by rw [z];exact Wd _)
  ·exact hb z
 have hxn:H x=none:=by
  cases q:H x with
  | none=>rfl
  | some o=>
   obtain ⟨v,e⟩:=(I.hok x o q).there;have:=hx.new;rw [e] at this;cases this
 refine ⟨x,C, .ref t,_,H,rfl,I.os,I.bare,⟨λ b o q n hb hx'=>kept b o (u.keep b o q n hb hx') (nL b o q hb),λ b o q n hb hx'=> ?_,u.free,λ b o q hx'=> ?_,u.tups,u.frzs,u.tbls⟩,λ a o e=> ?_,hxn,x1,?_,λ b o q hb=> ?_,λ b o q=> ?_,hE⟩
 ·obtain ⟨sl,e1⟩:=u.slot b o q n hb hx';obtain ⟨sl',e2⟩:=slots b _ e1 (by rw [gQ];exact Zr _ hb);exact ⟨sl',e2⟩
 ·obtain ⟨o',e1⟩:=u.there b o q hx';by_cases hb:b∈frs (envOfC qual sc s₀.heap.objs.size f cd::outer)
  ·obtain ⟨sl,e2⟩:=slots b o' e1 hb;exact ⟨_,e2⟩
  ·exact ⟨_,kept b o' e1 hb⟩
 ·refine (I.hok a o e).stay (λ c v hc q=>kept c v q λ hm=> ?_) (λ _ q=>q) λ _ _ q=>q
  have z:=sf c hm;rcases hc with rfl | hc
  ·rw [e] at z;cases z
  ·rw [hc] at z;cases z
 ·cases q:s₀.heap.get? x with
  | none=>rfl
  | some o=>
   obtain ⟨o',e1⟩:=u.there x o q (by simp);have:=hx.new;rw [e1] at this;cases this
 ·obtain ⟨o',e1⟩:=u.there b o q (by simp);exact ⟨_,PySem.W.hideAll_get _ e1 (nL b o q hb)⟩
 ·obtain ⟨v,e⟩:=(I.hok b o q).there;refine ⟨_,PySem.W.hideAll_get _ e λ hm=> ?_⟩;rw [sf b hm] at q;cases q
theorem bN (hE: ∀C H',E' C none H'->E C none H'):jn (kZ P w) (jb (kZ P w) P w K mg base N qual sc f cd A outer s₀ H₀ E) E':=by
 intro pins σ H s e s' I h;obtain ⟨x,C,a0,B,H',rfl,ho,hg,un,hok,hx,fl,sx,d1,d2,q⟩:=h;have fr:(A.deeper (envOfC qual sc s₀.heap.objs.size f cd)).frames=some (envOfC qual sc s₀.heap.objs.size f cd::outer):=I.ok.frames;have u:Un (frs outer) [] H₀ H s₀.heap s.heap:=I.base;have un:Un (frs (envOfC qual sc s₀.heap.objs.size f cd::outer)) [] H H' s.heap s'.heap:=un;have fl:Heap.FlyingW B (envOfC qual sc s₀.heap.objs.size f cd::outer) x C a0 s'.heap:=fl;have d1: ∀b o,s.heap.get? b=some o->b∉frs (envOfC qual sc s₀.heap.objs.size f cd::outer)-> ∃u,B.get? b=some u:=d1;show wpAny (model P w) (A.deeper (envOfC qual sc s₀.heap.objs.size f cd)) (leaving (envOfC qual sc s₀.heap.objs.size f cd) (.ref x)) (λ _ s''=>kZ P w outer H₀ s₀ E (.ref x) s'') (λ e' s''=>kZ P w outer H₀ s₀ E e' s'') s';refine wpAny_leaves_onW fr rfl fl λ h'' fl' up=> ?_
 have nL: ∀b o,s₀.heap.get? b=some o->b∉frs outer->b∉frs (envOfC qual sc s₀.heap.objs.size f cd::outer):=λ b o e hb hm=>by
  rw [gQ] at hm;rcases Zp.mp hm with z | z
  ·exact absurd (Zm e) (by rw [z];exact Wd _)
  ·exact hb z
 have keptB: ∀b o,s'.heap.get? b=some o->(∃v,B.get? b=some v)->h''.get? b=some o:=λ b o e ⟨v,hv⟩=>by
  have z:=fl.1 b v hv;rw [e] at z
  cases z;exact fl'.1 b o hv
 have slots: ∀b o,s'.heap.get? b=some o->b∈frs (envOfC qual sc s₀.heap.objs.size f cd::outer)-> ∃sl,h''.get? b=some { o with slots:=sl }:=λ b o e hb=>by
  obtain ⟨_,o',e',hd⟩:=fl.2.2.1.mem hb;rw [e] at e'
  cases e';exact up b o e hd
 refine ⟨x,C,a0,B,H',rfl,ho.trans I.os,hg,⟨λ b o q n hb hx'=> ?_,λ b o q n hb hx'=> ?_,λ b o q n hx'=> ?_,λ b o q hx'=> ?_,λ b xs q=>un.tups b xs (u.tups b xs q),λ b o v q=>un.frzs b o v (u.frzs b o v q),λ b ps q=> ?_⟩,λ a o e=> ?_,hx,fl',?_,λ b o q hb=> ?_,d2,hE C H' q⟩
 ·have e1:=u.keep b o q n hb hx';have n1:=u.free b o q n hx';exact keptB b o (un.keep b o e1 n1 (nL b o q hb) hx') (d1 b o e1 (nL b o q hb))
 ·obtain ⟨sl,e1⟩:=u.slot b o q n hb hx';have n1:=u.free b o q n hx';have hb':b∈frs (envOfC qual sc s₀.heap.objs.size f cd::outer):=by rw [gQ];exact Zr _ hb
  obtain ⟨sl',e2⟩:=un.slot b _ e1 n1 hb' hx';obtain ⟨sl'',e3⟩:=slots b _ e2 hb';exact ⟨sl'',e3⟩
 ·obtain ⟨o',e1⟩:=u.there b o q hx';exact un.free b o' e1 (u.free b o q n hx') hx'
 ·obtain ⟨o',e1⟩:=u.there b o q hx';obtain ⟨o2,e2⟩:=un.there b o' e1 hx';by_cases hb:b∈frs (envOfC qual sc s₀.heap.objs.size f cd::outer)
  ·obtain ⟨sl,e3⟩:=slots b o2 e2 hb;exact ⟨_,e3⟩
  ·exact ⟨_,keptB b o2 e2 (d1 b o' e1 hb)⟩
 ·obtain ⟨m1,e1⟩:=u.tbls b ps q;obtain ⟨m2,e2⟩:=un.tbls b _ e1;exact ⟨m1++m2,by rw [e2,Array.append_assoc]⟩
 ·refine (hok a o e).stay (λ c v hc z=>keptB c v z ?_) (λ _ z=>z) λ _ _ z=>z
  rcases hc with rfl | hc
  ·exact d2 _ _ e
  ·exact d2 _ _ hc
 ·cases z:s₀.heap.get? x with
  | none=>rfl
  | some o=>
   obtain ⟨o',e1⟩:=u.there x o z (by simp);rw [sx] at e1;cases e1
 ·obtain ⟨o',e1⟩:=u.there b o q (by simp);exact d1 b o' e1 (nL b o q hb)
end
section
variable {P:Program} {w:World} {K:W.Frag} {mg:Str->Option Value} {base:Heap}
theorem Fun.okX {x qual:Str} {st:Stmt} {f:Addr} {fd:FuncData} {N ps:List Str} {k:Nat} {sp:Sp} (F:Fun K x qual st f fd) (S:FnScope N ps (aC st)) (len: ∀vs H Q E,sp vs H Q E->vs.length=ps.length)
  (hbody: ∀ (cdv:Value) (A:Around) (outer:List Env) (s:Shared) (H:Hp) (vs:List V) (Q:VK) (E:XK),Room k (A.deeper (envOfC qual (aC st) s.heap.objs.size f cdv))->sp vs H Q E->
   ∃t,PSs (jb (kZ P w) P w K mg base N qual (aC st) f cdv A outer s H E) (c7 st) t/\t { nx:=λ _ H'=>Q .non H',rt:=Q } (start N vs) H):FnOk P w K mg base (kZ P w) (k+1) f fd ps sp:=by
 obtain ⟨oc,od,kV,doc,pm,an,cdv,ct,osl,rfl,lk,hcd⟩:=F.ex;exact BK lk hcd S len λ A outer s H vs Q E hr hsp=>hbody cdv A outer s H vs Q E hr hsp
end
structure CalX (P:Program) (w:World) (K:W.Frag) (mg:Str->Option Value) (base:Heap) (n:Nat) (x:Str) (ps:List Str) (sp:Sp):Prop where
 ex: ∃ (f:Addr) (fd:FuncData),FnOk P w K mg base (kZ P w) n f fd ps sp/\Binds K fd ps []/\W.keepIn K (.ref f)=true/\mg x=some (.ref f)
section
variable {X:Cx} {n k:Nat} {x:Str} {ps:List Str} {sp:Sp} {p pos:Pos} {e:Expr} {es:List Expr} {t:TA} {E:XK}
theorem cW (c:CalX X.prog X.w X.K X.mg X.base n x ps sp) (hr:Room k X.A) (hk:n<=k) (hg:Gl X x) (hx:jn (kZ X.prog X.w) X E) (ha:PA X (e::es) t) (hdb:(x==("__debug__":Str))=false:=by decide)
  (he:starEach (e::es) X.env=(false,eval e X.env)::starEach es X.env:=by rfl) (hpl:(backTo pos (starEach es X.env)).any (·.1)=false:=by rfl):
  PE X (.Call (.Name x p) (e::es) [] pos) (aX sp [] E t):=by
 obtain ⟨f,fd,F,hb,kp,hm⟩:=c.ex;exact qU F (hr.mono hk) hg hm kp hb .nil hx ha hdb he hpl
theorem FnOk.quiet {P:Program} {w:World} {K:W.Frag} {mg:Str->Option Value} {base:Heap} {k:Nat} {f:Addr} {fd:FuncData} {ps:List Str} {sp:Sp} (F:FnOk P w K mg base (kZ P w) k f fd ps sp):
  FnOk P w K mg base Gv k f fd ps (λ vs H Q _=>sp vs H Q E0):=
 ⟨λ vs H Q _ h=>F.len vs H Q E0 h,λ A outer s H args us vs Q E hr e0 hb r h=>codeAny_mono (F.run A outer s H args us vs Q E0 hr e0 hb r h) λ res s' hq=>by
  cases res with
  | ok fl=>cases fl<;>exact hq
  | error e=>
   obtain ⟨x,C,a0,B,H',rfl,ho,hg,un,hok,hx,fl,sx,d1,d2,q⟩:=hq;exact q.elim⟩
end
theorem GK {K:W.Frag} {C:Addr} {bmB:List Value} {newId:String} (q:PySem.W.excIn K C bmB newId=true):
  ∃bm N nm qn bs hd sn sub ab col dd k0 k1 k2 k3 k5,K.lookup C=some (excClassObj nm qn C N bs bm hd sn sub ab col dd k0 k1 k2 k3 k5 newId)/\PySem.W.tailIn K bmB bm=true/\PySem.W.nsOkIn K N=true/\W.nsIn K N "__init__"=some none:=by
 unfold PySem.W.excIn at q;split at q
 ·rename_i dd cd sl ho;split at q
  ·rename_i C' bm k0 k1 k2 k3 n k5 hm hs;simp only [Xw,beq_iff_eq,Bool.not_eq_true'] at q;obtain ⟨⟨⟨⟨⟨rfl,rfl⟩,hdel⟩,ht⟩,hok⟩,hni⟩:=q;obtain ⟨nm,bs,mro,ns,qn,hd,sn,sub,ab,col,del⟩:=cd;dsimp only at hm hdel hok hni;subst hm hdel;obtain ⟨l⟩:=sl;have hl:l=[k0,k1,k2,k3,some (.builtin n),k5]:=hs;subst hl;exact ⟨bm,ns,nm,qn,bs,hd,sn,sub,ab,col,dd,k0,k1,k2,k3,k5,ho,ht,hok,hni⟩
  ·cases q
 ·cases q
theorem vV {K:W.Frag} {N:Addr} (q:PySem.W.nsOkIn K N=true): ∃o,K.lookup N=some o:=by
 unfold PySem.W.nsOkIn at q;split at q
 ·rename_i ho;exact ⟨_,ho⟩
 ·cases q
section
variable {X:Cx} {x:Str} {np cpos pos:Pos} {e:Expr} {es:List Expr} {t:TA} {E:XK} {C:Addr} {bm:List Value} {B newId initId:String}
def fj (E:XK) (C:Addr) (t:TA):TS:=λ _ σ H=>t σ H λ vs H1=>vs.length<=sizeLine/\E (.ref C) none H1
theorem cY (FB:ExcBaseFacts B newId initId bm) (hf:Iu X E) (hc:X.calm=true) (hg:Gl X x) (hm:X.mg x=some (.ref C)) (hq:PySem.W.excIn X.K C bm newId=true) (ha:PA X (e::es) t) (hdb:(x==("__debug__":Str))=false:=by decide)
  (he:starEach (e::es) X.env=(false,eval e X.env)::starEach es X.env:=by rfl) (hpl:(backTo cpos (starEach es X.env)).any (·.1)=false:=by rfl):
  PS X (.Raise (some (.Call (.Name x np) (e::es) [] cpos)) none pos) (fj E C t):=by
 intro pins s σ H D I h;obtain ⟨tl,N,nm,qn,bs,hd,sn,sub,ab,col,dd,k0,k1,k2,k3,k5,hK,ht,hok,hni⟩:=GK hq;have T:=PySem.W.tail_of_in I.kIn ht;have hN:s.heap.Ns N (s.heap.nsMap N):= .of_isNs (PySem.W.isNs_of_in I.kIn hok);obtain ⟨oN,hoN⟩:=vV hok;refine wpAny_Raise_call_subT (C:=C) (nm:=nm) (q:=qn) (N:=N) (bs:=bs) (bm:=tl) (hdct:=hd) (sn:=sn) (sub:=sub) (ab:=ab) (col:=col) (dd:=dd) (k0:=k0) (k1:=k1) (k2:=k2) (k3:=k3) (k5:=k5)
  FB (mN:=s.heap.nsMap N) (T.hasType FB.hasBase) (I.ok.hd hc) (by rw [he];show (false||(backTo cpos (starEach es X.env)).any (·.1))=false;rw [hpl];rfl) (PySem.W.nsMap_none_of_in I.kIn hok hni) (qR I hg hm ⟨rfl,?_⟩ hdb)
 have z:=ha cpos pins s σ H _ I h;rw [he] at z ⊢;refine Calls.evalArgs_plain (bL z λ us s2 ⟨vs,H2,I2,r,hl,q⟩=>⟨rfl,?_,I2.kIn _ _ hK,hN.at' λ o e=> ?_,PySem.W.tail_of_in I2.kIn ht,λ h' ex hx=>hf pins σ H2 s2 ex _ _ h' I2 hx q⟩)
 ·rw [<- r.length];exact hl
 ·have e1:=I.kIn _ _ hoN;rw [e] at e1
  cases e1;exact I2.kIn _ _ hoN
end
end L2
end
section
namespace L2
open PySem PySem.Spec PyProof.Rows
def ExcAt (x:Addr) (C:Value) (h:Heap):Prop:= ∃o vs,h.get? x=some o/\o.cls=C/\o.data= .fields vs
abbrev Tc (x:Addr) (C:Value):HO:= .ext (ExcAt x C)
section
variable {X:Cx} {body:List Stmt} {b₀:Stmt} {suite:List Stmt} {c n:Str} {np hpos pos:Pos} {tb th:TS} {Cc:Addr} {i:Nat}
def behind (i:Nat) (D:Ends):Ends where
 nx:=λ σ H=>D.nx (σ.set i none) H
 rt:=D.rt
 bk:=λ σ H=>D.bk (σ.set i none) H
 ct:=λ σ H=>D.ct (σ.set i none) H
end
end L2
end
section
namespace L2
open PySem PySem.Spec PySem.Calls PyProof.Rows PySem.W PySem.Builtin PySem.Builtin.ObjectAttr PySem.Builtin.Getset_descriptor
structure ExcK (K:W.Frag) (C:Addr):Prop where
 ex:PySem.W.excIn K C [.type "ValueError", .type "Exception", .type "BaseException", .type "object"] "ValueError.__new__"=true
 ga:findIn K (.ref C) "__getattribute__"=some (some (.builtin "BaseException.__getattribute__"))
 gt:findIn K (.ref C) "__getattr__"=some none
 cl:findIn K (.ref C) "__class__"=some (some (.builtin "object.__class__"))
 ge:specialIn K (.builtin "object.__class__") "__get__"=some (some (.builtin "getset_descriptor.__get__"))
 tk:takesIn K (.builtin "object.__class__")=some true
 mo:mroIn K C (.type "object")=some true
 mb:subIn K (.ref C) (.type "BaseException")=some true
def O9 (K:W.Frag):List V->Hp->VK->Prop:=λ xs H Q=> ∃ (x C:Addr) (y:V) (b:Bool),xs=[.ref x,y]/\H x=some (Tc x (.ref C))/\ExcK K C/\
 ((∃T,y= .ty T/\kitOne K (.ref C) (.type T)=some b)\/(∃D,y= .ref D/\kitOne K (.ref C) (.ref D)=some b)\/ ∃ (p:Addr) (ds:List Addr),y= .ref p/\H p=some (.tup (ds.map V.ref))/\kitAny K (.ref C) (ds.map Value.ref)=some b)/\Q (.bl b) H
theorem fO {P:Program} {w:World} {K:W.Frag} {mg:Str->Option Value} {base:Heap} {N:List Str} {qual:Str} {sc:Scope} {f:Addr} {cd:Value} {A:Around} {outer:List Env} {s₀:Shared} {H₀:Hp} {E:XK}:
  PassesOwn (model (jb (kZ P w) P w K mg base N qual sc f cd A outer s₀ H₀ E).prog (jb (kZ P w) P w K mg base N qual sc f cd A outer s₀ H₀ E).w) (jb (kZ P w) P w K mg base N qual sc f cd A outer s₀ H₀ E).A (jb (kZ P w) P w K mg base N qual sc f cd A outer s₀ H₀ E).env (jb (kZ P w) P w K mg base N qual sc f cd A outer s₀ H₀ E).xe:=PassesOwn.leaving
end L2
end
section
namespace L2
open PySem PySem.Spec PyProof.Rows
theorem jq: ∀ {ys:List Str} {us:List Value},Vals (ys.map V.str) us->StrsAre us ys
 | [],_,r=>by cases r;exact .nil
 | y::ys,_,r=>by
  cases r with
  | cons r rr=>
   obtain ⟨t,rfl⟩:=r;exact .cons y t (jq rr)
def rJoin (K:W.Frag):V->List V->Hp->VK->Prop:=λ x vs H Q=> ∃ (s:Str) (a:Addr) (ys:List Str),x= .str s/\vs=[.ref a]/\SqL K H a (ys.map V.str)/\(ys.map (·.length)).sum+ys.length*s.length<=16777216/\Q (.str (Txt.join s ys)) H
def rH:V->Option Int->Option Int->Hp->VK->Prop:=λ x lo hi H Q=> ∃s:Str,x= .str s/\s.length<=sizeLine/\Q (.str (Txt.slice s lo hi)) H
section
variable {X:Cx}
theorem GP:O3 X "str.join" (rJoin X.K):=by
 intro pins s σ H x xs v us Q I rx rv h;obtain ⟨z,a,ys,rfl,rfl,hx,hok,q⟩:=h;obtain ⟨t,rfl⟩:=rx;obtain ⟨u,rfl,ru⟩:=rv.one
 cases (show u=Value.ref a from ru);obtain ⟨its,r,ht,hz⟩:=I.list hx;exact join_list ht.isList (jq r) hok λ t' k=>⟨.str _,H,I.tok k,⟨t',rfl⟩,q⟩
theorem Cr (K:W.Frag) (hK:X.K=K):O3 X "str.join" (rJoin K):=hK▸GP
theorem jr:QF X rH:=by
 intro pins s σ H x v vl vu lo hi sl Q I rx hs pl pu h;obtain ⟨z,rfl,hz,q⟩:=h;obtain ⟨t,rfl⟩:=rx;have fin: ∀ (l u:Option (Int×Tok)),l.map (·.1)=lo->u.map (·.1)=hi->s.heap.IsSlice sl l u none->wpAny (model X.prog X.w) X.A (getItem (.str z t) (.ref sl)) (EP X pins σ Q) X.xe s:=by
  intro l u e1 e2 hh;refine wpAny_getItem_str_slice (l:=l) (u:=u) (st:=none) hh rfl ?_;subst e1 e2;exact post_val_or_str ⟨Nat.le_trans (Txt.slice_le z _ _) hz,λ t' k=>⟨.str _,H,I.tok k,⟨t',rfl⟩,q⟩⟩
 refine ⟨"str",_,F.slot_str_getitem.lookup,typeIs_str _ _ _,?_⟩
 cases pl with
 | none=>
  cases pu with
  | none=>exact fin none none rfl rfl hs
  | int j u=>exact fin none (some (j,u)) rfl rfl hs
 | int i u=>
  cases pu with
  | none=>exact fin (some (i,u)) none rfl rfl hs
  | int j u'=>exact fin (some (i,u)) (some (j,u')) rfl rfl hs
end
def R6 (K:W.Frag) (a:Addr):It:=
 ⟨λ i H=> ∃xs x,SqL K H a xs/\xs[i]? =some x,
  λ i H v H'=> ∃p x,H p=none/\v= .ref p/\H'=upd H p (.tup [.int (i:Int),x])/\ ∀xs,SqL K H a xs->xs[i]? =some x,
  λ i H=> ∃xs,SqL K H a xs/\xs.length<=i⟩
structure EnSt (e it a:Addr) (i:Nat) (h:Heap):Prop where
 he: ∃old,IsEnum h e it (i:Int) old
 h1:h.IsListIter it a i
theorem Aa {P:Program} {w:World} {K:W.Frag} {elts:List Expr} {k:Nat} {tpos:Pos} {e it:Addr} (a:Addr) (D:e≠it):
  Turn P w K (.Tuple elts k tpos) (R6 K a) [e,it] e (EnSt e it a) where
 mem:=by simp
 obj:=λ i h st c hc=>by
  obtain ⟨⟨old,he⟩,⟨o1,e1,c1,d1⟩⟩:=st;simp only [Zp,Yi,Ws] at hc;rcases hc with rfl | rfl
  ·exact ⟨_,he,λ v z=>by cases z⟩
  ·exact ⟨o1,e1,λ v z=>by rw [d1] at z;cases z⟩
 keep:=λ i h h' st kk=>by
  obtain ⟨⟨old,he⟩,h1⟩:=st;exact ⟨⟨old,kk e (by simp) _ he⟩,h1.at λ o e=>kk it (by simp) o e⟩
 item:=by
  intro X hP hw hK hc i pins s σ H E I hf st hg;subst hP hw hK;obtain ⟨xs,x,hxs,hx⟩:=hg;obtain ⟨its,rv,p,hz1⟩:=I.list hxs;obtain ⟨u,hu,ru⟩:=rv.get hx;obtain ⟨⟨old,he⟩,h1⟩:=id st;refine wpAny_pyNext_enum_item (x:=u) he h1 p.isList (by simpa using hu) D λ h' a1 a2 a3 a4 a5=> ?_
  refine ⟨_,rfl,wpAny_letOwnedTupleGo_enum a1 λ h'' b1 hs=> ?_⟩;have hT:s.heap.objs.size≠e:=Nat.ne_of_gt (Zm he);have kk: ∀c o,c∉[e,it]->s.heap.get? c=some o->h''.get? c=some o:=λ c o hc' q=>by
   simp only [Zp,Yi,Ws,not_or] at hc';exact hs.extBut _ _ hc'.1 (a5 c o hc'.1 hc'.2 q)
  have I1:Inv X pins σ H { s with heap:=h'',toks:=s.toks+1 }:=I.turnedAll kk hf;have hnew:H s.heap.objs.size=none:=I.hok.fresh (Zn _);have e5:h''.get? s.heap.objs.size=some { cls:= .type "tuple",data:= .seq #[.int i s.toks,u] }:=hs.extBut _ _ hT a3;have un:Un (frs X.stack) [e,it] H (upd H s.heap.objs.size (.tup [.int (i:Int),x])) s.heap h'':=
   ⟨λ b o q _ _ hx=>kk b o hx q,λ b o q _ _ hx=>⟨o.slots,kk b o hx q⟩,λ b o q n _=>by rw [aD (Yc (Zm q))];exact n,λ b o q hx=>⟨o,kk b o hx q⟩,
    λ b xs q=>by rw [aD (aU q hnew)];exact q,λ b o x q=>by rw [aD (aU q hnew)];exact q,λ b ps q=>⟨#[],by rw [aD (aU q hnew),q];simp⟩⟩
  have hok:HOk X.prog X.w (upd H s.heap.objs.size (.tup [.int (i:Int),x])) h'':=HOk.track I1.hok hnew ⟨by show 2<=sizeLine;decide,[.int i s.toks,u], .cons ⟨_,rfl⟩ (.cons ru .nil),_,e5,rfl,_,rfl⟩;have I2:Inv X pins σ (upd H s.heap.objs.size (.tup [.int (i:Int),x])) { s with heap:=h'',toks:=s.toks+1 }:=I.call' (s':={ s with heap:=h'',toks:=s.toks+1 }) rfl un hok I.bare λ c hc'=>⟨(hf c hc').2.2.2.1,(hf c hc').2.1,(hf c hc').2.2.2.2⟩
  refine ⟨.ref s.heap.objs.size,_,I2,rfl,⟨_,x,hnew,rfl,rfl,λ xs' h=>by rw [I.list_inj h hxs];exact hx⟩,⟨⟨u,by have:=b1;rwa [show ((i:Int)+1)=((i+1:Nat):Int) by rfl'] at this⟩,a2.extBut hs.extBut (Ne.symm D)⟩,λ c hc'=> ?_⟩;have hlt:c<s.heap.objs.size:=by
   obtain ⟨o1,e1,_⟩:=h1;simp only [Zp,Yi,Ws] at hc';rcases hc' with rfl | rfl
   ·exact Zm he
   ·exact Zm e1
  rw [aD (Yc hlt)];exact (hf c hc').1
 done:=by
  intro X hP hw hK hc i pins s σ H E I hf st hg;subst hP hw hK;obtain ⟨xs,hxs,hend⟩:=hg;obtain ⟨its,rv,p,hz1⟩:=I.list hxs;obtain ⟨⟨old,he⟩,h1⟩:=id st;have hl1:=rv.length;refine wpAny_pyNext_enum_end (I.ok.hd hc) he h1 p.isList (by simp;rfl') λ h' kk=> ?_
  refine ⟨rfl,I.turnedAll (t':=s.toks) (λ c o hc' q=> ?_) hf⟩;simp only [Zp,Yi,Ws,not_or] at hc';exact kk c o hc'.2 q
 self:=λ _ _ _ _ _ st h=>by
  obtain ⟨old,he⟩:=st.he;exact wpAny_pyIter_enum he h
def yF (K:W.Frag) (ta:TA):TI:=λ σ H R=>ta σ H λ vs H1=> ∃a xs,vs=[.ref a]/\SqL K H1 a xs/\R (R6 K a) H1
theorem GQ {X:Cx} {elts:List Expr} {k:Nat} {tpos:Pos} {a:Expr} {ta:TA} {p pos:Pos} (hg:Gl X "enumerate") (hc:X.calm=true) (hm:X.mg "enumerate"=none) (ha:PA X [a] ta) (hs:starEach [a] X.env=[(false,eval a X.env)]:=by rfl):
  PI X (.Tuple elts k tpos) (.Call (.Name "enumerate" p) [a] [] pos) (yF X.K ta):=by
 intro pins s σ H R I h;refine Call_ (fL I hg hm (show bootBuiltins "enumerate"=some (.type "enumerate") by ac_nf) (Wj (bL (ha pos pins s σ H _ I h) λ us s1 ⟨vs,H1,I1,r1,q1⟩=> ?_) (by rw [hs];rfl) (by rfl)));obtain ⟨la,xs,e,hxs,q⟩:=q1;subst e
 cases r1 with
 | cons r rr=>
  cases rr
  cases r;obtain ⟨its,rv,p1,hz1⟩:=I1.list hxs;refine call_enumerate_list p1.isList λ h' z1 z2 z3 kk=> ?_
  refine wpAny_pyIter_enum z1 ?_;refine ⟨s1.heap.objs.size+1,[s1.heap.objs.size+1,s1.heap.objs.size],_,_,H1,rfl,I1.kept (t':=s1.toks) kk,Aa la (by show (_:Nat)≠_;rfl'),⟨⟨_,z1⟩,z2⟩,λ c hc'=> ?_,q⟩;have hle:s1.heap.objs.size<=c:=by
   simp only [Zp,Yi,Ws] at hc';rcases hc' with rfl | rfl<;>(show (_:Nat)<=_;rfl')
  exact I1.fpOk hle (I1.hok.fresh hle)
theorem Cu {X:Cx} (K:W.Frag) (hK:X.K=K) {elts:List Expr} {k:Nat} {tpos:Pos} {a:Expr} {ta:TA} {p pos:Pos} (hg:Gl X "enumerate") (hc:X.calm=true) (hm:X.mg "enumerate"=none) (ha:PA X [a] ta) (hs:starEach [a] X.env=[(false,eval a X.env)]:=by rfl):
  PI X (.Tuple elts k tpos) (.Call (.Name "enumerate" p) [a] [] pos) (yF K ta):=by subst hK;exact GQ hg hc hm ha hs
end L2
end
section
namespace L2
open PySem PySem.Spec PyProof.Rows
section
variable {prog:Program} {w:World} {A:Around} {E:Value->Shared->Prop} {s:Shared} {it d:Addr} {i ep:Nat} {od:Obj} {es:Array DictEntry} {Q:Option Value->Shared->Prop}
theorem uz (hit:s.heap.IsKeyIter it d i es.size ep) (hod:s.heap.get? d=some od) (hdd:od.data= .dict es ep) (hi:i<es.size)
  (hQ: ∀h',h'.IsKeyIter it d (i+1) es.size ep->Heap.SameBut it s.heap h'->Q (some es[i].key) { s with heap:=h' }):wpAny (model prog w) A (pyNext (.ref it)) Q E s:=by
 obtain ⟨o,ho,hc,hd⟩:=id hit;have T:=hit.typeIs (s:=s);unfold pyNext;refine Za (wpAny_attempt (wpAny_callSpecial?_slot (name:=Str.ofString "__next__") T F.slot_dict_keyiterator_next (Xj F.slot_dict_keyiterator_next T F.entry_dict_keyiterator_next ?_ (F.args_dict_keyiterator_next_1 _))));have f0:Builtin.Dict_items.ownsTuple "dict_keyiterator"=false:=by decide
 have f1: ¬ (Value.ref d==Value.none)=true:=Zt;have f2: ¬ ((i:Int)<0):=by rfl'
 have tn: ∀ {s':Shared} {A':Around} {E':Value->Shared->Prop} {R:String->Shared->Prop},s'.TypeIs (.ref it) "dict_keyiterator"->R "dict_keyiterator" s'->wpAny (model prog w) A' (typeNameOfWhole (.ref it)) R E' s':=λ a b=>wpAny_typeNameOfWhole_keyiter a b
 repeat (first
  | (refine tn T ?_)
  | (refine wpAny_fieldsOf ho hd ?_)
  | (refine wpAny_dictEntries hod hdd ?_)
  | (refine wpAny_dictEpoch hod hdd ?_)
  | (refine wpAny_isOneOf_keyiter T ?_)
  | (refine Zh ?_)
  | (refine Za ?_)
  | (simp only [f0,Ym,if_false])
  | (rw [if_neg f1])
  | (rw [if_neg (by simp)]))
 rw [Zi,Yt hi];have hit':(s.heap.update it (Obj.mapFields (·.setIfInBounds 1 (rawInt ((i:Int)+1))))).IsKeyIter it d (i+1) es.size ep:=⟨_,Xm _ ho (Wz (Yw hd _)),(Obj.cls_mapFields ..).trans hc,by rw [Yw hd];simp [rawInt]⟩;have T':=hit'.typeIs (s:={ s with heap:=s.heap.update it (Obj.mapFields (·.setIfInBounds 1 (rawInt ((i:Int)+1)))) });dsimp only;refine Za (Za (tn T (Zh (Za (wpAny_isOneOf_keyiter T ?_)))));show wpAny (model prog w) A.in1 (do setField (.ref it) 1 (rawInt ((i:Int)+1));_) _ _ s;refine Za (Wm ho hd (by simp) (Za (Wi (Za (wpAny_isOneOf_keyiter T' (Zh ?_))))));exact Zh ⟨_,rfl,Zh (hQ _ hit' (Xc ..))⟩
theorem yG (hh:A.handled=none) (hit:s.heap.IsKeyIter it d i es.size ep) (hod:s.heap.get? d=some od) (hdd:od.data= .dict es ep) (hi:es.size<=i)
  (hQ: ∀h',Heap.ExtBut it s.heap h'->Q none { s with heap:=h' }):wpAny (model prog w) A (pyNext (.ref it)) Q E s:=by
 obtain ⟨o,ho,hc,hd⟩:=id hit;have T:=hit.typeIs (s:=s);unfold pyNext;refine Za (wpAny_attempt (wpAny_callSpecial?_slot (name:=Str.ofString "__next__") T F.slot_dict_keyiterator_next (Xj F.slot_dict_keyiterator_next T F.entry_dict_keyiterator_next ?_ (F.args_dict_keyiterator_next_1 _))));have f0:Builtin.Dict_items.ownsTuple "dict_keyiterator"=false:=by decide
 have f1: ¬ (Value.ref d==Value.none)=true:=Zt;have f2: ¬ ((i:Int)<0):=by rfl'
 have tn: ∀ {s':Shared} {A':Around} {E':Value->Shared->Prop} {R:String->Shared->Prop},s'.TypeIs (.ref it) "dict_keyiterator"->R "dict_keyiterator" s'->wpAny (model prog w) A' (typeNameOfWhole (.ref it)) R E' s':=λ a b=>wpAny_typeNameOfWhole_keyiter a b
 repeat (first
  | (refine tn T ?_)
  | (refine wpAny_fieldsOf ho hd ?_)
  | (refine wpAny_dictEntries hod hdd ?_)
  | (refine wpAny_dictEpoch hod hdd ?_)
  | (refine wpAny_isOneOf_keyiter T ?_)
  | (refine Zh ?_)
  | (refine Za ?_)
  | (simp only [f0,Ym,if_false])
  | (rw [if_neg f1])
  | (rw [if_neg (by simp)]))
 rw [Zi,Wq hi];dsimp only;refine Za (Za (tn T (Zh ?_)));show wpAny (model prog w) A.in1 (do setField (.ref it) 0 .none;_) _ _ s;refine Za (Wm ho hd (by simp) (Za ?_));have fin: ∀h' x,Heap.ExtBut it s.heap h'->(∃ob,h'.get? x=some ob/\ob.cls= .type "StopIteration")->wpAny (model prog w) A (do let b <- isInstance (.ref x) (.type "StopIteration");if b=true then pure none else throw (.ref x)) Q E { s with heap:=h' }:=λ h' x eb ⟨ob,e1,e2⟩=>Za (wpAny_isInstance (T:="StopIteration") (b:=true) ⟨ob,e1,e2⟩ isSubtype_stop (Zh (hQ h' eb)))
 simp only [newExc,newTuple,raiseNew];repeat (first
  | exact fin _ _ (((Xc ..).extBut.push _).push _) ⟨_,Zo _ rfl,rfl⟩
  | (refine Xi ?_ (by size_fits))
  | (refine wpAny_handled ?_)
  | (refine wpAny_throw ?_)
  | (refine Zh ?_)
  | (rw [show A.in1.handled=none from hh])
  | (refine Za (m:=firstArgMember _ _) (wpAny_of_eq (a:=Value.none) (by first | rfl | (simp only [firstArgMember];rfl)) ?_))
  | (refine Za ?_))
theorem oH {R:Value->Shared->Prop} (hsm:(d==sysModules)=false) (T:s.TypeIs (.ref d) "dict") (hod:s.heap.get? d=some od) (hdd:od.data= .dict es ep)
  (hQ:R (.ref s.heap.objs.size) { s with heap:=s.heap.push { cls:= .type "dict_keyiterator",data:= .fields #[.ref d, .int 0 0, .int es.size 0, .int ep 0] } }):wpAny (model prog w) A (pyIter (.ref d)) R E s:=by
 refine wpAny_pyIter_slot T F.slot_dict_iter (Xj F.slot_dict_iter T F.entry_dict_iter ?_ (F.args_dict_iter_1 _));unfold Builtin.«dict.__iter__» Builtin.Dict.dictSlotNone Builtin.Dict.showsAll;have nq: ¬ ((d==sysModules)=true):=by rw [hsm];exact Zt
 refine Za (Za (wpAny_notOrdered_dict T ?_));show wpAny _ _ (pure (Value.ref d)) _ _ s;refine Zh ?_;show wpAny _ _ ((if (d==sysModules)=true then _ else _) >>= _) _ _ s;rw [if_neg nq];refine Za (Zh (Za (wpAny_dictEntries hod hdd (Za (wpAny_dictEpoch hod hdd ?_)))));exact Za (Xi (Zh ⟨_,rfl,"dict_keyiterator",_,⟨_,Zo _ rfl,rfl⟩,F.slot_dict_keyiterator_next.lookup,by simpa [rawInt] using hQ⟩))
end
theorem qx {α β:Type} {F:α->β->Prop}: ∀ {l₁:List α} {l₂:List β} (i:Nat),Paired F l₁ l₂->i<l₁.length-> ∃a b,l₁[i]? =some a/\l₂[i]? =some b/\F a b
 | _,_,_, .nil,h=>by simp at h
 | _,_,0, .cons r _,_=>⟨_,_,rfl,rfl,r⟩
 | _,_,i+1, .cons _ t,h=>by
  obtain ⟨a,b,h1,h2,h3⟩:=qx i t (by simpa using h);exact ⟨a,b,by simpa using h1,by simpa using h2,h3⟩
def RD (od:Obj) (a:Addr):It:=
 ⟨λ i H=> ∃kvs,H a=some (.frz od (.dT kvs))/\i<kvs.length,
  λ i H v H'=>H'=H/\ ∀kvs,H a=some (.frz od (.dT kvs))-> ∃k x b,kvs[i]? =some (k,x)/\v= .ref b/\H b=some (.tup (k.map kV)),
  λ i H=> ∃kvs,H a=some (.frz od (.dT kvs))/\kvs.length<=i⟩
def RG (tl:TE):TI:=λ σ H R=>tl σ H λ x H1=> ∃a kvs,x= .ref a/\H1 a=some (.dT kvs)/\ ∀od,R (RD od a) (upd H1 a (.frz od (.dT kvs)))
end L2
end
section
namespace L2
open PySem PySem.Spec PyProof.Rows
theorem lg: ∀ {vs:List Value} {ns:List Str},StrsAre vs ns->Vals (ns.map V.str) vs
 | _,_, .nil=> .nil
 | _,_, .cons n t h=> .cons ⟨t,rfl⟩ (lg h)
def rJ (K:W.Frag):List V->Hp->VK->Prop:=λ xs H Q=> ∃ (a:Addr) (ns:List Int),xs=[.ref a]/\SqL K H a (ns.map V.int)/\ns.length<64/\ ∀r (ns':List Int),ns'.Perm ns->ns'.Pairwise (· <= ·)->H r=none->Q (.ref r) (upd H r (.lst (ns'.map V.int)))
theorem vW {X:Cx}:cX X (.builtin "sorted") (rJ X.K):=by
 intro pins s σ H xs us Q I rv h;obtain ⟨a,ns,rfl,hx,h64,q⟩:=h;obtain ⟨u,rfl,ru⟩:=rv.one
 cases (show u=Value.ref a from ru);obtain ⟨its,r,ht,hz⟩:=I.list hx;have hi:=intsAre_of r;have hl:=hi.length;refine sorted_ints (vs:=its) ht.isList hi (by rfl') λ out ns' hI hp hs=> ?_
 obtain ⟨e,he⟩:=sortedAll_at s.heap its out;have hr:H (s.heap.objs.size+1)=none:=I.hok.fresh (Nat.le_succ _);refine ⟨.ref _,_,I.laid (t':=s.toks) (a:=s.heap.objs.size+1) (o:= .lst (ns'.map V.int)) (λ b o hb=>sortedAll_old hb) (Nat.le_succ _) (show ObjOk X.prog X.w _ _ _ (.lst _) from ⟨?_,out.toList,e,j7 hI,?_⟩),rfl,q _ ns' hp hs hr⟩
 ·rw [Qr,hp.length_eq];exact Xh (Nat.lt_trans h64 (by decide))
 ·rw [he]
theorem uA {X:Cx} (K:W.Frag) (hK:X.K=K):cX X (.builtin "sorted") (rJ K):=hK▸vW
end L2
end
section
namespace Sx
open PySem PyProof.Rows
structure Wk (B:Keyed->Keyed->Bool):Prop where
 rf: ∀p,B p p=false
 tr: ∀ {p q r},B q p=false->B r q=false->B r p=false
 an: ∀ {p q},B p q=true->B q p=false
def gt (xs:Array Keyed) (i:Nat):Keyed:=xs[i]?.getD (.none, .none)
def Up (B:Keyed->Keyed->Bool) (xs:Array Keyed) (k:Nat):Prop:= ∀i j,i<=j->j<k->B (gt xs j) (gt xs i)=false
def Dn (B:Keyed->Keyed->Bool) (xs:Array Keyed) (k:Nat):Prop:= ∀i j,i<=j->j<k->B (gt xs i) (gt xs j)=false
def Eb (B:Keyed->Keyed->Bool) (xs:Array Keyed) (l k:Nat):Prop:= ∀i j,l<=i->i<k->l<=j->j<k->B (gt xs i) (gt xs j)=false
structure Bs (kd:SortKind) (a0:Array Keyed) (st:SortSt):Prop where
 pm:(arrOf st).Perm a0
 kn:kindOf st=kd
 fl:failedOf st=none
 pe:pendingOf st= #[]
section
variable {kd:SortKind} {a0 xs:Array Keyed} {st:SortSt} {B:Keyed->Keyed->Bool} {k l m:Nat}
theorem Bs.sz (b:Bs kd a0 st):(arrOf st).size=a0.size:=b.pm.size_eq
theorem Bs.put (b:Bs kd a0 st) (hp:xs.Perm (arrOf st)):Bs kd a0 (setArr st xs):=⟨hp.trans b.pm,b.kn,b.fl,b.pe⟩
theorem Cv {src d:Nat} (hs:src<xs.size) (hd:d<=src):gt (bubble xs src d) k=if k=src-d then gt xs src else if src-d<k/\k<=src then gt xs (k-1) else gt xs k:=by
 unfold gt;rw [getElem?_bubble hs d hd k];split
 ·rfl
 ·split<;>rfl
theorem iU (hm:m<=xs.size):gt (mirror xs l m ((m-l) / 2)) k=if l<=k/\k<m then gt xs (l+m-1-k) else gt xs k:=by
 unfold gt;rw [getElem?_mirror_all hm k];split<;>rfl
theorem Up.one (o:Wk B):Up B xs 1:=λ i j h1 h2=>by
 have:i=j:=by rfl'
 rw [this];exact o.rf _
theorem Up.next (o:Wk B) (u:Up B xs k) (hk:1<=k) (e:B (gt xs k) (gt xs (k-1))=false):Up B xs (k+1):=λ i j h1 h2=>by
 by_cases hj:j<k
 ·exact u i j h1 hj
 ·obtain rfl:j=k:=by rfl'
  by_cases hi:i=j
  ·rw [hi];exact o.rf _
  ·exact o.tr (u i (j-1) (by rfl') (by rfl')) e
theorem Dn.next (o:Wk B) (u:Dn B xs k) (hk:1<=k) (e:B (gt xs (k-1)) (gt xs k)=false):Dn B xs (k+1):=λ i j h1 h2=>by
 by_cases hj:j<k
 ·exact u i j h1 hj
 ·obtain rfl:j=k:=by rfl'
  by_cases hi:i=j
  ·rw [hi];exact o.rf _
  ·exact o.tr e (u i (j-1) (by rfl') (by rfl'))
theorem Eb.one (o:Wk B):Eb B xs (k-1) k:=λ i j h1 h2 h3 h4=>by
 have:i=j:=by rfl'
 rw [this];exact o.rf _
theorem Eb.next (o:Wk B) (u:Eb B xs l k) (hl:l<k) (e1:B (gt xs k) (gt xs (k-1))=false) (e2:B (gt xs (k-1)) (gt xs k)=false):Eb B xs l (k+1):=λ i j h1 h2 h3 h4=>by
 by_cases hi:i<k
 ·by_cases hj:j<k
  ·exact u i j h1 hi h3 hj
  ·obtain rfl:j=k:=by rfl'
   exact o.tr e2 (u i (j-1) h1 hi (by rfl') (by rfl'))
 ·obtain rfl:i=k:=by rfl'
  by_cases hj:j<i
  ·exact o.tr (u (i-1) j (by rfl') (by rfl') h3 hj) e1
  ·obtain rfl:j=i:=by rfl'
   exact o.rf _
theorem Dn.mir (u:Dn B xs m) (q:Eb B xs l m) (hm:m<=xs.size):Dn B (mirror xs l m ((m-l) / 2)) m:=λ i j h1 h2=>by
 rw [iU hm,iU hm];by_cases a:l<=i/\i<m
 ·rw [if_pos a,if_pos (by rfl')];exact q _ _ (by rfl') (by rfl') (by rfl') (by rfl')
 ·rw [if_neg a];by_cases c:l<=j/\j<m
  ·rw [if_pos c];exact u _ _ (by rfl') (by rfl')
  ·rw [if_neg c];exact u i j h1 h2
theorem Dn.up (u:Dn B xs m) (hm:m<=xs.size):Up B (mirror xs 0 m ((m-0) / 2)) m:=λ i j h1 h2=>by
 rw [iU hm,iU hm,if_pos (by rfl'),if_pos (by rfl')];exact u _ _ (by rfl') (by rfl')
end
def G6 (M:Model) (A:Around) (E:Value->Shared->Prop) (s:Shared) (kd:SortKind) (a0:Array Keyed) (B:Keyed->Keyed->Bool):Prop:=
 ∀ (st:SortSt) (i j:Nat) (Q:Option Bool->SortSt->Prop),Bs kd a0 st->i≠j->i<a0.size->j<a0.size->Q (some (B (gt (arrOf st) i) (gt (arrOf st) j))) st->wpS M A E s (ltAt' i j) Q st
section
variable {prog:Program} {w:World} {A:Around} {E:Value->Shared->Prop} {s:Shared} {kd:SortKind} {a0:Array Keyed} {B:Keyed->Keyed->Bool} {st:SortSt} {n k:Nat}
theorem yH (o:Wk B) (hA:G6 (model prog w) A E s kd a0 B) {Q:AscSt->SortSt->Prop} (hn:n<=a0.size) (hk:1<=k) (hkn:k<=n) (b:Bs kd a0 st) (u:Up B (arrOf st) k)
  (h: ∀m,k<=m->m<=n->Up B (arrOf st) m->(m=n\/B (gt (arrOf st) m) (gt (arrOf st) (m-1))=true)->Q (none,m) st):wpS (model prog w) A E s (ascLoop k n) Q st:=by
 unfold ascLoop;refine wpS_forRange (I:=λ m c t=>c=(none,m)/\t=st/\Up B (arrOf st) m) (λ m c t h1 h2 hi=> ?_) (λ c t hi=> ?_) ⟨rfl,rfl,u⟩
 ·obtain ⟨rfl,rfl,um⟩:=hi;refine Xq (hA _ _ _ _ b (show m≠m-1 by rfl') (show m<_ by rfl') (show m-1<_ by rfl') ?_);dsimp only
  cases e:B (gt (arrOf t) m) (gt (arrOf t) (m-1)) with
  | true=>rw [if_pos rfl];exact wpS_pure (h m h1 (by rfl') um (.inr e))
  | false=>rw [if_neg Zt];exact wpS_pure ⟨rfl,rfl,um.next o (by rfl') e⟩
 ·obtain ⟨rfl,rfl,um⟩:=hi;rw [show max k n=n from Nat.max_eq_right hkn] at um ⊢;exact h n hkn (Zn _) um (.inl rfl)
theorem yI (o:Wk B) (hA:G6 (model prog w) A E s kd a0 B) {Q:Option Nat->SortSt->Prop} (hn:n<=a0.size) (hk:1<=k) (hkn:k<=n) (b:Bs kd a0 st) (u:Dn B (arrOf st) k)
  (h: ∀m t,Bs kd a0 t->1<=m->m<=n->Up B (arrOf t) m->Q (some m) t):wpS (model prog w) A E s (tail3 k n) Q st:=by
 unfold tail3;refine Xq (wpS_reverse ?_);have b':=b.put (mirror_perm (arrOf st) 0 k ((k-0) / 2));exact Xq (yH o hA hn hk hkn b' (u.up (by rw [b.sz];rfl')) λ m h1 h2 um _=>wpS_pure (h m _ b' (by rfl') h2 um))
theorem Cw (o:Wk B) (hA:G6 (model prog w) A E s kd a0 B) {Q:DescSt->SortSt->Prop} (hn:n<=a0.size) (hk:1<=k) (hkn:k<=n) (b:Bs kd a0 st) (u:Dn B (arrOf st) k)
  (h: ∀m e t,Bs kd a0 t->k<=m->m<=n->Dn B (arrOf t) m->e+1<=m->Eb B (arrOf t) (m-(e+1)) m->Q (none,m,e) t):wpS (model prog w) A E s (descLoop k n) Q st:=by
 unfold descLoop;refine wpS_forRange (I:=λ m c t=> ∃e,c=(none,m,e)/\Bs kd a0 t/\Dn B (arrOf t) m/\e+1<=m/\Eb B (arrOf t) (m-(e+1)) m) (λ m c t h1 h2 hi=> ?_) (λ c t hi=> ?_) ⟨0,rfl,b,u,hk,Eb.one o⟩
 ·obtain ⟨e,rfl,bt,um,he,q⟩:=hi;have hsz:m<=(arrOf t).size:=by rw [bt.sz];rfl'
  refine Xq (hA _ _ _ _ bt (show m≠m-1 by rfl') (show m<_ by rfl') (show m-1<_ by rfl') ?_);dsimp only
  cases e1:B (gt (arrOf t) m) (gt (arrOf t) (m-1)) with
  | true=>
   rw [if_pos rfl];have dn:Dn B (arrOf t) (m+1):=um.next o (by rfl') (o.an e1);by_cases h0:e>0
   ·rw [if_pos h0];refine Xq (wpS_reverse (wpS_pure ⟨0,rfl,bt.put (mirror_perm _ _ _ _),λ i j g1 g2=> ?_,by rfl',Eb.one o⟩));by_cases hj:j<m
    ·exact (um.mir q hsz) i j g1 hj
    ·obtain rfl:j=m:=by rfl'
     show B (gt (mirror (arrOf t) _ _ _) i) (gt (mirror (arrOf t) _ _ _) j)=false;rw [iU hsz,iU hsz,if_neg (show ¬ (_/\j<j) by rfl')];split
     ·exact dn _ _ (by rfl') (by rfl')
     ·exact dn _ _ g1 g2
   ·rw [if_neg h0];exact wpS_pure ⟨0,rfl,bt,dn,by rfl',Eb.one o⟩
  | false=>
   rw [if_neg Zt];refine Xq (hA _ _ _ _ bt (show m-1≠m by rfl') (show m-1<_ by rfl') (show m<_ by rfl') ?_);dsimp only
   cases e2:B (gt (arrOf t) (m-1)) (gt (arrOf t) m) with
   | true=>rw [if_pos rfl];exact wpS_pure (h m e t bt h1 (by rfl') um he q)
   | false=>
    rw [if_neg Zt];refine wpS_pure ⟨e+1,rfl,bt,um.next o (by rfl') e2,by rfl',?_⟩;rw [show m+1-(e+1+1)=m-(e+1) by rfl'];exact q.next o (by rfl') e1 e2
 ·obtain ⟨e,rfl,bt,um,he,q⟩:=hi;rw [show max k n=n from Nat.max_eq_right hkn] at um he q ⊢;exact h n e t bt hkn (Zn _) um he q
theorem qy (o:Wk B) (hA:G6 (model prog w) A E s kd a0 B) {Q:Option Nat->SortSt->Prop} (hn:n<=a0.size) (hkn:k+1<=n) (b:Bs kd a0 st) (u:Dn B (arrOf st) (k+1))
  (h: ∀m t,Bs kd a0 t->1<=m->m<=n->Up B (arrOf t) m->Q (some m) t):wpS (model prog w) A E s (descPart k n) Q st:=by
 unfold descPart;refine Xq (wpS_lift (wpAny_rule ⟨rfl,Xq (Cw o hA hn (by rfl') hkn b u λ m e t bt h1 h2 um he q=> ?_)⟩));dsimp only;have hsz:m<=(arrOf t).size:=by rw [bt.sz];rfl'
 by_cases h0:e>0
 ·rw [if_pos h0];exact Xq (wpS_reverse (yI o hA hn (by rfl') h2 (bt.put (mirror_perm _ _ _ _)) (um.mir q hsz) h))
 ·rw [if_neg h0];exact yI o hA hn (by rfl') h2 bt um h
theorem Ab (o:Wk B) (hA:G6 (model prog w) A E s kd a0 B) {Q:Option Nat->SortSt->Prop} (hn:n<=a0.size) (h1n:1<=n) (b:Bs kd a0 st)
  (h: ∀m t,Bs kd a0 t->1<=m->m<=n->Up B (arrOf t) m->Q (some m) t):wpS (model prog w) A E s (countRun' 0 n) Q st:=by
 rw [countRun0_eq];refine Xq (yH o hA hn (Zn 1) h1n b (Up.one o) λ m h1 h2 um hor=> ?_);dsimp only;by_cases hm:m=n
 ·rw [if_pos (by simpa using hm)];exact wpS_pure (h m st b h1 h2 um)
 ·rw [if_neg (by simpa using hm)];have hlt:=hor.resolve_left hm;have hsz:m<=(arrOf st).size:=by rw [b.sz];rfl'
  by_cases g:m>1
  ·rw [if_pos g];refine Xq (hA _ _ _ _ b (by rfl') (show 0<_ by rfl') (show m-1<_ by rfl') ?_);dsimp only
   cases e:B (gt (arrOf st) 0) (gt (arrOf st) (m-1)) with
   | true=>rw [if_pos rfl];exact wpS_pure (h m st b h1 h2 um)
   | false=>
    rw [if_neg Zt];have q:Eb B (arrOf st) 0 m:=λ i j _ hi _ hj=>o.tr (um j (m-1) (by rfl') (by rfl')) (o.tr e (um 0 i (by rfl') hi))
    have dn:Dn B (arrOf st) (m+1):=Dn.next o (λ i j _ hj=>q i j (by rfl') (by rfl') (by rfl') hj) h1 (o.an hlt);refine Xq (wpS_reverse (qy o hA hn (by rfl') (b.put (mirror_perm _ _ _ _)) (λ i j g1 g2=> ?_) h));show B (gt (mirror (arrOf st) _ _ _) i) (gt (mirror (arrOf st) _ _ _) j)=false;rw [iU hsz,iU hsz];by_cases hj:j<m
    ·rw [if_pos (by rfl'),if_pos (by rfl')];exact q _ _ (by rfl') (by rfl') (by rfl') (by rfl')
    ·rw [if_neg (show ¬ (0<=j/\j<m) by rfl')];split
     ·exact dn _ _ (by rfl') g2
     ·exact dn _ _ g1 g2
  ·rw [if_neg g];obtain rfl:m=1:=by rfl'
   exact qy o hA hn (by rfl') b (Dn.next o (λ i j g1 g2=>by rw [show i=j by rfl'];exact o.rf _) (Zn 1) (o.an hlt)) h
theorem GX (o:Wk B) (hA:G6 (model prog w) A E s kd a0 B) {Q:Bool->SortSt->Prop} (hn:n<=a0.size) (hkn:k<=n) (b:Bs kd a0 st) (u:Up B (arrOf st) k)
  (h: ∀t,Bs kd a0 t->Up B (arrOf t) n->Q true t):wpS (model prog w) A E s (binarySort' 0 n k) Q st:=by
 rw [binarySort'_eq];simp only [Nat.zero_add];refine Xq (wpS_mono (wpS_forRange (I:=λ m c t=>c=(none,())/\Bs kd a0 t/\Up B (arrOf t) (min m n)) (Q:=λ c t=>c=(none,())/\Bs kd a0 t/\Up B (arrOf t) n) (λ m c t h1 h2 hi=> ?_) (λ c t hi=> ?_) ⟨rfl,b,λ i j g1 g2=> ?_⟩) λ c t hc=> ?_)
 ·obtain ⟨rfl,bt,um⟩:=hi;rw [Nat.min_eq_left (Xh h2)] at um;have hm:m<a0.size:=by rfl'
  refine Xq (wpS_mono (wpS_forRange (I:=λ x c t'=>t'=t/\ ∃l r,c=(none,l,r)/\l<=r/\r<=m/\r+x<=m+l/\(∀i,i<l->B (gt (arrOf t) m) (gt (arrOf t) i)=false)/\ ∀i,r<=i->i<m->B (gt (arrOf t) i) (gt (arrOf t) m)=false)
   (Q:=λ c t'=>t'=t/\ ∃l r,c=(none,l,r)/\l<=m/\(∀i,i<l->B (gt (arrOf t) m) (gt (arrOf t) i)=false)/\ ∀i,l<=i->i<m->B (gt (arrOf t) i) (gt (arrOf t) m)=false)
   (λ x c t' g1 g2 hi=> ?_) (λ c t' hi=> ?_) ⟨rfl,0,m,rfl,by rfl',by rfl',by rfl',λ i z=>by rfl',λ i z1 z2=>by rfl'⟩) λ c t' hc=> ?_)
  ·obtain ⟨rfl,l,r,rfl,hlr,hrm,hx,lo,hi'⟩:=hi;dsimp only;by_cases ge:l>=r
   ·rw [if_pos ge];obtain rfl:l=r:=by rfl'
    exact wpS_pure ⟨rfl,l,l,rfl,hrm,lo,hi'⟩
   ·rw [if_neg ge];have h1:l<=(l+r) / 2:=by clear hx lo hi' um hrm h1 h2 g1 g2 hm hn hkn;rfl'
    have h2:(l+r) / 2<r:=by clear hx lo hi' um hrm h1 h2 g1 g2 hm hn hkn;rfl'
    generalize (l+r) / 2=c at h1 h2 ⊢;have hcm:=Zs h2 hrm;refine Xq (hA _ _ _ _ bt (by rfl') hm (show c<_ from Nat.lt_trans hcm hm) ?_);dsimp only
    cases e:B (gt (arrOf t') m) (gt (arrOf t') c) with
    | true=>
     simp only [if_true];exact wpS_pure ⟨rfl,l,c,rfl,h1,Xh hcm,by clear h1 hcm hm;rfl',lo,λ i z1 z2=>o.tr (o.an e) (um _ _ z1 z2)⟩
    | false=>
     simp only [Ym,if_false];exact wpS_pure ⟨rfl,c+1,r,rfl,h2,hrm,by clear hcm hm;rfl',λ i z=>o.tr (um i c (Nat.le_of_lt_succ z) hcm) e,hi'⟩
  ·obtain ⟨rfl,l,r,rfl,hlr,hrm,hx,lo,hi'⟩:=hi;obtain rfl:l=r:=by rfl'
   exact ⟨rfl,l,l,rfl,hrm,lo,hi'⟩
  ·obtain ⟨rfl,l,r,rfl,hlm,lo,hi'⟩:=hc;show wpS _ _ _ _ (do moveDown' m l;pure (ForInStep.yield (none,()))) _ _;rw [moveDown'_eq];refine Xq (wpS_modify (wpS_pure ⟨rfl,bt.put (bubble_perm _ _ _),?_⟩));rw [show min (m+1) n=m+1 by rfl'];have hsz:m<(arrOf t').size:=by rw [bt.sz];exact hm
   intro i j g1 g2;show B (gt (bubble (arrOf t') m (m-l)) j) (gt (bubble (arrOf t') m (m-l)) i)=false;rw [Cv hsz (by rfl'),Cv hsz (by rfl'),Nat.sub_sub_self hlm];by_cases i1:i=l
   ·rw [if_pos i1];by_cases j1:j=l
    ·rw [if_pos j1];exact o.rf _
    ·rw [if_neg j1,if_pos (by rfl')];exact hi' (j-1) (by rfl') (by rfl')
   ·rw [if_neg i1];by_cases i2:l<i/\i<=m
    ·rw [if_pos i2,if_neg (by rfl'),if_pos (by rfl')];exact um _ _ (by rfl') (by rfl')
    ·rw [if_neg i2];by_cases j1:j=l
     ·rw [if_pos j1];exact lo i (by rfl')
     ·rw [if_neg j1];by_cases j2:l<j/\j<=m
      ·rw [if_pos j2];exact um _ _ (by rfl') (by rfl')
      ·rw [if_neg j2];exact um _ _ g1 (by rfl')
 ·obtain ⟨hc,bt,um⟩:=hi;refine ⟨hc,bt,?_⟩;rwa [show min (max (max k 1) n) n=n by rfl'] at um
 ·by_cases h0:k=0
  ·rw [show i=j by rfl'];exact o.rf _
  ·exact u i j g1 (by rfl')
 ·obtain ⟨rfl,bt,um⟩:=hc;exact wpS_pure (h t bt um)
def Dd (B:Keyed->Keyed->Bool) (a0:Array Keyed) (st:SortSt):Prop:=(arrOf st).Perm a0/\failedOf st=none/\pendingOf st= #[(0,a0.size,0)]/\Up B (arrOf st) a0.size
theorem Bs.dd (b:Bs kd a0 st) (u:Up B (arrOf st) a0.size):Dd B a0 (setPending st ((pendingOf st).push (0,a0.size,0))):=⟨b.pm,b.fl,by show (pendingOf st).push (0,a0.size,0)=_;rw [b.pe];rfl,u⟩
theorem GZ (o:Wk B) (hA:G6 (model prog w) A E s kd a0 B) {Q:Unit->SortSt->Prop} (b:Bs kd a0 st) (h2:2<=a0.size) (h64:a0.size<64)
  (h: ∀t,(arrOf t).Perm a0->failedOf t=none->Up B (arrOf t) a0.size->Q () t):wpS (model prog w) A E s sortRuns' Q st:=by
 rw [sortRuns'_eq];refine Xq (wpS_get ?_);have hmr: ∀f,minRun' (f+1) a0.size 0=a0.size:=λ f=>by rw [minRun'_succ,if_pos h64];rfl
 have hmr':minRun' a0.size a0.size 0=a0.size:=by
  have:=hmr (a0.size-1);rwa [show a0.size-1+1=a0.size by rfl'] at this
 dsimp only;simp only [b.sz,hmr'];refine Xq (wpS_mono (wpS_forRange (I:=λ x c t=>(x=0/\c=(none,0)/\Bs kd a0 t)\/(1<=x/\c=(none,a0.size)/\Dd B a0 t)) (Q:=λ c t=>c=(none,a0.size)/\Dd B a0 t) (λ x c t _ _ hi=> ?_) (λ c t hi=> ?_) (.inl ⟨rfl,rfl,b⟩)) λ c t hc=> ?_)
 ·rcases hi with ⟨rfl,rfl,bt⟩ | ⟨hx,rfl,dt⟩
  ·dsimp only;rw [if_neg (by rfl')];simp only [Nat.sub_zero,Nat.min_self,Nat.zero_add];refine Xq (Ab o hA (Zn _) (by rfl') bt λ m t2 b2 m1 m2 u2=> ?_);dsimp only;by_cases hlt:m<a0.size
   ·rw [if_pos hlt];refine Xq (wpS_lift (wpAny_rule ⟨rfl,Xq (GX o hA (Zn _) m2 b2 u2 λ t3 b3 u3=> ?_)⟩));simp only [Bool.not_true,Ym,if_false];refine Xq (wpS_get ?_);rw [show (pendingOf t3).back?=none by rw [b3.pe];rfl];exact Xq (wpS_modify (wpS_pure (.inr ⟨by rfl',rfl,b3.dd u3⟩)))
   ·rw [if_neg hlt];obtain rfl:m=a0.size:=by rfl'
    refine Xq (wpS_get ?_);rw [show (pendingOf t2).back?=none by rw [b2.pe];rfl];exact Xq (wpS_modify (wpS_pure (.inr ⟨by rfl',rfl,b2.dd u2⟩)))
  ·dsimp only;rw [if_pos (Zn _)];exact wpS_pure ⟨rfl,dt⟩
 ·rcases hi with ⟨hx,_⟩ | ⟨_,hc,dt⟩
  ·rfl'
  ·exact ⟨hc,dt⟩
 ·obtain ⟨rfl,dt⟩:=hc;dsimp only;refine Xq (wpS_mono (wpS_forRange (I:=λ _ c t'=>t'=t/\c=(none,())) (Q:=λ c t'=>t'=t/\c=(none,())) (λ x c t' _ _ hi=> ?_) (λ _ _ z=>z) ⟨rfl,rfl⟩) λ c t' hc=> ?_)
  ·obtain ⟨rfl,rfl⟩:=hi;refine Xq (wpS_get ?_);rw [if_pos (by rw [dt.2.2.1];exact Zn 1)];exact wpS_pure ⟨rfl,rfl⟩
  ·obtain ⟨rfl,rfl⟩:=hc;exact wpS_pure (h _ dt.1 dt.2.1 dt.2.2.2)
def Kp (s s':Shared):Prop:=(∀b o,s.heap.get? b=some o->s'.heap.get? b=some o)/\s'={ s with heap:=s'.heap }
def mid (h:Heap) (a:Addr) (vs:List Value):Heap:=((h.update a (Obj.mapSeq λ _=> #[])).push (seqObj "tuple" vs.toArray 0)).push (seqObj "list" #[] 0)
theorem uB (o:Wk B) {a:Addr} {vs:List Value} {n:Nat} {P:Fin->Shared->Prop} (ho:s.heap.get? a=some (seqObj "list" vs.toArray n)) (h64:vs.length<64)
  (hK:2<=vs.length->wpAny (model prog w) A (keyKind' vs.toArray) (λ k s'=>s'={ s with heap:=mid s.heap a vs }/\k=kd) E { s with heap:=mid s.heap a vs })
  (hA:G6 (model prog w) A E { s with heap:=mid s.heap a vs } kd (pairsOf vs) B)
  (h: ∀out:Array Keyed,out.Perm (pairsOf vs)->Up B out vs.length->P (.done (.ret .none)) { s with heap:=sortedHeap s.heap a vs (out.map (·.2)) }):
  wpAny (model prog w) A (Builtin.«list.sort» ⟨[.ref a],[]⟩) P E s:=by
 rw [list_sort_plain];have ha:a<s.heap.objs.size:=Zm ho;obtain ⟨e1,h1⟩: ∃e1,(s.heap.update a (Obj.mapSeq λ _=> #[])).get? a=some (seqObj "list" #[] e1):=⟨_,get?_update_seq ho (λ _=> #[])⟩;have h6:(mid s.heap a vs).get? a=some (seqObj "list" #[] e1):=by
  unfold mid;exact Zd _ (Zd _ h1)
 have hps:(pairsOf vs).size=vs.length:=pairsOf_size vs;refine Za (listItems_at ho rfl (Za (listUpdate_at ho rfl (Za (seqEpoch_at h1 rfl (Za (wpAny_newTuple (Za (wpAny_newList (Wi ?_))))))))));show wpAny (model prog w) A _ P E { s with heap:=mid s.heap a vs };dsimp only;have hz:vs.toArray.size=vs.length:=by simp
 rw [hz];by_cases h2:vs.length<2
 ·rw [if_pos h2,if_pos h2];refine Za (Zh ?_);rw [StateT.run_pure];refine Za (Zh (Za (seqEpoch_at h6 rfl (Za (listUpdate_at h6 rfl ?_ (hsz2:= ?_))))))
  ·simp only [Xk,Ym,if_false];exact Zh (h (pairsOf vs) (Array.Perm.refl _) λ i j g1 g2=>by rw [show i=j by rfl'];exact o.rf _)
  ·rw [Array.size_map];show (pairsOf vs).size<=_;rw [hps,Xp];rfl'
 ·rw [if_neg h2,if_neg h2];refine Za (Xe (hK (by rfl')) ?_ λ _ _ z=>z);rintro k s' ⟨rfl,rfl⟩;refine Za (Xe (GZ o hA (st:=SortSt.mk' k (vs.toArray.zip vs.toArray) #[] 7 none) (Q:=λ _ t=>(arrOf t).Perm (pairsOf vs)/\failedOf t=none/\Up B (arrOf t) (pairsOf vs).size)
   ⟨Array.Perm.refl _,rfl,rfl,rfl⟩ (by rfl') (by rfl') λ t z1 z2 z3=>⟨z1,z2,z3⟩) ?_ λ _ _ z=>z)
  rintro ⟨⟨⟩,t⟩ s' ⟨rfl,z1,z2,z3⟩;refine Za (seqEpoch_at h6 rfl (Za (listUpdate_at h6 rfl ?_ (hsz2:= ?_))))
  ·dsimp only;rw [z2];simp only [Xk,Ym,if_false];rw [hps] at z3;exact Zh (h _ z1 z3)
  ·rw [Array.size_map];show (arrOf t).size<=_;rw [z1.size_eq,hps,Xp];rfl'
theorem vX (o:Wk B) {l:Addr} {vs:List Value} {Q:Value->Shared->Prop} (hl:s.heap.IsList l vs.toArray) (h64:vs.length<64)
  (hK: ∀ (A':Around) (E':Value->Shared->Prop) s',Kp s s'->2<=vs.length->wpAny (model prog w) A' (keyKind' vs.toArray) (λ k s''=>s''=s'/\k=kd) E' s')
  (hA: ∀ (A':Around) (E':Value->Shared->Prop) s',Kp s s'->G6 (model prog w) A' E' s' kd (pairsOf vs) B)
  (h: ∀out:Array Keyed,out.Perm (pairsOf vs)->Up B out vs.length->Q (.ref (s.heap.objs.size+1)) { s with heap:=sortedAll s.heap vs (out.map (·.2)) }):
  wpAny (model prog w) A (call (.builtin "sorted") [.ref l]) Q E s:=by
 refine Calls.call_function_entry kind_sorted plain_sorted entry_sorted (args_sorted1 _) ?_;unfold Builtin.«sorted»;refine Za (m:=checkCount "sorted" 1 1 _) (Zh (Za (collect_list hl (Za (wpAny_newList ?_)))));have z:((s.heap.push (seqObj "list" #[] 0)).update s.heap.objs.size (Obj.mapSeq (· ++vs.toArray))).objs.size=s.heap.objs.size+1:=by rw [Heap.size_update,size_push']
 have g:(((s.heap.push (seqObj "list" #[] 0)).update s.heap.objs.size (Obj.mapSeq (· ++vs.toArray))).push (seqObj "list" vs.toArray 0)).get? (s.heap.objs.size+1)=some (seqObj "list" vs.toArray 0):=by
  rw [<- z];exact Zo _ rfl
 have kp:Kp s { s with heap:=mid (((s.heap.push (seqObj "list" #[] 0)).update s.heap.objs.size (Obj.mapSeq (· ++vs.toArray))).push (seqObj "list" vs.toArray 0)) (s.heap.objs.size+1) vs }:=by
  refine ⟨λ b ob hb=> ?_,rfl⟩;have lt:b<s.heap.objs.size:=Zm hb;unfold mid;refine Zd _ (Zd _ ?_);rw [Heap.get?_update_ne _ _ _ _ (Yc (Nat.lt_succ_of_lt lt))];refine Zd _ ?_;rw [Heap.get?_update_ne _ _ _ _ (Yc lt)];exact Zd _ hb
 show wpAny _ _ _ _ _ { s with heap:=((s.heap.push (seqObj "list" #[] 0)).update s.heap.objs.size (Obj.mapSeq (· ++vs.toArray))).push (seqObj "list" vs.toArray 0) };rw [z];refine Za (Wi (Xj slot_list_sort ⟨_,g,rfl⟩ entry_list_sort (uB o g h64 (λ h2=>hK _ _ _ kp h2) (hA _ _ _ kp) λ out z1 z2=>⟨_,rfl,?_⟩) (args_list_sort _)));exact Zh ⟨_,rfl,h out z1 z2⟩
end
theorem rK (b:Bool) (x y:Value):keyLt' (tuples' b) x y=(do
  let xs <- Builtin.List.listItems x;let ys <- Builtin.List.listItems y
  for ((p,q),i) in (xs.toList.zip ys.toList).zipIdx do
   if !(<- eqBool p q) then return <- oneLt' (b&&i==0) p q
  return xs.size<ys.size):=rfl
theorem Cy (v:Value):firstOfTuple' v=(do
  if (<- typeOf v)!= .type "tuple" then return none
  return (<- Builtin.List.listItems v)[0]?):=rfl
def Fs (h:Heap) (f:Value->Str) (v:Value):Prop:= ∃b ob its tk n rest,v= .ref b/\h.get? b=some ob/\ob.cls= .type "tuple"/\ob.data= .seq its n/\its.toList= .str (f v) tk::rest
section
variable {prog:Program} {w:World} {A:Around} {E:Value->Shared->Prop} {s:Shared} {f:Value->Str}
theorem uC {α β:Type} {g:α->Sem β} {r:α->β}: ∀ {vs:List α} {Q:List β->Shared->Prop},(∀v∈vs,∀R:β->Shared->Prop,R (r v) s->wpAny (model prog w) A (g v) R E s)->Q (vs.map r) s->wpAny (model prog w) A (vs.mapM g) Q E s
 | [],Q,_,q=>by rw [List.mapM_nil];exact Zh q
 | v::vs,Q,h,q=>by
  rw [List.mapM_cons];exact Za (h v Zy _ (Za (uC (λ u hu=>h u (Zr _ hu)) (Zh q))))
theorem Fs.keep {s':Shared} {v:Value} (k:Kp s s') (h:Fs s.heap f v):Fs s'.heap f v:=by
 obtain ⟨b,ob,its,tk,n,rest,e1,e2,e3⟩:=h;exact ⟨b,ob,its,tk,n,rest,e1,k.1 _ _ e2,e3⟩
theorem mD {vs:List Value} (h2:vs≠[]) (hF: ∀v∈vs,Fs s.heap f v):wpAny (model prog w) A (keyKind' vs.toArray) (λ k s'=>s'=s/\k=tuples' true) E s:=by
 rw [keyKind'_eq,List.mapM_toArray];have ht: ∀v∈vs,∃tk,∀R:Option Value->Shared->Prop,R (some (.str (f v) tk)) s->wpAny (model prog w) A (firstOfTuple' v) R E s:=by
  intro v hv;obtain ⟨b,ob,its,tk,n,rest,rfl,e2,e3,e4,e5⟩:=hF v hv;refine ⟨tk,λ R r=> ?_⟩;rw [Cy];refine Za (wpAny_typeOf_ref e2 ?_);rw [e3];refine Za (listItems_at e2 e4 (Zh ?_));have:its[0]? =some (.str (f (.ref b)) tk):=by rw [<- Xr,e5];rfl
  rw [this];exact r
 let tk:Value->Tok:=λ v=>if hv:v∈vs then (ht v hv).choose else 0
 have htk: ∀v∈vs,∀R:Option Value->Shared->Prop,R (some (.str (f v) (tk v))) s->wpAny (model prog w) A (firstOfTuple' v) R E s:=by
  intro v hv R r;refine (ht v hv).choose_spec R ?_;have:tk v=(ht v hv).choose:=dif_pos hv;rwa [<- this]
 have sa: ∀us:List Value,StrsAre (us.map λ v=> .str (f v) (tk v)) (us.map f):=by
  intro us;induction us with
  | nil=>exact .nil
  | cons u us ih=>exact .cons _ _ ih
 rw [map_eq_pure_bind,bind_assoc];refine Za (uC (r:=λ v=>some (.str (f v) (tk v))) htk ?_);rw [pure_bind];have a1:((vs.map λ v=>some (Value.str (f v) (tk v))).toArray.all (·.isSome))=true:=by
  rw [List.all_toArray,List.all_map,List.all_eq_true];intro _ _;rfl
 have a2:(vs.map λ v=>some (Value.str (f v) (tk v))).toArray.filterMap id=(vs.map λ v=>Value.str (f v) (tk v)).toArray:=by
  rw [List.filterMap_toArray,List.filterMap_map];congr 1;show vs.filterMap (λ v=>some (Value.str (f v) (tk v)))=_;rw [List.filterMap_eq_map']
 rw [if_pos a1,a2,oneTypeOnly'_eq,List.mapM_toArray,mapM_typeOf_strs (sa vs)];simp only [map_pure,pure_bind];refine Za (wpAny_rule ?_);obtain ⟨v,vs',rfl⟩:=List.exists_cons_of_ne_nil h2;have a3:((List.map (λ _=>Value.type "str") ((v::vs').map λ v=>Value.str (f v) (tk v))).toArray.all λ x=>x==Value.type "str")=true:=by
  rw [List.all_toArray,List.all_map,List.all_eq_true];intro _ _;rfl
 have a4:(List.map (λ _=>Value.type "str") ((v::vs').map λ v=>Value.str (f v) (tk v))).toArray[0]? =some (Value.type "str"):=by simp
 rw [a4];simp only [a3,if_true,pure_bind];exact Zh ⟨rfl,rfl⟩
def Bf (f:Value->Str) (p q:Keyed):Bool:=strKind.blt (f p.1).cps.toList (f q.1).cps.toList
theorem Oa:Wk (Bf f):=⟨λ p=>strKind.irrefl _,λ {p q r} h1 h2=>KeyOrd.kle_trans (O:=strKind.toKeyOrd) h1 h2,λ {p q} h=>KeyOrd.klt_asymm (O:=strKind.toKeyOrd) h⟩
theorem oJ {vs:List Value} (hF: ∀v∈vs,Fs s.heap f v) (hd:(vs.map f).Nodup):G6 (model prog w) A E s (tuples' true) (pairsOf vs) (Bf f):=by
 intro st i j Q b hij hi hj q;have hi':i<(arrOf st).size:=by rw [b.sz];exact hi
 have hj':j<(arrOf st).size:=by rw [b.sz];exact hj
 have mem: ∀k (hk:k<(arrOf st).size),((arrOf st)[k]).1∈vs:=by
  intro k hk;have hm:(arrOf st)[k]∈(pairsOf vs).toList:=(Array.perm_iff_toList_perm.mp b.pm).mem_iff.mp (by simp);rw [pairsOf_toList] at hm;exact (mem_zip_self hm).2
 have ne:f ((arrOf st)[i]).1≠f ((arrOf st)[j]).1:=by
  have hp:((arrOf st).toList.map λ p=>f p.1).Perm (vs.map f):=by
   have:=(Array.perm_iff_toList_perm.mp b.pm).map (λ p:Keyed=>f p.1);rw [pairsOf_toList] at this;have e:(vs.zip vs).map (λ p:Keyed=>f p.1)=vs.map f:=by
    rw [show (λ p:Keyed=>f p.1)=f∘Prod.fst from rfl,<- Zk,List.map_fst_zip (Zn _)]
   rwa [e] at this
  have nd:=(hp.nodup_iff).mpr hd;intro e;exact hij ((List.getElem_inj (h₀:=by simpa using hi') (h₁:=by simpa using hj') nd).mp (by simpa using e))
 have gi:gt (arrOf st) i=(arrOf st)[i]:=by unfold gt;rw [getElem?_pos _ i hi'];rfl
 have gj:gt (arrOf st) j=(arrOf st)[j]:=by unfold gt;rw [getElem?_pos _ j hj'];rfl
 rw [gi,gj] at q;rw [ltAt'_eq];refine Xq (wpS_get ?_);show wpS _ _ _ _ (do let x <- elem' (arrOf st) i;let y <- elem' (arrOf st) j;lt' x y) Q st;rw [elem'_eq,elem'_eq,getElem?_pos _ i hi',getElem?_pos _ j hj'];refine Xq (wpS_pure (Xq (wpS_pure ?_)));rw [lt'_eq];refine Xq (wpS_get ?_);rw [b.kn];obtain ⟨b1,o1,is1,t1,n1,r1,v1,x1,y1,z1,w1⟩:=hF _ (mem i hi');obtain ⟨b2,o2,is2,t2,n2,r2,v2,x2,y2,z2,w2⟩:=hF _ (mem j hj');refine Xq (wpS_lift (wpAny_attempt ?_));rw [rK];generalize hp:(arrOf st)[i]=p at*;generalize hq:(arrOf st)[j]=p' at*;rw [v1,v2];refine Za (listItems_at x1 z1 (Za (listItems_at x2 z2 ?_)));rw [w1,w2,List.zip_cons_cons,List.zipIdx_cons,List.forIn_cons];refine Za (Za (Za (eqBool_str ?_)));rw [if_pos (by rw [beq_eq_false_iff_ne.mpr ne];rfl)];refine Za (strKind_oneLt prog w A _ s _ _ (f p.1).cps.toList (f p'.1).cps.toList rfl rfl (Zh (Zh (Zh ⟨rfl,wpS_pure ?_⟩))));exact q
theorem pN {l:Addr} {vs:List Value} {Q:Value->Shared->Prop} (hl:s.heap.IsList l vs.toArray) (h64:vs.length<64) (hF: ∀v∈vs,Fs s.heap f v) (hd:(vs.map f).Nodup)
  (h: ∀out:List Value,out.Perm vs->(out.map f).Pairwise (λ a b=>a.cps.toList<b.cps.toList)->Q (.ref (s.heap.objs.size+1)) { s with heap:=sortedAll s.heap vs out.toArray }):
  wpAny (model prog w) A (call (.builtin "sorted") [.ref l]) Q E s:=by
 refine vX (kd:=tuples' true) (Oa (f:=f)) hl h64 (λ A' E' s' k h2=>mD (by intro e;rw [e] at h2;simp at h2) λ v hv=>(hF v hv).keep k) (λ A' E' s' k=>oJ (λ v hv=>(hF v hv).keep k) hd) λ out hp u=> ?_
 have hpl:out.toList.Perm (vs.zip vs):=by
  have:=Array.perm_iff_toList_perm.mp hp;rwa [pairsOf_toList] at this
 have e12: ∀p∈out.toList,p.1=p.2:=λ p hm=>(mem_zip_self (hpl.mem_iff.mp hm)).1
 have hp2:(out.toList.map (·.2)).Perm vs:=by
  have:=hpl.map (·.2);rwa [List.map_snd_zip (Zn _)] at this
 have hsz:out.size=vs.length:=by rw [hp.size_eq,pairsOf_size]
 have:=h (out.toList.map (·.2)) hp2 ?_
 ·rwa [show (out.toList.map (·.2)).toArray=out.map (·.2) by rw [<- Array.toList_map]] at this
 have hnd:((out.toList.map (·.2)).map f).Nodup:=((hp2.map f).nodup_iff).mpr hd;rw [List.pairwise_iff_getElem];intro i j hi hj hij;have hi':i<out.size:=by simpa using hi
 have hj':j<out.size:=by simpa using hj
 have uu:=u i j (Xh hij) (by rfl');have gi:gt out i=out[i]:=by unfold gt;rw [getElem?_pos _ i hi'];rfl
 have gj:gt out j=out[j]:=by unfold gt;rw [getElem?_pos _ j hj'];rfl
 rw [gi,gj] at uu;have f1:((out.toList.map (·.2)).map f)[i]=f (out[i]).1:=by
  rw [e12 _ (by simp)];simp
 have f2:((out.toList.map (·.2)).map f)[j]=f (out[j]).1:=by
  rw [e12 _ (by simp)];simp
 rw [f1,f2];have ne:f (out[i]).1≠f (out[j]).1:=by
  intro e;have:=(List.getElem_inj (h₀:=hi) (h₁:=hj) hnd).mp (by rw [f1,f2,e]);rfl'
 unfold Bf at uu;have nle: ¬ (f (out[j]).1).cps.toList<(f (out[i]).1).cps.toList:=of_decide_eq_false uu
 cases e:strKind.blt (f (out[i]).1).cps.toList (f (out[j]).1).cps.toList with
 | true=>exact Ww e
 | false=>
  have:=strKind.total _ _ e uu;exact absurd (by
   have h3:(f (out[i]).1).cps=(f (out[j]).1).cps:=Array.toList_inj.mp this
   cases h4:f (out[i]).1;cases h5:f (out[j]).1;rw [h4,h5] at h3;simpa using h3) ne
end
end Sx
namespace L2
open PySem PySem.Spec PyProof.Rows
theorem yJ {α β:Type} {g:α->β} {l out:List β} (h:l.Perm out): ∀ {zs:List α},l=zs.map g-> ∃ws:List α,ws.Perm zs/\out=ws.map g:=by
 induction h with
 | nil=>intro zs e;exact ⟨zs, .refl _,e⟩
 | cons x _ ih=>
  intro zs e
  cases zs with
  | nil=>cases e
  | cons z zs=>
   rw [Zz] at e;injection e with e1 e2
   obtain ⟨ws,p,q⟩:=ih e2;exact ⟨z::ws,p.cons z,by rw [Zz,q,e1]⟩
 | swap x y l=>
  intro zs e
  match zs,e with
  | z1::z2::r,e=>
   rw [Zz,Zz] at e;injection e with e1 e2
   injection e2 with e2 e3
   exact ⟨z2::z1::r, .swap _ _ _,by rw [Zz,Zz,e1,e2,e3]⟩
 | trans _ _ ih1 ih2=>
  intro zs e;obtain ⟨ws,p,q⟩:=ih1 e;obtain ⟨us,p',q'⟩:=ih2 q;exact ⟨us,p'.trans p,q'⟩
def gR (h:Heap):Value->Str
 | .ref b=>match h.get? b with
  | some ob=>match ob.data with
   | .seq its _=>match (its[0]? :Option Value) with
    | some (Value.str x _)=>x
    | _=>⟨#[]⟩
   | _=>⟨#[]⟩
  | none=>⟨#[]⟩
 | _=>⟨#[]⟩
theorem uE {α:Type} {g:α->Addr}: ∀ {zs:List α} {us:List Value},Vals (zs.map λ z=>V.ref (g z)) us->us=zs.map λ z=>Value.ref (g z)
 | [],_,r=>by cases r;rfl
 | z::zs,_,r=>by
  cases r with
  | cons r rr=>
   rw [uE rr,Zz];congr 1
theorem j8 {α:Type} {g:α->Addr}: ∀zs:List α,Vals (zs.map λ z=>V.ref (g z)) (zs.map λ z=>Value.ref (g z))
 | []=> .nil
 | _::zs=> .cons rfl (j8 zs)
def oK (K:W.Frag):List V->Hp->VK->Prop:=λ xs H Q=> ∃ (a:Addr) (zs:List (Addr×Str×List V)),xs=[.ref a]/\SqL K H a (zs.map λ z=>V.ref z.1)/\(∀z∈zs,SqT K H z.1 (.str z.2.1::z.2.2))/\(zs.map (·.2.1)).Nodup/\zs.length<64/\
 ∀r (ws:List (Addr×Str×List V)),ws.Perm zs->(ws.map (·.2.1)).Pairwise (λ a b=>a.cps.toList<b.cps.toList)->H r=none->Q (.ref r) (upd H r (.lst (ws.map λ z=>V.ref z.1)))
theorem vY {X:Cx}:cX X (.builtin "sorted") (oK X.K):=by
 intro pins s σ H xs us Q I rv h;obtain ⟨a,zs,rfl,hx,hz,hnd,h64,q⟩:=h;obtain ⟨u,rfl,ru⟩:=rv.one
 cases (show u=Value.ref a from ru);obtain ⟨its,r,ht,_⟩:=I.list hx;have ei:=uE r;subst ei;have hF: ∀z∈zs,gR s.heap (.ref z.1)=z.2.1/\Sx.Fs s.heap (gR s.heap) (.ref z.1):=by
  intro z hz';obtain ⟨is,r1,p1,_⟩:=I.tuple (hz z hz');obtain ⟨ob,ho,hc,n,hdt⟩:=p1
  cases r1 with
  | cons r2 rr=>
   obtain ⟨t,rfl⟩:=r2;have e:gR s.heap (.ref z.1)=z.2.1:=by
    unfold gR;dsimp only;rw [ho];dsimp only;rw [hdt];rfl
   exact ⟨e,z.1,ob,_,t,n,_,rfl,ho,hc,hdt,by rw [e]⟩
 have ef:(zs.map λ z=>Value.ref z.1).map (gR s.heap)=zs.map (·.2.1):=by
  rw [Zk];exact Xu λ z hz'=>(hF z hz').1
 refine Sx.pN (f:=gR s.heap) (vs:=zs.map λ z=>Value.ref z.1) ht.isList (by rw [Qr];exact h64) (λ v hv=> ?_) (by rw [ef];exact hnd) λ out hp hs=> ?_
 ·obtain ⟨z,hz',rfl⟩:=Zc.mp hv;exact (hF z hz').2
 obtain ⟨ws,hw,rfl⟩:=yJ hp.symm rfl;obtain ⟨e,he⟩:=sortedAll_at s.heap (zs.map λ z=>Value.ref z.1) (ws.map λ z=>Value.ref z.1).toArray;have hr:H (s.heap.objs.size+1)=none:=I.hok.fresh (Nat.le_succ _);have es:(ws.map λ z=>Value.ref z.1).map (gR s.heap)=ws.map (·.2.1):=by
  rw [Zk];exact Xu λ z hz'=>(hF z (hw.mem_iff.mp hz')).1
 rw [es] at hs;refine ⟨.ref _,_,I.laid (t':=s.toks) (a:=s.heap.objs.size+1) (o:= .lst (ws.map λ z=>V.ref z.1)) (λ b o hb=>sortedAll_old hb) (Nat.le_succ _) (show ObjOk X.prog X.w _ _ _ (.lst _) from ⟨?_,_,e,j8 (g:=λ z=>z.1) ws,he⟩),rfl,q _ ws hw hs hr⟩;rw [Qr,hw.length_eq];exact Xh (Nat.lt_trans h64 (by decide))
theorem uF {X:Cx} (K:W.Frag) (hK:X.K=K):cX X (.builtin "sorted") (oK K):=hK▸vY
end L2
end
section
namespace L2
open PySem PySem.Spec PyProof.Rows
abbrev gY (a b:Str):Prop:=a.cps.toList<b.cps.toList
def rM:List V->Hp->VK->Prop:=λ xs H Q=> ∃ (a:Addr) (kvs:List (Str×V)),xs=[.ref a]/\H a=some (.dK (kvs.map λ p=>(Sum.inr p.1,p.2)))/\kvs.length<64/\ ∀r (ns:List Str),ns.Perm (kvs.map (·.1))->ns.Pairwise gY->H r=none->Q (.ref r) (upd H r (.lst (ns.map V.str)))
def rN:List V->Hp->VK->Prop:=λ xs H Q=> ∃ (a:Addr) (kvs:List (Int×V)),xs=[.ref a]/\H a=some (.dK (kvs.map λ p=>(Sum.inl p.1,p.2)))/\kvs.length<64/\ ∀r (ns:List Int),ns.Perm (kvs.map (·.1))->ns.Pairwise (· < ·)->H r=none->Q (.ref r) (upd H r (.lst (ns.map V.int)))
def rO (td:TE):TE:=λ σ H Q=>td σ H λ x H1=> ∃ (a:Addr) (kvs:List (Str×V)),x= .ref a/\H1 a=some (.dK (kvs.map λ p=>(Sum.inr p.1,p.2)))/\kvs.length<64/\ ∀r (zs:List (Addr×Str×V)) (H2:Hp),(zs.map (·.2)).Perm kvs->(zs.map (·.2.1)).Pairwise gY->H1 r=none->Same H1 H2->H2 r=some (.lst (zs.map λ z=>V.ref z.1))->(∀z∈zs,H2 z.1=some (.tup [.str z.2.1,z.2.2]))->Q (.ref r) H2
def RJ (te:TE):TE:=λ σ H Q=>te σ H λ x H1=> ∃cs:List Nat,x= .str ⟨cs.toArray⟩/\cs.length<=1000000/\Q (.str ⟨cs.reverse.toArray⟩) H1
theorem iu {prog:Program} {w:World} {A:Around} {E:Value->Shared->Prop} {s:Shared} {v:Value} {Q:Value->Shared->Prop} {C:List Value->Shared->Prop} {Z:List Value->Shared->Array Value->Prop}
  (hc: ∀ (E':Value->Shared->Prop) (R:List Value->Shared->Prop),(∀vs s1,C vs s1->R vs s1)->wpAny (model prog w) A.in1 (collect v) R E' s)
  (hz: ∀vs s1,C vs s1->vs.length<64/\(∀ (A':Around) (E':Value->Shared->Prop) (P:PySem.Fin->Shared->Prop),(∀out,Z vs s1 out->P (.done (.ret .none)) { s1 with heap:=sortedHeap (s1.heap.push (seqObj "list" vs.toArray 0)) s1.heap.objs.size vs out })->
    wpAny (model prog w) A' (Builtin.«list.sort» ⟨[.ref s1.heap.objs.size],[]⟩) P E' { s1 with heap:=s1.heap.push (seqObj "list" vs.toArray 0) })/\
   ∀out,Z vs s1 out->Q (.ref s1.heap.objs.size) { s1 with heap:=sortedHeap (s1.heap.push (seqObj "list" vs.toArray 0)) s1.heap.objs.size vs out }):
  wpAny (model prog w) A (call (.builtin "sorted") [v]) Q E s:=by
 refine Calls.call_function_entry kind_sorted plain_sorted entry_sorted (args_sorted1 _) ?_;unfold Builtin.«sorted»;refine Za (m:=checkCount "sorted" 1 1 _) (Zh (Za (hc _ _ λ vs s1 hC=> ?_)));obtain ⟨h64,hS,h⟩:=hz vs s1 hC;refine Za (wpAny_newList ?_ (by rw [Xp];rfl'));have g:(s1.heap.push (seqObj "list" vs.toArray 0)).get? s1.heap.objs.size=some (seqObj "list" vs.toArray 0):=Zo _ rfl;show wpAny _ _ _ _ _ { s1 with heap:=s1.heap.push (seqObj "list" vs.toArray 0) };refine Za (Wi (Xj slot_list_sort ⟨_,g,rfl⟩ entry_list_sort (hS _ _ _ λ out z=>⟨_,rfl,?_⟩) (args_list_sort _)));exact Zh ⟨_,rfl,h out z⟩
theorem jM {prog:Program} {w:World} {A:Around} {E:Value->Shared->Prop} {s:Shared} {K:Type} [DecidableEq K] {knd:PySem.KeyKind prog w K} {d:Addr} {kvs:List (K×Value)} {ep:Nat} {R:List Value->Shared->Prop}
  (hh:A.handled=none) (lo:(d==sysModules)=false) (hm:s.heap.DictAt knd d kvs ep) (hn:kvs.length<=sizeLine)
  (h: ∀ (h':Heap) (tk:Nat) (vs:List Value),(∀b o,s.heap.get? b=some o->h'.get? b=some o)->s.heap.objs.size<=h'.objs.size->vs.length=kvs.length->(∀ (j:Nat) v,vs[j]? =some v-> ∃k x,kvs[j]? =some (k,x)/\knd.is k v=true)->R vs { s with heap:=h',toks:=tk }):
  wpAny (model prog w) A (collect (.ref d)) R E s:=by
 have hd:d<s.heap.objs.size:=hm.lt_size;have KS:=PySem.W.kdl_dict (prog:=prog) (w:=w) (knd:=knd) (d:=d) (kvs:=kvs) (ep:=ep) lo;unfold collect;refine Za (wpAny_runValue (codeAny_builtin entry_proto_collect' ?_));rw [Around.under_plainId PySem.F.plain_proto_collect _];show wpAny _ A.in1 (newList [] >>= λ l=>again (.builtin "list.__iadd__" ⟨[l, .ref d],[]⟩)) _ _ s;refine Za (Xi ?_);refine Zh ⟨plainId_quiet PySem.F.plain_list_iadd _,codeAny_builtin entry_list_iadd' ?_⟩;rw [Around.under_plainId PySem.F.plain_list_iadd _];have hS₁:(s.heap.push { cls:= .type "list",data:= .seq ([]:List Value).toArray }).get? s.heap.objs.size=some { cls:= .type "list",data:= .seq #[] }:=Zo _ rfl;show wpAny _ A.in1 (Builtin.List.listExtendWith (.ref s.heap.objs.size) (.ref d) (.ref s.heap.objs.size)) _ _ _;have key:=PySem.W.kdl_extend (A:=A) (s:={ s with heap:=s.heap.push { cls:= .type "list",data:= .seq ([]:List Value).toArray } }) KS
  (R:=λ (q:Result) (s':Shared)=> ∃ (h':Heap) (tk:Nat) (acc':Array Value) (c':Nat),q= .ok (.ret (.ref s.heap.objs.size))/\s'={ s with heap:=h',toks:=tk }/\
   (∀b o,s.heap.get? b=some o->h'.get? b=some o)/\h'.get? s.heap.objs.size=some { cls:= .type "list",dict:=none,data:= .seq acc' c',slots:= #[] }/\ItemsOf (λ i v=> ∃k x,kvs[i]? =some (k,x)/\knd.is k v=true) acc' kvs.length)
  hh (hm.push _) s.heap.objs.size (Nat.ne_of_gt hd) (Nat.ne_of_gt hd) (.ref s.heap.objs.size) 0 hS₁
  (λ h' tk acc' c' hk hS' hacc=>⟨h',tk,acc',c',rfl,rfl,λ b o e=>hk b o (Yc (Zm e)) (Zd _ e),hS',hacc⟩) hn
 have fin: ∀ {h':Heap} {tk:Nat} {acc':Array Value} {c':Nat},(∀b o,s.heap.get? b=some o->h'.get? b=some o)->h'.get? s.heap.objs.size=some { cls:= .type "list",dict:=none,data:= .seq acc' c',slots:= #[] }->ItemsOf (λ i v=> ∃k x,kvs[i]? =some (k,x)/\knd.is k v=true) acc' kvs.length->R acc'.toList { s with heap:=h',toks:=tk }:=by
  intro h' tk acc' c' hk hS' hacc;refine h h' tk acc'.toList hk (Xh (Zm hS')) (by rw [Yk];exact hacc.1) λ j v hj=>hacc.2 j v (by rw [<- Xr];exact hj)
 refine Xe key (λ f s' x=> ?_) λ e s' x=> ?_
 ·cases f with
  | done f=>
   obtain ⟨h',tk,acc',c',e,rfl,hk,hS',hacc⟩:=x
   cases e;show wpAny _ A (load s.heap.objs.size >>= _) _ _ _;exact Za (wpAny_load hS' (Zh (fin hk hS' hacc)))
  | again c₁=>
   refine ⟨x.1,codeAny_mono x.2 λ q s₂ y=> ?_⟩;obtain ⟨h',tk,acc',c',rfl,rfl,hk,hS',hacc⟩:=y;show wpAny _ A (load s.heap.objs.size >>= _) _ _ _;exact Za (wpAny_load hS' (Zh (fin hk hS' hacc)))
 ·obtain ⟨_,_,_,_,e',_⟩:=x
  cases e'
theorem yK (h:Heap) (vs:List Value) (out:Array Value): ∃e,(sortedHeap (h.push (seqObj "list" vs.toArray 0)) h.objs.size vs out).get? h.objs.size=some (seqObj "list" out e):=sortedHeap_at (n:=0) (Zo _ rfl)
theorem oM {h:Heap} {vs:List Value} {out:Array Value} {b:Addr} {o:Obj} (hb:h.get? b=some o):(sortedHeap (h.push (seqObj "list" vs.toArray 0)) h.objs.size vs out).get? b=some o:=by
 have hlt:b<h.objs.size:=Zm hb;rw [sortedHeap_old (Yc hlt) (by rw [size_push'];exact Nat.lt_succ_of_lt hlt)];exact Zd _ hb
theorem jN: ∀ (p:Str) (l:List Str),risingS p l=true->(p::l).Nodup->(p::l).Pairwise gY
 | p,[],_,_=>List.pairwise_singleton _ _
 | p,x::r,h,n=>by
  have h':(!ltCps x.cps.toList p.cps.toList&&risingS x r)=true:=h;rw [Xw,Bool.not_eq_true'] at h';have ih:=jN x r h'.2 (Xv.mp n).2;have hx:gY p x:=by
   have n1: ¬x.cps.toList<p.cps.toList:=by
    have:=h'.1;rw [ltCps_eq] at this;exact of_decide_eq_false this
   have ne:p≠x:=λ e=>(Xv.mp n).1 (by rw [e];exact Zy)
   cases e:strKind.blt p.cps.toList x.cps.toList with
   | true=>exact Ww e
   | false=>
    have:=strKind.total _ _ e (Yo n1);exact absurd (by
     have h3:p.cps=x.cps:=Array.toList_inj.mp this
     cases h4:p;cases h5:x;rw [h4,h5] at h3;simpa using h3) ne
  refine List.pairwise_cons.mpr ⟨λ y hy=> ?_,ih⟩;rcases Zp.mp hy with rfl | hy
  ·exact hx
  ·exact List.lt_trans hx ((List.pairwise_cons.mp ih).1 y hy)
theorem ji: ∀ {l:List Str},sortedS l=true->l.Nodup->l.Pairwise gY
 | [],_,_=> .nil
 | x::r,h,n=>jN x r h n
theorem rP {prog:Program} {w:World} {kvs:List (Str×V)} {us:List (Key×Value)} {vs:List Value} (kv:KV (kvs.map λ p=>((Sum.inr p.1:Key),p.2)) us) (hl:vs.length=us.length) (h: ∀ (j:Nat) v,vs[j]? =some v-> ∃k x,us[j]? =some (k,x)/\(bI prog w).is k v=true):StrsAre vs (kvs.map (·.1)):=by
 have ek:us.map (·.1)=kvs.map λ p=>(Sum.inr p.1:Key):=by rw [<- kv.keys,Zk];rfl
 have hz:vs.length=kvs.length:=by rw [hl,<- Qr (f:=(·.1)),ek,Qr]
 have hv: ∀ (j:Nat) v,vs[j]? =some v-> ∃p,kvs[j]? =some p/\ ∃t,v= .str p.1 t:=by
  intro j v hj;obtain ⟨k,x,e1,e2⟩:=h j v hj;have e3:(us.map (·.1))[j]? =some k:=by rw [Zg,e1];rfl
  rw [ek,Zg] at e3;obtain ⟨p,ep,rfl⟩:=Yd.mp e3;rw [gZ] at e2;rcases bB e2 with ⟨i,t,e,_⟩ | ⟨y,t,e,ev⟩
  ·exact nomatch e
  ·cases e;exact ⟨p,ep,t,ev⟩
 clear h ek hl kv
 revert kvs
 induction vs with
 | nil=>
  intro kvs hz hv
  cases kvs with
  | nil=>exact .nil
  | cons=>simp at hz
 | cons v r ih=>
  intro kvs hz hv
  cases kvs with
  | nil=>simp at hz
  | cons p ps=>
   obtain ⟨q,eq,t,rfl⟩:=hv 0 v rfl
   cases eq;exact .cons _ _ (ih (by simpa using hz) λ j v hj=>hv (j+1) v hj)
theorem rQ {prog:Program} {w:World} {kvs:List (Int×V)} {us:List (Key×Value)} {vs:List Value} (kv:KV (kvs.map λ p=>((Sum.inl p.1:Key),p.2)) us) (hl:vs.length=us.length) (h: ∀ (j:Nat) v,vs[j]? =some v-> ∃k x,us[j]? =some (k,x)/\(bI prog w).is k v=true):IntsAre vs (kvs.map (·.1)):=by
 have ek:us.map (·.1)=kvs.map λ p=>(Sum.inl p.1:Key):=by rw [<- kv.keys,Zk];rfl
 have hz:vs.length=kvs.length:=by rw [hl,<- Qr (f:=(·.1)),ek,Qr]
 have hv: ∀ (j:Nat) v,vs[j]? =some v-> ∃p,kvs[j]? =some p/\ ∃t,v= .int p.1 t:=by
  intro j v hj;obtain ⟨k,x,e1,e2⟩:=h j v hj;have e3:(us.map (·.1))[j]? =some k:=by rw [Zg,e1];rfl
  rw [ek,Zg] at e3;obtain ⟨p,ep,rfl⟩:=Yd.mp e3;rw [gZ] at e2;rcases bB e2 with ⟨i,t,e,ev⟩ | ⟨y,t,e,_⟩
  ·cases e;exact ⟨p,ep,t,ev⟩
  ·exact nomatch e
 clear h ek hl kv
 revert kvs
 induction vs with
 | nil=>
  intro kvs hz hv
  cases kvs with
  | nil=>exact .nil
  | cons=>simp at hz
 | cons v r ih=>
  intro kvs hz hv
  cases kvs with
  | nil=>simp at hz
  | cons p ps=>
   obtain ⟨q,eq,t,rfl⟩:=hv 0 v rfl
   cases eq;exact .cons _ _ (ih (by simpa using hz) λ j v hj=>hv (j+1) v hj)
theorem qz {kvs:List (Str×V)} {us:List (Key×Value)} (kv:KV (kvs.map λ p=>((Sum.inr p.1:Key),p.2)) us) (h:(us.map (·.1)).Nodup):(kvs.map (·.1)).Nodup:=by
 have ek:us.map (·.1)=(kvs.map (·.1)).map (Sum.inr:Str->Key):=by rw [<- kv.keys,Zk,Zk];rfl
 rw [ek] at h;exact List.Pairwise.imp (λ {a b} z e=>z (by rw [e])) (Xl.mp h)
theorem Ac {kvs:List (Int×V)} {us:List (Key×Value)} (kv:KV (kvs.map λ p=>((Sum.inl p.1:Key),p.2)) us) (h:(us.map (·.1)).Nodup):(kvs.map (·.1)).Nodup:=by
 have ek:us.map (·.1)=(kvs.map (·.1)).map (Sum.inl:Int->Key):=by rw [<- kv.keys,Zk,Zk];rfl
 rw [ek] at h;exact List.Pairwise.imp (λ {a b} z e=>z (by rw [e])) (Xl.mp h)
theorem uG {X:Cx} (hcalm:X.calm=true):cX X (.builtin "sorted") rM:=by
 intro pins s σ H xs us Q I rv h;obtain ⟨a,kvs,rfl,e,h64,q⟩:=h;obtain ⟨u,rfl,ru⟩:=rv.one
 cases (show u=Value.ref a from ru);obtain ⟨hz,hsys,ws,kv,hD⟩:=jd I.hok (.inl e);obtain ⟨ep,hAt⟩:=hD.dictAt;have hlen:kvs.length=ws.length:=by have:=kv.length;rw [Qr] at this;exact this
 refine iu (C:=λ vs s1=> ∃h' tk,s1={ s with heap:=h',toks:=tk }/\(∀b o,s.heap.get? b=some o->h'.get? b=some o)/\s.heap.objs.size<=h'.objs.size/\StrsAre vs (kvs.map (·.1)))
  (Z:=λ vs _ out=> ∃ns,StrsAre out.toList ns/\ns.Perm (kvs.map (·.1))/\sortedS ns=true) (λ E' R hR=> ?_) λ vs s1 hC=> ?_
 ·exact jM (A:=X.A.in1) (I.ok.hd hcalm) hsys hAt (by rw [<- hlen,Xp];rfl') λ h' tk vs hk hsz hl hv=>hR _ _ ⟨h',tk,rfl,hk,hsz,rP kv hl hv⟩
 ·obtain ⟨h',tk,rfl,hk,hsz,hS⟩:=hC;have hvl:vs.length=kvs.length:=by have:=Yn List.length hS.strs;rw [Qr,Qr] at this;exact this
  refine ⟨by rfl',λ A' E' P hP=> ?_,λ out hout=> ?_⟩
  ·refine list_sort_treeK strKind_oneLt (Zo _ rfl) hS.keysOf (λ v₁ v₂ rest e=>keyKind_strs (by rw [<- e];exact hS)) (by rfl') λ st' hp hs=> ?_
   obtain ⟨ss',h1,h2,h3⟩:=sorted_out_str hS hp hs;exact hP _ ⟨ss',h1,h2,h3⟩
  ·obtain ⟨ns,h1,h2,h3⟩:=hout;obtain ⟨ee,he⟩:=yK h' vs out;have hr:H h'.objs.size=none:=I.hok.fresh hsz;have hnd:ns.Nodup:=h2.nodup_iff.mpr (qz kv hAt.nodup);refine ⟨.ref _,_,I.laid (t':=tk) (a:=h'.objs.size) (o:= .lst (ns.map V.str)) (λ b o hb=>oM (hk b o hb)) hsz (show ObjOk X.prog X.w _ _ _ (.lst _) from ⟨?_,out.toList,ee,lg h1,?_⟩),rfl,q _ ns h2 (ji h3 hnd) hr⟩
   ·rw [Qr,h2.length_eq,Qr,Xp];rfl'
   ·rw [he]
theorem uH {X:Cx} (hcalm:X.calm=true):cX X (.builtin "sorted") rN:=by
 intro pins s σ H xs us Q I rv h;obtain ⟨a,kvs,rfl,e,h64,q⟩:=h;obtain ⟨u,rfl,ru⟩:=rv.one
 cases (show u=Value.ref a from ru);obtain ⟨hz,hsys,ws,kv,hD⟩:=jd I.hok (.inl e);obtain ⟨ep,hAt⟩:=hD.dictAt;have hlen:kvs.length=ws.length:=by have:=kv.length;rw [Qr] at this;exact this
 refine iu (C:=λ vs s1=> ∃h' tk,s1={ s with heap:=h',toks:=tk }/\(∀b o,s.heap.get? b=some o->h'.get? b=some o)/\s.heap.objs.size<=h'.objs.size/\IntsAre vs (kvs.map (·.1)))
  (Z:=λ vs _ out=> ∃ns,IntsAre out.toList ns/\ns.Perm (kvs.map (·.1))/\ns.Pairwise (· <= ·)) (λ E' R hR=> ?_) λ vs s1 hC=> ?_
 ·exact jM (A:=X.A.in1) (I.ok.hd hcalm) hsys hAt (by rw [<- hlen,Xp];rfl') λ h' tk vs hk hsz hl hv=>hR _ _ ⟨h',tk,rfl,hk,hsz,rQ kv hl hv⟩
 ·obtain ⟨h',tk,rfl,hk,hsz,hS⟩:=hC;have hvl:vs.length=kvs.length:=by have:=hS.length;rw [Qr] at this;exact this
  refine ⟨by rfl',λ A' E' P hP=> ?_,λ out hout=> ?_⟩
  ·exact list_sort_tree (Zo _ rfl) hS (by rfl') λ out ns' h1 h2 h3=>hP _ ⟨ns',h1,h2,h3⟩
  ·obtain ⟨ns,h1,h2,h3⟩:=hout;obtain ⟨ee,he⟩:=yK h' vs out;have hr:H h'.objs.size=none:=I.hok.fresh hsz;have hnd:ns.Nodup:=h2.nodup_iff.mpr (Ac kv hAt.nodup);refine ⟨.ref _,_,I.laid (t':=tk) (a:=h'.objs.size) (o:= .lst (ns.map V.int)) (λ b o hb=>oM (hk b o hb)) hsz (show ObjOk X.prog X.w _ _ _ (.lst _) from ⟨?_,out.toList,ee,j7 h1,?_⟩),rfl,q _ ns h2 (List.Pairwise.imp (R:=λ a b=>a<=b/\a≠b) (λ {a b} z=>by rfl') (List.Pairwise.and h3 hnd)) hr⟩
   ·rw [Qr,h2.length_eq,Qr,Xp];rfl'
   ·rw [he]
end L2
namespace Sx
open PySem PyProof.Rows
section
variable {prog:Program} {w:World} {A:Around} {E:Value->Shared->Prop} {s:Shared} {f:Value->Str}
theorem lq {a:Addr} {vs:List Value} {n:Nat} {P:PySem.Fin->Shared->Prop} (ho:s.heap.get? a=some (seqObj "list" vs.toArray n)) (h64:vs.length<64) (hF: ∀v∈vs,Fs (mid s.heap a vs) f v) (hd:(vs.map f).Nodup)
  (h: ∀out:List Value,out.Perm vs->(out.map f).Pairwise (λ a b=>a.cps.toList<b.cps.toList)->P (.done (.ret .none)) { s with heap:=sortedHeap s.heap a vs out.toArray }):
  wpAny (model prog w) A (Builtin.«list.sort» ⟨[.ref a],[]⟩) P E s:=by
 refine uB (kd:=tuples' true) (Oa (f:=f)) ho h64 (λ h2=>mD (s:={ s with heap:=mid s.heap a vs }) (by intro e;rw [e] at h2;simp at h2) hF) (oJ (s:={ s with heap:=mid s.heap a vs }) hF hd) λ out hp u=> ?_
 have hpl:out.toList.Perm (vs.zip vs):=by
  have:=Array.perm_iff_toList_perm.mp hp;rwa [pairsOf_toList] at this
 have e12: ∀p∈out.toList,p.1=p.2:=λ p hm=>(mem_zip_self (hpl.mem_iff.mp hm)).1
 have hp2:(out.toList.map (·.2)).Perm vs:=by
  have:=hpl.map (·.2);rwa [List.map_snd_zip (Zn _)] at this
 have hsz:out.size=vs.length:=by rw [hp.size_eq,pairsOf_size]
 have:=h (out.toList.map (·.2)) hp2 ?_
 ·rwa [show (out.toList.map (·.2)).toArray=out.map (·.2) by rw [<- Array.toList_map]] at this
 have hnd:((out.toList.map (·.2)).map f).Nodup:=((hp2.map f).nodup_iff).mpr hd;rw [List.pairwise_iff_getElem];intro i j hi hj hij;have hi':i<out.size:=by simpa using hi
 have hj':j<out.size:=by simpa using hj
 have uu:=u i j (Xh hij) (by rfl');have gi:gt out i=out[i]:=by unfold gt;rw [getElem?_pos _ i hi'];rfl
 have gj:gt out j=out[j]:=by unfold gt;rw [getElem?_pos _ j hj'];rfl
 rw [gi,gj] at uu;have f1:((out.toList.map (·.2)).map f)[i]=f (out[i]).1:=by
  rw [e12 _ (by simp)];simp
 have f2:((out.toList.map (·.2)).map f)[j]=f (out[j]).1:=by
  rw [e12 _ (by simp)];simp
 rw [f1,f2];have ne:f (out[i]).1≠f (out[j]).1:=by
  intro e;have:=(List.getElem_inj (h₀:=hi) (h₁:=hj) hnd).mp (by rw [f1,f2,e]);rfl'
 unfold Bf at uu
 cases e:strKind.blt (f (out[i]).1).cps.toList (f (out[j]).1).cps.toList with
 | true=>exact Ww e
 | false=>
  have:=strKind.total _ _ e uu;exact absurd (by
   have h3:(f (out[i]).1).cps=(f (out[j]).1).cps:=Array.toList_inj.mp this
   cases h4:f (out[i]).1;cases h5:f (out[j]).1;rw [h4,h5] at h3;simpa using h3) ne
end
end Sx
namespace L2
open PySem PySem.Spec PyProof.Rows
theorem Inv.laidN {X:Cx} {pins:List (Addr×Obj)} {σ:St} {H H2:Hp} {s:Shared} {h':Heap} {t':Nat} (I:Inv X pins σ H s) (k: ∀b u,s.heap.get? b=some u->h'.get? b=some u) (old: ∀b,b<s.heap.objs.size->H2 b=H b)
  (new: ∀b o,s.heap.objs.size<=b->H2 b=some o->ObjOk X.prog X.w H2 h' b o):Inv X pins σ H2 { s with heap:=h',toks:=t' }:=by
 have st: ∀b o,H b=some o->H2 b=some o:=λ b o e=>by rw [old b (I.hok.lt e)];exact e
 refine I.un ⟨λ b u q _ _ _=>k b u q,λ b u q _ _ _=>⟨u.slots,k b u q⟩,λ b u q n _=>by rw [old b (Zm q)];exact n,λ b u q _=>⟨u,k b u q⟩,λ b xs q=>st _ _ q,λ b u xs q=>st _ _ q,λ b ps q=>⟨#[],by rw [st _ _ q];simp⟩⟩ λ b u e=> ?_
 rcases Wl b s.heap.objs.size with lt | ge
 ·rw [old b lt] at e;exact (I.hok b u e).stay (λ c v _ q=>k c v q) (λ c q=>st _ _ q) λ c xs q=>st _ _ q
 ·exact new b u ge e
def pO (H:Hp) (r:Addr) (zs:List (Addr×Str×V)):Hp:=λ b=>if b=r then some (.lst (zs.map λ z=>V.ref z.1)) else match zs.find? (λ z=>decide (z.1=b)) with
 | some z=>some (.tup [.str z.2.1,z.2.2])
 | none=>H b
theorem Cz {H:Hp} {r:Addr} {zs:List (Addr×Str×V)} (hn:(zs.map (·.1)).Nodup) (hr: ∀z∈zs,z.1≠r) {z:Addr×Str×V} (hz:z∈zs):pO H r zs z.1=some (.tup [.str z.2.1,z.2.2]):=by
 unfold pO;rw [if_neg (hr z hz)];have:zs.find? (λ y=>decide (y.1=z.1))=some z:=by
  clear hr;induction zs with
  | nil=>cases hz
  | cons y r ih=>
   rw [Zz,Xv] at hn;rw [Wo];rcases Zp.mp hz with e | m
   ·subst e;simp
   ·have ne:y.1≠z.1:=λ e=>hn.1 (by rw [e];exact Zc.mpr ⟨z,m,rfl⟩)
    rw [Yo ne];exact ih hn.2 m
 rw [this]
theorem CG {H:Hp} {r:Addr} {zs:List (Addr×Str×V)} {b:Addr} (h1:b≠r) (h2: ∀z∈zs,z.1≠b):pO H r zs b=H b:=by
 unfold pO;rw [if_neg h1];have:zs.find? (λ y=>decide (y.1=b))=none:=List.find?_eq_none.mpr λ z hz=>by simpa using h2 z hz
 rw [this]
theorem CJ {H:Hp} {r:Addr} {zs:List (Addr×Str×V)} {b:Addr} {o:HO} (h1:b≠r) (hb:H b=none) (e:pO H r zs b=some o): ∃z∈zs,z.1=b/\o= .tup [.str z.2.1,z.2.2]:=by
 unfold pO at e;rw [if_neg h1] at e
 cases q:zs.find? (λ z=>decide (z.1=b)) with
 | none=>rw [q] at e;rw [hb] at e;cases e
 | some z=>
  rw [q] at e
  cases e;have hz:decide (z.1=b)=true:=by have:=List.find?_some q;simpa using this
  exact ⟨z,List.mem_of_find?_eq_some q,Ww hz,rfl⟩
theorem vZ {α β:Type} {F:α->β->Prop} {l₁:List α} {l₂:List β} (r:Paired F l₁ l₂): ∀ {i:Nat} {p:α} {q:β},l₁[i]? =some p->l₂[i]? =some q->F p q:=by
 induction r with
 | nil=>intro i p q h;simp at h
 | cons h t ih=>
  intro i p q h1 h2
  cases i with
  | zero=>cases h1;cases h2;exact h
  | succ i=>exact ih h1 h2
theorem Ad {X:Cx} {o:Expr} {td:TE} {p pos apos cpos:Pos} (hcalm:X.calm=true) (hg:Gl X "sorted") (hm:X.mg "sorted"=none) (ho:PE X o td)
  (hbase:attributeBase o "items" X.env (eval o X.env)=eval o X.env:=by rfl) (hline:(apos.endLine==cpos.line)=true:=by rfl)
  (he:starEach [.Call (.Attribute o "items" apos) [] [] cpos] X.env=(false,eval (.Call (.Attribute o "items" apos) [] [] cpos) X.env)::starEach [] X.env:=by rfl)
  (htr:backTo pos (starEach [.Call (.Attribute o "items" apos) [] [] cpos] X.env)=[(false,eval (.Call (.Attribute o "items" apos) [] [] cpos) X.env)]:=by rfl):
  PE X (.Call (.Name "sorted" p) [.Call (.Attribute o "items" apos) [] [] cpos] [] pos) (rO td):=by
 intro pins s σ H Q I h;refine wpAny_Call_Name_kw (fL I hg hm (by ac_nf:bootBuiltins "sorted"=some (.builtin "sorted")) ?_ (by decide) (by decide));refine PyProof.Rows.callWith_builtin1 ?_ he rfl;rw [htr];refine Calls.spliced_cons (wpAny_Call_method0_late hbase hline (bL (ho pins s σ H _ I h) λ v s1 ⟨x,H1,I1,r1,q1⟩=> ?_));obtain ⟨a,kvs,rfl,e,h64,q⟩:=q1
 cases (show v=Value.ref a from r1);obtain ⟨hz,hsys,us,kv,hD⟩:=jd I1.hok (.inl e);obtain ⟨t1,t2,_⟩:=K7 I1 (.inl ⟨_, .inl e⟩);refine ⟨"dict","dict.items",PySem.F.plainAttrs_dict,PySem.F.slot_dict_items,PySem.F.type_dict_items,t1,t2,Calls.callWith_builtin rfl (PySem.evalArgs_none ?_)⟩;refine call_meetsIn PySem.F.slot_dict_items hD.typeIs PySem.F.entry_dict_items (PySem.F.args_dict_items_1 _) (meets_dict_items (bI X.prog X.w) a hsys) ⟨⟨us,hD⟩,?_⟩;refine Calls.spliced_nil ?_;obtain ⟨ep,hAt⟩:=hD.dictAt;have hlen:kvs.length=us.length:=by have:=kv.length;rw [Qr] at this;exact this
 have hkk:us.map (·.1)=kvs.map λ p=>(Sum.inr p.1:Key):=by rw [<- kv.keys,Zk];rfl
 have I2:Inv X pins σ H1 { s1 with heap:=s1.heap.push { cls:= .type "dict_items",data:= .fields #[.ref a] } }:=I1.kept (t':=s1.toks) λ b ob q=>Zd _ q
 refine iu (C:=λ vs s3=> ∃h' tk as,s3={ s1 with heap:=h',toks:=tk }/\(∀b o,s1.heap.get? b=some o->h'.get? b=some o)/\s1.heap.objs.size<=h'.objs.size/\as.length=us.length/\PySem.W.KdxG (bI X.prog X.w) us s1.heap.objs.size h' as/\vs=as.map Value.ref)
  (Z:=λ vs s3 out=> ∃outl:List Value,out=outl.toArray/\outl.Perm vs/\(outl.map (gR s3.heap)).Pairwise (λ a b=>a.cps.toList<b.cps.toList)) (λ E' R hR=> ?_) λ vs s3 hC=> ?_
 ·refine PySem.W.kdx_collect (A:=X.A.in1) (knd:=bI X.prog X.w) (kvs:=us) (ep:=ep) (I1.ok.hd hcalm) ⟨_,Zo _ rfl,rfl,rfl⟩ (hAt.push _) (by rw [<- hlen,Xp];rfl') λ h' tk as hk hl hG=>hR _ _ ⟨h',tk,as,rfl,λ b o q=>hk b o (Zd _ q),?_,hl,hG.low ?_,rfl⟩
  ·exact Xh (Zm (hk s1.heap.objs.size _ (Zo _ rfl)))
  ·show s1.heap.objs.size<=(s1.heap.push _).objs.size;rw [size_push'];rfl'
 ·obtain ⟨h',tk,as,rfl,hk,hsz,hal,hG,rfl⟩:=hC;have hzs: ∀ (j:Nat) (b:Addr) p,as[j]? =some b->kvs[j]? =some p-> ∃t v',h'.get? b=some { cls:= .type "tuple",data:= .seq #[.str p.1 t,v'] }/\RelV p.2 v':=by
   intro j b p hb hp;obtain ⟨key,k,x,e1,e2,e3⟩:=hG.pairs j b hb;have e4:(us.map (·.1))[j]? =some k:=by rw [Zg,e1];rfl
   rw [hkk,Zg,hp] at e4
   cases e4;rw [gZ] at e2;rcases bB e2 with ⟨i,t,e,_⟩ | ⟨y,t,e,ev⟩
   ·exact nomatch e
   ·cases e;have hv:RelV p.2 x:=by
     have:=vZ kv (i:=j) (p:=(Sum.inr p.1,p.2)) (q:=(Sum.inr p.1,x)) (by rw [Zg,hp];rfl) e1;exact this.2
    exact ⟨t,x,by rw [<- ev];exact e3,hv⟩
  have hkl:kvs.length=as.length:=by rfl'
  have e1:((as.zip kvs).map λ q=>(q.1,q.2.1,q.2.2):List (Addr×Str×V)).map (·.1)=as:=by rw [Zk];exact List.map_fst_zip (by rfl')
  have e2:((as.zip kvs).map λ q=>(q.1,q.2.1,q.2.2):List (Addr×Str×V)).map (·.2)=kvs:=by rw [Zk];exact List.map_snd_zip (by rfl')
  have hz0: ∀z∈((as.zip kvs).map λ q=>(q.1,q.2.1,q.2.2):List (Addr×Str×V)),∃t v',h'.get? z.1=some { cls:= .type "tuple",data:= .seq #[.str z.2.1 t,v'] }/\RelV z.2.2 v':=by
   intro z hz;obtain ⟨q,mq,rfl⟩:=Zc.mp hz;obtain ⟨j,hj,ej⟩:=Zu.mp mq;have hl:j<as.length/\j<kvs.length:=by rw [List.length_zip] at hj;rfl'
   rw [List.getElem_zip] at ej;have:=hzs j as[j] kvs[j] (Qb hl.1) (Qb hl.2);rw [<- ej];exact this
  generalize ((as.zip kvs).map λ q=>(q.1,q.2.1,q.2.2):List (Addr×Str×V))=zs0 at e1 e2 hz0;have hvz:as.map Value.ref=zs0.map λ z=>Value.ref z.1:=by rw [<- e1,Zk];rfl
  have hzl:zs0.length<64:=by rw [<- Qr (f:=(·.2)),e2];exact h64
  have hfst: ∀z∈zs0,gR h' (.ref z.1)=z.2.1:=λ z hz=>by
   obtain ⟨t,v',g,_⟩:=hz0 z hz;unfold gR;dsimp only;rw [g];rfl
  have ef:(zs0.map λ z=>Value.ref z.1).map (gR h')=zs0.map (·.2.1):=by
   rw [Zk];exact Xu λ z hz=>hfst z hz
  have hnk:(zs0.map (·.2.1)).Nodup:=by
   have:zs0.map (·.2.1)=kvs.map (·.1):=by rw [<- e2,Zk];rfl
   rw [this];exact qz kv hAt.nodup
  have habove: ∀z∈zs0,s1.heap.objs.size<z.1/\z.1<h'.objs.size:=λ z hz=>by
   have:z.1∈as:=by rw [<- e1];exact Zc.mpr ⟨z,hz,rfl⟩
   exact ⟨hG.above _ this,hG.there this⟩
  have hnz:(zs0.map (·.1)).Nodup:=by
   rw [e1];exact List.Pairwise.imp (λ {a b} h e=>by rw [e] at h;exact Wd _ h) hG.rise
  rw [hvz];refine ⟨by rw [Qr];exact hzl,λ A' E' P hP=> ?_,λ out hout=> ?_⟩
  ·refine Sx.lq (f:=gR h') (Zo _ rfl) (by rw [Qr];exact hzl) (λ v hv=> ?_) (by rw [ef];exact hnk) λ outl hp hs=>hP _ ⟨outl,rfl,hp,hs⟩
   obtain ⟨z,mz,rfl⟩:=Zc.mp hv;obtain ⟨t,v',g,_⟩:=hz0 z mz;refine ⟨z.1,{ cls:= .type "tuple",data:= .seq #[.str z.2.1 t,v'] },#[.str z.2.1 t,v'],t,_,[v'],rfl,?_,rfl,rfl,by rw [hfst z mz]⟩;unfold Sx.mid;refine Zd _ (Zd _ ?_);rw [Heap.get?_update_ne _ _ _ _ (Yc (habove z mz).2)];exact Zd _ g
  ·obtain ⟨outl,rfl,hp,hs⟩:=hout;obtain ⟨ws,hw,rfl⟩:=yJ hp.symm rfl;have es:(ws.map λ z=>Value.ref z.1).map (gR h')=ws.map (·.2.1):=by
    rw [Zk];exact Xu λ z hz'=>hfst z (hw.mem_iff.mp hz')
   rw [es] at hs;obtain ⟨ee,he'⟩:=yK h' (zs0.map λ z=>Value.ref z.1) (ws.map λ z=>Value.ref z.1).toArray;have hr:H1 h'.objs.size=none:=I1.hok.fresh hsz;have hwr: ∀z∈ws,z.1≠h'.objs.size:=λ z mz=>Yc (habove z (hw.mem_iff.mp mz)).2
   have hwn:(ws.map (·.1)).Nodup:=((hw.map _).nodup_iff).mpr hnz;have hold: ∀b,b<s1.heap.objs.size->pO H1 h'.objs.size ws b=H1 b:=λ b hb=>CG (Yc (Zs hb hsz)) λ z mz=>Nat.ne_of_gt (Nat.lt_trans hb (habove z (hw.mem_iff.mp mz)).1)
   refine ⟨.ref _,pO H1 h'.objs.size ws,I1.laidN (t':=tk) (λ b o hb=>oM (hk b o hb)) hold λ b o hb eo=> ?_,rfl,q _ ws _ (by rw [<- e2];exact hw.map _) hs hr (λ b o eb=>by rw [hold b (I1.hok.lt eb)];exact eb) (by unfold pO;rw [if_pos rfl]) λ z mz=>Cz hwn hwr mz⟩;by_cases hbr:b=h'.objs.size
   ·subst hbr;have:o= .lst (ws.map λ z=>V.ref z.1):=by unfold pO at eo;rw [if_pos rfl] at eo;cases eo;rfl
    subst this;exact ⟨by rw [Qr,hw.length_eq,Xp];rfl',_,ee,j8 (g:=λ z=>z.1) ws,he'⟩
   ·obtain ⟨z,mz,ez,rfl⟩:=CJ hbr (I1.hok.fresh hb) eo;obtain ⟨t,v',g,rv⟩:=hz0 z (hw.mem_iff.mp mz);rw [<- ez];exact ⟨by show 2<=_;rw [Xp];decide,[.str z.2.1 t,v'], .cons ⟨t,rfl⟩ (.cons rv .nil),_,oM g,rfl,_,rfl⟩
end L2
end
section
namespace L2
open PySem PySem.Spec PyProof.Rows PySem.SeqAt
def RK:V->Bool
 | .non=>true
 | .bl _=>true
 | .int _=>true
 | .str _=>true
 | .ref _=>true
 | _=>false
def Sm (K:W.Frag) (H:Hp):Nat->V->V->Prop
 | 0,x,y=>x=y/\RK x=true
 | n+1,x,y=>(x=y/\RK x=true)\/ ∃a b xs ys,x= .ref a/\y= .ref b/\((SqL K H a xs/\SqL K H b ys)\/(SqT K H a xs/\SqT K H b ys))/\xs.length=ys.length/\ ∀ (i:Nat) u v,xs[i]? =some u->ys[i]? =some v->Sm K H n u v
end L2
end
section
namespace L2
open PySem PySem.Spec PyProof.Rows
structure Drw (prog:Program) (w:World) (i l:Addr) (xs:Array Value) (St:Nat->Heap->Prop):Prop where
 keep: ∀k h h',St k h->(∀c,c=i\/c=l-> ∀o,h.get? c=some o->h'.get? c=some o)->St k h'
 item: ∀ (A:Around) (s:Shared) k x (Q:Value->Shared->Prop) (E:Value->Shared->Prop),St k s.heap->xs[k]? =some x->(∀h',St (k+1) h'->Heap.SameBut i s.heap h'->Q x { s with heap:=h' })->
  wpAny (model prog w) A (Builtin.SmallTypes.nextOf (.ref i)) Q E s
 stop: ∀ (A:Around) (s:Shared) k (Q:Value->Shared->Prop) (E:Value->Shared->Prop),A.handled=none->St k s.heap->xs[k]? =none->(∀h' e,Heap.ExtBut i s.heap h'->(∃o,h'.get? e=some o/\o.cls= .type "StopIteration")->E (.ref e) { s with heap:=h' })->
  wpAny (model prog w) A (Builtin.SmallTypes.nextOf (.ref i)) Q E s
theorem rR {prog:Program} {w:World} {i l:Addr} {xs:Array Value} (hne:l≠i):Drw prog w i l xs λ k h=>h.IsTupleIter i l k/\h.IsTuple l xs where
 keep:=λ k h h' st kk=>⟨st.1.at λ o e=>kk i (.inl rfl) o e,by obtain ⟨o,e,q⟩:=st.2;exact ⟨o,kk l (.inr rfl) o e,q⟩⟩
 item:=λ A s k x Q E st hx hQ=>by
  obtain ⟨hit,ht⟩:=st;obtain ⟨o,ho,hc,hd⟩:=id hit;obtain ⟨ol,hol,_,nl,hdl⟩:=id ht;unfold Builtin.SmallTypes.nextOf;refine Za (wpAny_callSpecial?_slot (name:=Str.ofString "__next__") hit.typeIs F.slot_tuple_iterator_next (Xj F.slot_tuple_iterator_next hit.typeIs F.entry_tuple_iterator_next ?_ (F.args_tuple_iterator_next_1 _)));refine Za (m:=field (.ref i) 0) (wpAny_field ho hd (x:= .ref l) rfl ?_);show wpAny _ _ (if (Value.ref l==Value.none)=true then _ else _) _ _ s;rw [if_neg (by intro z;cases z)];refine Za (m:=field (.ref i) 1) (wpAny_field ho hd (x:= .int k 0) rfl ?_);refine Za (m:=seqItems? (.ref l)) (wpAny_seqItems hol hdl ?_);simp only [Zi,hx];refine Za (Wm ho hd (by simp) (Zh ⟨x,rfl,Zh (hQ _ ⟨?_,ht.extBut (Xc ..).extBut hne⟩ (Xc ..))⟩));exact ⟨_,Xm _ ho (Wz (Yw hd _)),(Obj.cls_mapFields ..).trans hc,by rw [Yw hd];simp [rawInt]⟩
 stop:=λ A s k Q E hh st hx hE=>by
  obtain ⟨hit,ht⟩:=st;obtain ⟨o,ho,hc,hd⟩:=id hit;obtain ⟨ol,hol,_,nl,hdl⟩:=id ht;unfold Builtin.SmallTypes.nextOf;refine Za (wpAny_callSpecial?_slot (name:=Str.ofString "__next__") hit.typeIs F.slot_tuple_iterator_next (Xj F.slot_tuple_iterator_next hit.typeIs F.entry_tuple_iterator_next ?_ (F.args_tuple_iterator_next_1 _)));refine Za (m:=field (.ref i) 0) (wpAny_field ho hd (x:= .ref l) rfl ?_);show wpAny _ _ (if (Value.ref l==Value.none)=true then _ else _) _ _ s;rw [if_neg (by intro z;cases z)];refine Za (m:=field (.ref i) 1) (wpAny_field ho hd (x:= .int k 0) rfl ?_);refine Za (m:=seqItems? (.ref l)) (wpAny_seqItems hol hdl ?_);simp only [Zi,hx];refine Za (wpAny_rule (Za (Wm ho hd (by simp) ?_)));refine Za (m:=newExc (.type "StopIteration") []) ?_;simp only [newExc,newTuple];refine Za (Xi ?_ (by size_fits));refine Za (m:=firstArgMember _ _) (wpAny_of_eq (a:=Value.none) (by first | rfl | (simp only [firstArgMember];rfl)) ?_);refine Xi ?_ (by size_fits);simp only [raiseNew];refine Za (wpAny_handled ?_)
  first | rw [show A.in1.handled=none from hh] | rw [hh]
  exact Za (Zh (wpAny_throw (hE _ _ (((Xc ..).extBut.push _).push _) ⟨_,Zo _ rfl,rfl⟩)))
abbrev yL (l:Addr):Obj:={ cls:= .type "tuple_iterator",data:= .fields #[.ref l, .int 0 0] }
def Ob (K:W.Frag) (a b:Addr):It:=
 ⟨λ i H=> ∃xs ys x y,SqT K H a xs/\SqL K H b ys/\xs[i]? =some x/\ys[i]? =some y,
  λ i H v H'=> ∃p x y,H p=none/\v= .ref p/\H'=upd H p (.tup [x,y])/\(∀xs,SqT K H a xs->xs[i]? =some x)/\ ∀ys,SqL K H b ys->ys[i]? =some y,
  λ i H=> ∃xs ys,SqT K H a xs/\SqL K H b ys/\(xs.length<=i\/ys.length<=i)⟩
structure ZipStT (z TI TO i1 i2 a b:Addr) (i:Nat) (h:Heap):Prop where
 hz:IsZip h z TI TO .none
 hTI:IsPair h TI (.ref i1) (.ref i2)
 hTO: ∃u v,IsPair h TO u v
 h1:h.IsTupleIter i1 a i
 h2:h.IsListIter i2 b i
 aTO:a≠TO
theorem w5 {h:Heap} {a c:Addr} {o o':Obj} (e:h.get? a=some o) (e':h.get? c=some o') (n:o.cls≠o'.cls):a≠c:=λ q=>by
 subst q;rw [e] at e';cases e';exact n rfl
def RL (K:W.Frag) (ta:TA):TI:=λ σ H R=>ta σ H λ vs H1=> ∃a b xs ys,vs=[.ref a, .ref b]/\SqT K H1 a xs/\SqL K H1 b ys/\R (Ob K a b) H1
def Oc (lo:Int) (n:Nat):It:=⟨λ i _=>i<n,λ i H x H'=>H'=H/\x= .int (lo-i),λ i _=>n<=i⟩
def RM (ta:TA):TI:=λ σ H R=>ta σ H λ vs H1=> ∃i j:Int,vs=[.int i, .int j, .int (-1)]/\(-(2^62)<=i/\i<2^62/\ -(2^62)<=j/\j<2^62)/\R (Oc i (i-j).toNat) H1
abbrev Od:R2:=λ x y H Q=> ∃i j,x= .str i/\y= .str j/\Q (.bl (decide (j.cps.toList<i.cps.toList))) H
abbrev Oe:R2:=λ x y H Q=> ∃i j,x= .str i/\y= .str j/\Q (.bl (!(decide (i.cps.toList<j.cps.toList)))) H
def Og (K:W.Frag) (a:Addr) (n:Nat):It where
 go:=λ i H=> ∃xs x,SqL K H a xs/\xs.length=n/\i<n/\xs[n-1-i]? =some x
 yld:=λ i H x H'=>H'=H/\ ∀ys,SqL K H a ys->ys[n-1-i]? =some x
 stop:=λ i _=>i=n
def RN (K:W.Frag) (ta:TA):TI:=λ σ H R=>ta σ H λ vs H1=> ∃a xs,vs=[.ref a]/\SqL K H1 a xs/\R (Og K a xs.length) H1
end L2
end
section
namespace L2
open PySem PySem.Spec PyProof.Rows
def yM:V->List V->Hp->VK->Prop:=λ x vs H Q=> ∃s y:Str,x= .str s/\vs=[.str y]/\Q (.int (Txt.find s y)) H
abbrev lr:R2:=λ x y H Q=> ∃ (s:Str) (n:Int),x= .str s/\y= .int n/\MulOk s n/\Q (.str (Txt.mul s n)) H
section
variable {X:Cx}
theorem yN:O3 X "str.find" yM:=by
 intro pins s σ H x xs v us Q I rx rv h;obtain ⟨z,y,rfl,rfl,q⟩:=h;obtain ⟨t,rfl⟩:=rx;obtain ⟨u,rfl,ru⟩:=rv.one;obtain ⟨t',rfl⟩:=ru;exact SC.find ⟨.int _,H,I.tok _,⟨_,rfl⟩,q⟩
open Builtin Builtin.Str in
theorem w6:iH X (binaryOp .Mult) lr:=by
 intro pins s σ H x y v u Q I rx ry h;obtain ⟨i,n,rfl,rfl,hz,q⟩:=h;obtain ⟨t,rfl⟩:=rx;obtain ⟨t',rfl⟩:=ry;exact SB.mul hz λ t' k=>⟨.str _,H,I.tok k,⟨_,rfl⟩,q⟩
end
end L2
end
section
namespace L2
open PySem PySem.Spec PyProof.Rows
section
variable {P:Program} {w:World} {H:Hp} {h:Heap} {a:Addr} {kvs:List (Key×V)} {od:Obj}
theorem HOk.freezeK (x:HOk P w H h) (ea:H a=some (.dK kvs)) (eo:h.get? a=some od):HOk P w (upd H a (.frz od (.dK kvs))) h:=by
 have keepO: ∀c y,H c=some (.own y)->upd H a (.frz od (.dK kvs)) c=some (.own y):=λ c y q=>by
  rw [aD (du q ea (by intro z;cases z))];exact q
 have keepT: ∀c xs,H c=some (.tup xs)->upd H a (.frz od (.dK kvs)) c=some (.tup xs):=λ c xs q=>by
  rw [aD (du q ea (by intro z;cases z))];exact q
 intro b u e;by_cases hb:b=a
 ·rw [hb] at e ⊢;rw [au] at e
  cases e;exact ⟨eo,(x a _ ea).stay (λ c v _ q=>q) (λ c q=>keepO c _ q) λ c xs q=>keepT c xs q⟩
 ·rw [aD hb] at e;exact (x b u e).stay (λ c v _ q=>q) (λ c q=>keepO c _ q) λ c xs q=>keepT c xs q
theorem pairs_at {knd:PySem.KeyKind P w Key}: ∀ {es:List DictEntry} {us:List (Key×Value)} (i:Nat) (e:DictEntry),Pairs knd es us->es[i]? =some e-> ∃u,us[i]? =some u/\knd.is u.1 e.key=true
 | _,_,0,e, .cons r _ _,h=>by
  simp only [List.getElem?_cons_zero,Option.some.injEq] at h;subst h;exact ⟨_,rfl,r⟩
 | _,_,i+1,e, .cons _ _ t,h=>by
  simp only [List.getElem?_cons_succ] at h;obtain ⟨u,h1,h2⟩:=pairs_at i e t h;exact ⟨u,by simpa using h1,h2⟩
theorem pairs_len {knd:PySem.KeyKind P w Key}: ∀ {es:List DictEntry} {us:List (Key×Value)},Pairs knd es us->es.length=us.length
 | _,_, .nil=>rfl
 | _,_, .cons _ _ t=>by simp only [Xx,pairs_len t]
end
theorem Ha {k:Key} {v:Value} (h:mC k v=true):RelV (kV k) v:=by
 rcases bB h with ⟨i,t,rfl,rfl⟩ | ⟨x,t,rfl,rfl⟩
 ·exact ⟨t,rfl⟩
 ·exact ⟨t,rfl⟩
theorem Inv.freezeK {X:Cx} {pins:List (Addr×Obj)} {σ:St} {H:Hp} {s:Shared} {a:Addr} {kvs:List (Key×V)} {od:Obj} (I:Inv X pins σ H s) (ea:H a=some (.dK kvs)) (eo:s.heap.get? a=some od):
  Inv X pins σ (upd H a (.frz od (.dK kvs))) s:=by
 refine I.call' (ch:=[]) rfl ⟨λ b o q _ _ _=>q,λ b o q _ _ _=>⟨o.slots,q⟩,λ b o q n _=> ?_,λ b o q _=>⟨o,q⟩,λ b xs q=> ?_,λ b o u q=> ?_,λ b ps q=>⟨#[],?_⟩⟩ (I.hok.freezeK ea eo) I.bare λ b hb=>nomatch hb
 ·rw [aD (λ z=>by rw [z,ea] at n;cases n)];exact n
 ·rw [aD (du q ea (by intro z;cases z))];exact q
 ·rw [aD (du q ea (by intro z;cases z))];exact q
 ·rw [aD (du q ea (by intro z;cases z)),q];simp
def wg (od:Obj) (a:Addr):It where
 go:=λ i H=> ∃kvs,H a=some (.frz od (.dK kvs))/\i<kvs.length
 yld:=λ i H v H'=>H'=H/\ ∀kvs,H a=some (.frz od (.dK kvs))-> ∃k x,kvs[i]? =some (k,x)/\v=kV k
 stop:=λ i H=> ∃kvs,H a=some (.frz od (.dK kvs))/\kvs.length<=i
theorem oO {P:Program} {w:World} {K:W.Frag} {tg:Expr} (it a:Addr) {od:Obj} {es:Array DictEntry} {ep:Nat} (hdd:od.data= .dict es ep):Turn P w K tg (wg od a) [it] it (λ i h=>h.IsKeyIter it a i es.size ep) where
 mem:=by simp
 obj:=λ i h st b hb=>by
  obtain ⟨o,e,c,d⟩:=st;have e':b=it:=by simpa using hb
  rw [e'];exact ⟨o,e,λ v z=>by rw [d] at z;cases z⟩
 keep:=λ i h h' st k=>by
  obtain ⟨o,e,r⟩:=st;exact ⟨o,k it (by simp) o e,r⟩
 item:=by
  intro X hP hw hK hc i pins s σ H E I hf st hg;subst hP hw hK;obtain ⟨kvs,ea,hi⟩:=hg;obtain ⟨eo,_,_,us,rel,o,es',ep',e1,_,e3,_,e4,_⟩:=(show ObjOk X.prog X.w H s.heap a (.frz od (.dK kvs)) from I.hok a _ ea);rw [eo] at e1
  cases e1;rw [hdd] at e3
  cases e3;have hsz:es.size=us.length:=by rw [<- Yk];exact pairs_len e4
  have hl:kvs.length=us.length:=Paired.length rel;obtain ⟨f0,f1,f2,f3,f4,f5⟩:=hf it (by simp);refine uz st eo hdd (by rfl') λ h' st' hs=> ?_
  have I1:Inv X pins σ H { s with heap:=h',toks:=s.toks }:=I.turned (λ b o hb e=>hs.extBut b o hb e) f0 f1 f3 f4 f5;obtain ⟨o,e,hcl,d⟩:=id st';obtain ⟨⟨k,x⟩,⟨k',y⟩,hk,hx,r1,_⟩:=qx i rel hi;have hes:RelV (kV k) (es[i]'(by rfl')).key:=by
   obtain ⟨u,h1,h2⟩:=pairs_at i (es[i]'(by rfl')) e4 (by rw [Xr,Yt]);rw [hx] at h1
   cases h1;rw [gZ] at h2;rw [show k=k' from r1];exact Ha h2
  refine ⟨_,rfl,ud (s:={ s with heap:=h' }) e hcl d (by decide) ⟨kV k,H,I1,hes,⟨rfl,λ kvs' q=> ?_⟩,st',λ b hb=>(hf b hb).1⟩⟩;rw [ea] at q
  cases q;exact ⟨k,x,hk,rfl⟩
 done:=by
  intro X hP hw hK hc i pins s σ H E I hf st hg;subst hP hw hK;obtain ⟨kvs,ea,hi⟩:=hg;obtain ⟨eo,_,_,us,rel,o,es',ep',e1,_,e3,_,e4,_⟩:=(show ObjOk X.prog X.w H s.heap a (.frz od (.dK kvs)) from I.hok a _ ea);rw [eo] at e1
  cases e1;rw [hdd] at e3
  cases e3;have hsz:es.size=us.length:=by rw [<- Yk];exact pairs_len e4
  have hl:kvs.length=us.length:=Paired.length rel;obtain ⟨f0,f1,f2,f3,f4,f5⟩:=hf it (by simp);exact yG (I.ok.hd hc) st eo hdd (by rfl') λ h' kk=>⟨rfl,I.turned (t':=s.toks) (λ b o hb e=>kk b o hb e) f0 f1 f3 f4 f5⟩
 self:=λ _ _ _ _ _ st h=>wpAny_pyIter_keyiter st h
def rT (tl:TE):TI:=λ σ H R=>tl σ H λ x H1=> ∃a kvs,x= .ref a/\((H1 a=some (.dK kvs)/\ ∀od,R (wg od a) (upd H1 a (.frz od (.dK kvs))))\/ ∃od,H1 a=some (.frz od (.dK kvs))/\R (wg od a) H1)
theorem uI {X:Cx} {tg l:Expr} {tl:TE} (hl:PE X l tl):PI X tg l (rT tl):=by
 intro pins s σ H R I h;refine bL (hl pins s σ H _ I h) λ v s1 ⟨x,H1,I1,r1,q1⟩=> ?_
 obtain ⟨a,kvs,rfl,q⟩:=q1
 cases r1;rcases q with ⟨ea,q⟩ | ⟨od,ea,q⟩
 ·obtain ⟨_,hsm,us,rel,o,es,ep,e1,ex,e3,_,e4,_⟩:=(show ObjOk X.prog X.w H1 s1.heap a (.dK kvs) from I1.hok a _ ea);refine oH hsm ⟨o,e1,ex.1⟩ e1 e3 ?_;have IF:=I1.freezeK ea e1;refine ⟨s1.heap.objs.size,[s1.heap.objs.size],_,_,_,rfl,IF.kept (t':=s1.toks) λ b o e=>Zd _ e,oO _ a e3,⟨_,Zo _ rfl,rfl,rfl⟩,λ b hb=> ?_,q o⟩;rw [Ze.mp hb];exact IF.fpOk (Zn _) (IF.hok.fresh (Zn _))
 ·obtain ⟨eo,_,hsm,us,rel,o,es,ep,e1,ex,e3,_,e4,_⟩:=(show ObjOk X.prog X.w H1 s1.heap a (.frz od (.dK kvs)) from I1.hok a _ ea);rw [eo] at e1
  cases e1;refine oH hsm ⟨od,eo,ex.1⟩ eo e3 ?_;refine ⟨s1.heap.objs.size,[s1.heap.objs.size],_,_,_,rfl,I1.kept (t':=s1.toks) λ b o e=>Zd _ e,oO _ a e3,⟨_,Zo _ rfl,rfl,rfl⟩,λ b hb=> ?_,q⟩;rw [Ze.mp hb];exact I1.fpOk (Zn _) (I1.hok.fresh (Zn _))
end L2
end
section
namespace L2
open PySem PySem.Spec PyProof.Rows
def Kf (K:W.Frag):V->List V->Hp->VK->Prop:=λ x vs H Q=> ∃ (s:Str) (a:Addr) (ys:List Str),x= .str s/\vs=[.ref a]/\SqL K H a (ys.map V.str)/\(ys.map (·.length)).sum+ys.length*s.length<=16777216/\Q (.str (Txt.join s ys.reverse)) H
section
variable {X:Cx}
def Tu (K:W.Frag) (to:TE) (t:TA):TE:=λ σ H Q=>to σ H λ x H1=>K5 K "str" x H1/\t σ H1 λ xs H2=>Kf K x xs H2 Q
end
end L2
end
section
namespace L2
open PySem PySem.Spec PyProof.Rows
def lu (B:Heap) (l:List Env) (x:Addr) (C a0:Value) (h:Heap):Prop:=B.StaysIn h/\B.get? x=none/\h.FunFrames B l/\ ∃fl,h.TracedAtW B x C a0 fl
section
variable {M:Model} {A:Around} {E:Value->Shared->Prop} {s:Shared} {B:Heap} {env env':Env} {l outer:List Env} {L x:Addr} {C a0:Value} {Q:Unit->Shared->Prop}
theorem Ae (h:env'.frame=env.frame):noteFrame (.ref x) env'=noteFrame (.ref x) env:=by
 unfold noteFrame PySem.frameOf;rw [h]
theorem uJ (hfr:A.frames=some (env::outer)) (hf:env.frame=some L) (a:lu B (env::outer) x C a0 s.heap)
  (hQ: ∀h',lu B (env::outer) x C a0 h'->s.heap.UpToSlots h'->Q () { s with heap:=h' }):wpAny M A (noteFrame (.ref x) env) Q E s:=by
 obtain ⟨hkb,hen,hl,fl,oe,vs,T,oT,ts,he,⟨hcls,h0⟩,hd,h1,hnT,hTe,hT,hdT,h3⟩:=id a;subst hcls;unfold noteFrame;simp only [hf];refine Za (wpAny_field he hd h1 ?_);rw [if_pos (show (Value.ref T !=Value.none)=true from by simp)];refine Za (wpAny_field hT hdT h3 ?_);by_cases hfl:(fl==rawInt L)=true
 ·rw [if_pos hfl];exact Zh (hQ s.heap a (Heap.UpToSlots.refl _))
 ·rw [if_neg hfl];refine Za (Wm hT hdT (Array.getElem?_eq_some_iff.mp h3).1 ?_);have other: ∀b,b≠T->(s.heap.update T (Obj.mapFields (·.setIfInBounds 3 Value.none))).get? b=s.heap.get? b:=λ b hb=>Wg _ _ (Ne.symm hb)
  have noRecord: ∀b o,s.heap.get? b=some o->(∀vs,o.data≠ .fields vs)->b≠T:=λ b o hb hnf q=>by
   rw [q,hT] at hb;injection hb with hb;subst hb;exact hnf ts hdT
  refine wpAny_entryW hfr (hl.of_keeps λ b o hb hnf=>⟨o,(other b (noRecord b o hb hnf)).trans hb,rfl⟩) hf ((other x (Ne.symm hTe)).trans he)
   (λ b o hbo=>(other b λ q=>by rw [q,hnT] at hbo;cases hbo).trans (hkb b o hbo)) hen hd (Array.getElem?_eq_some_iff.mp h1).1 h0
   λ h' ⟨x1,x2,x3,x4⟩=>hQ h' ⟨x1,hen,x2,_,x3⟩ λ b o hb hnf=>x4 b o ((other b (noRecord b o hb hnf)).trans hb) hnf
theorem oR {fr:Option Addr} (a:lu B l x C a0 s.heap) (hQ: ∀h',lu B l x C a0 h'->s.heap.UpToSlots h'->Q () { s with heap:=h' }):wpAny M A (setFlight (.ref x) fr) Q E s:=by
 obtain ⟨hkb,hen,hl,fl,oe,vs,T,oT,ts,he,hcls,hd,h1,hnT,hTe,hT,hdT,h3⟩:=a;have hsz3:3<ts.size:=(Array.getElem?_eq_some_iff.mp h3).1;have other: ∀b,b≠T->(s.heap.update T (Obj.mapFields (·.setIfInBounds 3 (fr.elim Value.none λ f=>rawInt f)))).get? b=s.heap.get? b:=
  λ b hb=>Wg _ _ (Ne.symm hb)
 have noRecord: ∀b o,s.heap.get? b=some o->(∀vs,o.data≠ .fields vs)->b≠T:=λ b o hb hnf q=>by
  rw [q,hT] at hb;injection hb with hb;subst hb;exact hnf ts hdT
 unfold setFlight;refine Za (wpAny_field he hd h1 ?_);rw [if_pos (show (Value.ref T !=Value.none)=true from by simp)];refine Wm hT hdT hsz3 (hQ _ ⟨λ b o hbo=>(other b λ q=>by rw [q,hnT] at hbo;cases hbo).trans (hkb b o hbo),hen,
  hl.of_keeps λ b o hb hnf=>⟨o,(other b (noRecord b o hb hnf)).trans hb,rfl⟩,(fr.elim Value.none λ f=>rawInt f),?_⟩ λ b o hb hnf=>⟨o.slots,(other b (noRecord b o hb hnf)).trans hb⟩)
 exact ⟨oe,vs,T,_,_,(other x (Ne.symm hTe)).trans he,hcls,hd,h1,hnT,hTe,Xm _ hT (Wz (Yw hdT _)),Yw hdT _,by simp [hsz3]⟩
theorem wj {α:Type} {Q:α->Shared->Prop} {what:String} (a:lu B l x C a0 s.heap) (hQ: ∀h',lu B l x C a0 h'->s.heap.UpToSlots h'->E (.ref x) { s with heap:=h' }):
  wpAny M A (PySem.passOn what (.ref x) env:Sem α) Q E s:=by
 obtain ⟨_,_,_,fl,oe,vs,T,oT,ts,he,hcls,hd,h1,_⟩:=id a;unfold PySem.passOn;refine Za (wpAny_field he hd h1 ?_);rw [if_neg (show ¬ ((Value.ref T==Value.none)=true) from by simp)]
 first
  | exact Za (Zh (Za (oR a λ h' hh hs=>wpAny_throw (hQ h' hh hs))))
  | exact Za (oR a λ h' hh hs=>wpAny_throw (hQ h' hh hs))
theorem Af (hfr:A.frames=some (env::outer)) (hf:env.frame=some L) (a:lu B (env::outer) x C a0 s.heap)
  (hQ: ∀h',Heap.FlyingW B outer x C a0 h'->s.heap.UpToSlots h'->Q () { s with heap:=h' }):wpAny M A (leaving env (.ref x)) Q E s:=by
 unfold leaving;refine Za (uJ hfr hf a λ h1 a1 u1=> ?_);obtain ⟨hkb,hen,hl,fl,t⟩:=a1;refine wpAny_setFlight_noneW hkb hl t λ h' k1 k2 k3 k4=> ?_
 obtain ⟨_,_,k2⟩:=k2;exact hQ h' ⟨k1,hen,k2,k3⟩ (u1.trans λ b o hb hn=>⟨o.slots,k4 b o hb hn⟩)
theorem CK {B':Heap} (k:B'.StaysIn B) {h:Heap} (a:lu B l x C a0 h):lu B' l x C a0 h:=by
 obtain ⟨f1,f2,f3,fl,oe,vs,T,oT,ts,a1,a2,a3,a4,a5,a6⟩:=a;have fresh: ∀b,B.get? b=none->B'.get? b=none:=λ b hb=>by
  cases hq:B'.get? b with
  | none=>rfl
  | some o'=>have:=k b o' hq;rw [hb] at this;cases this
 exact ⟨λ b o q=>f1 b o (k b o q),fresh _ f2,PySem.W.funFrames_base k f3,fl,oe,vs,T,oT,ts,a1,a2,a3,a4,fresh _ a5,a6⟩
end
theorem oU {B h h':Heap} {D:Addr} (k: ∀b o,b≠D->h.get? b=some o->h'.get? b=some o): ∀ {l:List Env},D∉frs l->h.FunFrames B l->h'.FunFrames B l
 | [],_,_=>trivial
 | env::r,hD,⟨hk,⟨L,o,hf,hn,ho,hd⟩,hr⟩=>by
  have e:frs (env::r)=L::frs r:=by show List.filterMap _ _=_;rw [List.filterMap_cons_some hf];rfl
  rw [e] at hD;exact ⟨hk,⟨L,o,hf,hn,k L o (λ z=>hD (by rw [z];exact Zy)) ho,hd⟩,oU k (λ z=>hD (Zr _ z)) hr⟩
structure Air (P:Program) (w:World) (fp:List Addr) (outer:List Env) (H:Hp) (s:Shared) (E:XK) (x:Addr) (C a0:Value) (B:Heap) (H':Hp) (s':Shared):Prop where
 os:s'.os=s.os
 bare:AllBare s'.gens
 un:Un (frs outer) fp H H' s.heap s'.heap
 hok:HOk P w H' s'.heap
 nx:H' x=none
 air:lu B outer x C a0 s'.heap
 new:x∈fp\/s.heap.get? x=none
 d1: ∀b o,s.heap.get? b=some o->b∉frs outer->b∉fp-> ∃u,B.get? b=some u
 d2: ∀b o,H' b=some o-> ∃u,B.get? b=some u
 ex:E C none H'
section
variable {P:Program} {w:World} {fp:List Addr} {outer:List Env} {H H':Hp} {s s':Shared} {E:XK} {x:Addr} {C a0:Value} {B h':Heap}
theorem Air.step (a:Air P w fp outer H s E x C a0 B H' s') (n:lu B outer x C a0 h') (up:s'.heap.UpToSlots h'):Air P w fp outer H s E x C a0 B H' { s' with heap:=h' }:=by
 have keptB: ∀b o,s'.heap.get? b=some o->(∃v,B.get? b=some v)->h'.get? b=some o:=λ b o e ⟨v,hv⟩=>by
  have z:=a.air.1 b v hv;rw [e] at z
  cases z;exact n.1 b o hv
 have slots: ∀b o,s'.heap.get? b=some o->b∈frs outer-> ∃sl,h'.get? b=some { o with slots:=sl }:=λ b o e hb=>by
  obtain ⟨_,o',e',hd⟩:=a.air.2.2.1.mem hb;rw [e] at e'
  cases e';exact up b o e hd
 refine ⟨a.os,a.bare,⟨λ b o q z hb hx'=> ?_,λ b o q z hb hx'=> ?_,a.un.free,λ b o q hx'=> ?_,a.un.tups,a.un.frzs,a.un.tbls⟩,λ c o e=> ?_,a.nx,n,a.new,a.d1,a.d2,a.ex⟩
 ·exact keptB b o (a.un.keep b o q z hb hx') (a.d1 b o q hb hx')
 ·obtain ⟨sl,e1⟩:=a.un.slot b o q z hb hx';obtain ⟨sl',e2⟩:=slots b _ e1 hb;exact ⟨sl',e2⟩
 ·obtain ⟨o2,e2⟩:=a.un.there b o q hx';by_cases hb:b∈frs outer
  ·obtain ⟨sl,e3⟩:=slots b o2 e2 hb;exact ⟨_,e3⟩
  ·exact ⟨_,keptB b o2 e2 (a.d1 b o q hb hx')⟩
 ·refine (a.hok c o e).stay (λ d v hc z=>keptB d v z ?_) (λ _ z=>z) λ _ _ z=>z
  rcases hc with rfl | hc
  ·exact a.d2 _ _ e
  ·exact a.d2 _ _ hc
theorem Air.other {D:Addr} (a:Air P w fp outer H s E x C a0 B H' s') (hD:s.heap.objs.size<=D) (hn:H' D=none) (hf:D∉frs outer) (hBD: ∃u,B.get? D=some u) (k:Heap.SameBut D s'.heap h'):
  Air P w fp outer H s E x C a0 (PySem.W.hideAll B [D]) H' { s' with heap:=h' }:=by
 have hB:(PySem.W.hideAll B [D]).StaysIn B:=λ b o q=>PySem.W.of_hideAll _ q
 have lt: ∀b o,s.heap.get? b=some o->b≠D:=λ b o e z=>absurd (Zm e) (by rw [z];exact Nat.not_lt.mpr hD)
 have keep: ∀b o,b≠D->s'.heap.get? b=some o->h'.get? b=some o:=λ b o hb e=>k.extBut b o hb e
 obtain ⟨f1,f2,f3,fl,oe,vs,T,oT,ts,a1,a2,a3,a4,a5,a6,a7,a8,a9⟩:=CK hB a.air;obtain ⟨_,g2,_,_,_,_,T',_,_,b1,_,b3,b4,b5,_⟩:=a.air;obtain ⟨uD,hBD⟩:=hBD;have hx:D≠x:=λ z=>by rw [z,g2] at hBD;cases hBD
 have hDT:T≠D:=λ z=>by
  rw [a1] at b1;cases b1;rw [a3] at b3;cases b3;rw [a4] at b4;cases b4;rw [z,hBD] at b5;cases b5
 refine ⟨a.os,a.bare,⟨λ b o q z hb hx'=>keep b o (lt b o q) (a.un.keep b o q z hb hx'),λ b o q z hb hx'=> ?_,a.un.free,λ b o q hx'=> ?_,a.un.tups,a.un.frzs,a.un.tbls⟩,λ c o e=> ?_,a.nx,⟨λ b o q=> ?_,f2,oU keep hf f3,fl,oe,vs,T,oT,ts,keep _ _ (Ne.symm hx) a1,a2,a3,a4,a5,a6,keep _ _ hDT a7,a8,a9⟩,a.new,λ b o q hb hx'=> ?_,λ b o q=> ?_,a.ex⟩
 ·obtain ⟨sl,e1⟩:=a.un.slot b o q z hb hx';exact ⟨sl,keep _ _ (lt b o q) e1⟩
 ·obtain ⟨o2,e2⟩:=a.un.there b o q hx';exact ⟨o2,keep _ _ (lt b o q) e2⟩
 ·refine (a.hok c o e).stay (λ d v hc z=>keep d v (λ y=> ?_) z) (λ _ z=>z) λ _ _ z=>z
  subst y;rcases hc with rfl | hc
  ·rw [hn] at e;cases e
  ·rw [hn] at hc;cases hc
 ·exact keep b o (λ z=>by rw [z,PySem.W.hideAll_none _ Zy] at q;cases q) (f1 b o q)
 ·obtain ⟨u,e⟩:=a.d1 b o q hb hx';exact ⟨u,PySem.W.hideAll_get _ e (by intro z;exact lt b o q (Ze.mp z))⟩
 ·obtain ⟨u,e⟩:=a.d2 b o q;exact ⟨u,PySem.W.hideAll_get _ e (by intro z;rw [Ze.mp z,hn] at q;cases q)⟩
end
section
variable {P:Program} {w:World} {K:W.Frag} {mg:Str->Option Value} {base:Heap} {N:List Str} {qual:Str} {sc:Scope} {f:Addr} {cd:Value} {A:Around} {outer:List Env} {s₀:Shared} {H₀:Hp} {E E':XK}
def Oh (X:Cx) (E:XK):Prop:= ∀ (pins:List (Addr×Obj)) (σ:St) (H:Hp) (s s':Shared) (fp:List Addr) (x:Addr) (C a0:Value) (B:Heap) (H':Hp),Inv X pins σ H s->(∀b∈fp,b∈X.ex\/X.s₀.heap.objs.size<=b)->Air X.prog X.w fp X.stack H s E x C a0 B H' s'->X.xe (.ref x) s'
theorem CN:Oh (jb (kZ P w) P w K mg base N qual sc f cd A outer s₀ H₀ E) E:=by
 intro pins σ H s s' fp x C a0 B H' I hfp a;have fr:(A.deeper (envOfC qual sc s₀.heap.objs.size f cd)).frames=some (envOfC qual sc s₀.heap.objs.size f cd::outer):=I.ok.frames;have u:Un (frs outer) [] H₀ H s₀.heap s.heap:=I.base;have un:Un (frs (envOfC qual sc s₀.heap.objs.size f cd::outer)) fp H H' s.heap s'.heap:=a.un;have fl:lu B (envOfC qual sc s₀.heap.objs.size f cd::outer) x C a0 s'.heap:=a.air;have d1: ∀b o,s.heap.get? b=some o->b∉frs (envOfC qual sc s₀.heap.objs.size f cd::outer)->b∉fp-> ∃u,B.get? b=some u:=a.d1;have nfp: ∀b o,s₀.heap.get? b=some o->b∉fp:=λ b o e hb=>by
  rcases hfp b hb with z | z
  ·cases z
  ·exact absurd (Zm e) (Nat.not_lt.mpr z)
 show wpAny (model P w) (A.deeper (envOfC qual sc s₀.heap.objs.size f cd)) (leaving (envOfC qual sc s₀.heap.objs.size f cd) (.ref x)) (λ _ s''=>kZ P w outer H₀ s₀ E (.ref x) s'') (λ e' s''=>kZ P w outer H₀ s₀ E e' s'') s';refine Af fr rfl fl λ h'' fl' up=> ?_
 have nL: ∀b o,s₀.heap.get? b=some o->b∉frs outer->b∉frs (envOfC qual sc s₀.heap.objs.size f cd::outer):=λ b o e hb hm=>by
  rw [gQ] at hm;rcases Zp.mp hm with z | z
  ·exact absurd (Zm e) (by rw [z];exact Wd _)
  ·exact hb z
 have keptB: ∀b o,s'.heap.get? b=some o->(∃v,B.get? b=some v)->h''.get? b=some o:=λ b o e ⟨v,hv⟩=>by
  have z:=fl.1 b v hv;rw [e] at z
  cases z;exact fl'.1 b o hv
 have slots: ∀b o,s'.heap.get? b=some o->b∈frs (envOfC qual sc s₀.heap.objs.size f cd::outer)-> ∃sl,h''.get? b=some { o with slots:=sl }:=λ b o e hb=>by
  obtain ⟨_,o',e',hd⟩:=fl.2.2.1.mem hb;rw [e] at e'
  cases e';exact up b o e hd
 refine ⟨x,C,a0,B,H',rfl,a.os.trans I.os,a.bare,⟨λ b o q n hb hx'=> ?_,λ b o q n hb hx'=> ?_,λ b o q n hx'=> ?_,λ b o q hx'=> ?_,λ b xs q=>un.tups b xs (u.tups b xs q),λ b o v q=>un.frzs b o v (u.frzs b o v q),λ b ps q=> ?_⟩,λ c o e=> ?_,a.nx,fl',?_,λ b o q hb=> ?_,a.d2,a.ex⟩
 ·have e1:=u.keep b o q n hb hx';have n1:=u.free b o q n hx';exact keptB b o (un.keep b o e1 n1 (nL b o q hb) (nfp b o q)) (d1 b o e1 (nL b o q hb) (nfp b o q))
 ·obtain ⟨sl,e1⟩:=u.slot b o q n hb hx';have n1:=u.free b o q n hx';have hb':b∈frs (envOfC qual sc s₀.heap.objs.size f cd::outer):=by rw [gQ];exact Zr _ hb
  obtain ⟨sl',e2⟩:=un.slot b _ e1 n1 hb' (nfp b o q);obtain ⟨sl'',e3⟩:=slots b _ e2 hb';exact ⟨sl'',e3⟩
 ·obtain ⟨o',e1⟩:=u.there b o q hx';exact un.free b o' e1 (u.free b o q n hx') (nfp b o q)
 ·obtain ⟨o',e1⟩:=u.there b o q hx';obtain ⟨o2,e2⟩:=un.there b o' e1 (nfp b o q);by_cases hb:b∈frs (envOfC qual sc s₀.heap.objs.size f cd::outer)
  ·obtain ⟨sl,e3⟩:=slots b o2 e2 hb;exact ⟨_,e3⟩
  ·exact ⟨_,keptB b o2 e2 (d1 b o' e1 hb (nfp b o q))⟩
 ·obtain ⟨m1,e1⟩:=u.tbls b ps q;obtain ⟨m2,e2⟩:=un.tbls b _ e1;exact ⟨m1++m2,by rw [e2,Array.append_assoc]⟩
 ·refine (a.hok c o e).stay (λ d v hc z=>keptB d v z ?_) (λ _ z=>z) λ _ _ z=>z
  rcases hc with rfl | hc
  ·exact a.d2 _ _ e
  ·exact a.d2 _ _ hc
 ·cases z:s₀.heap.get? x with
  | none=>rfl
  | some o=>
   obtain ⟨o',e1⟩:=u.there x o z (by simp);rcases a.new with y | y
   ·exact absurd y (nfp x o z)
   ·rw [y] at e1;cases e1
 ·obtain ⟨o',e1⟩:=u.there b o q (by simp);exact d1 b o' e1 (nL b o q hb) (nfp b o q)
end
abbrev iI (X:Cx) (sc:Scope) (N':List Str) (cl:List (Str×Addr)) (C:Addr) (s:Shared) (H:Hp) (fp:List Addr) (pins:List (Addr×Obj)) (xe:Value->Shared->Prop):Cx:={ blk X sc N' cl C s H fp pins with xe:=xe }
section
variable {prog:Program} {w:World} {A:Around} {R:Result->Shared->Prop} {s:Shared} {EE:Value->Shared->Prop}
theorem pP {elt target iter:Expr} {ifs:List Expr} {scope:Scope} {pos:Pos} {it acc:Value} {env:Env} (I:Nat->Shared->Prop) (hE: ∀e s,EE e s->notedBy (model prog w) A env (λ e s'=>R (.error e) s') e s)
  (turn: ∀n s,I n s->wpAny (model prog w) A (pyNext it) (λ r s₁=>match r with
   | none=>R (.ok .next) s₁
   | some v=>wpAny (model prog w) A (letOwnedTupleGo target it v) (λ _ s₁'=>wpAny (model prog w) A (assign target env v) (λ _ s₂=>
     wpAny (model prog w) A (forIn ifs true λ c r=>if r=true then do let ok <- isTrue c env (eval c env);pure (ForInStep.yield ok) else pure (ForInStep.yield r)) (λ ok s₃=>
      if ok=true then wpAny (model prog w) A (eval elt env) (λ x s₄=>
       wpAny (model prog w) A (call (.builtin "list.append") [acc,x]) (λ _ s₅=> ∃m,m<n/\I m s₅) EE s₄) EE s₃
      else ∃m,m<n/\I m s₃) EE s₂) EE s₁') EE s₁) EE s)
  (n:Nat) (h:I n s):
  codeAny (model prog w) A (.compLoop (.ListComp elt [⟨target,iter,ifs,0⟩] scope pos) 0 it acc env) R s:=by
 refine codeAny_loop rfl I (λ n s hI=> ?_) n h;show wpAny _ A ((compTurn (.ListComp elt [⟨target,iter,ifs,0⟩] scope pos) 0 it acc env).onRaise (λ x=>do noteFrame x env;theTreesLotGoes x)) _ _ s;refine wpAny_noted ?_;rw [compTurn_list];refine Xe (E:=EE) ?_ (λ _ _ q=>q) hE;refine Za (wpAny_standAt (Za (Xe (turn n s hI) (λ r s₁ h₁=> ?_) λ _ _ h'=>h')))
 cases r with
 | none=>exact Zh h₁
 | some v=>
  refine Za (Xe h₁ (λ _ s₁' h₁'=> ?_) λ _ _ h'=>h');refine Za (Xe h₁' (λ _ s₂ h₂=>Za (Xe h₂ (λ ok s₃ h₃=> ?_) λ _ _ h'=>h')) λ _ _ h'=>h')
  cases ok with
  | false=>exact Zh ⟨rfl,h₃⟩
  | true=>
   exact Za (Za (Xe h₃ (λ x s₄ h₄=>Za (Xe h₄ (λ _ s₅ h₅=>Zh (Zh ⟨rfl,h₅⟩)) λ _ _ h'=>h')) λ _ _ h'=>h'))
end
section
variable {X:Cx} {pins:List (Addr×Obj)} {σ:St} {H2:Hp} {s₂:Shared} {tg iter elt:Expr} {ifs:List Expr} {sc:Scope} {pos:Pos} {N':List Str} {κ:List (Option Nat)} {cl:List (Str×Addr)} {it:Addr} {fp:List Addr} {tn:Nat->Heap->Prop} {J:It} {g:TG} {tc:TT} {te:TE} {E:XK}
theorem Inv.blkIn {C:Addr} {pl:List (Addr×Obj)} {σ':St} {H:Hp} {s:Shared} {xe:Value->Shared->Prop} (I:Inv (blk X sc N' cl C s₂ H2 fp pins) pl σ' H s):Inv (iI X sc N' cl C s₂ H2 fp pins xe) pl σ' H s:=
 ⟨⟨I.ok.mod,I.ok.kind,I.ok.glob,I.ok.blt,I.ok.above,I.ok.inj,I.ok.has,I.ok.cab,I.ok.hd,I.ok.frames,I.ok.stk,I.ok.exf,I.ok.bs,I.ok.bsz,I.ok.noex,I.ok.exfs,I.ok.funs,I.ok.frf⟩,
  I.os,I.bare,I.base,I.loc,I.cell,I.free,I.freeC,I.pin,I.hok,I.len⟩
def jc (X:Cx) (fp:List Addr) (H2:Hp) (s₂:Shared) (E:XK) (C:Addr) (e:Value) (s':Shared):Prop:=
 ∃ (x:Addr) (cc a0:Value) (B:Heap) (H':Hp),e= .ref x/\Air X.prog X.w fp X.stack H2 s₂ E x cc a0 B H' s'/\H' C=none/\(∃u,B.get? C=some u)/\ ∃m,s'.heap.Ns C m
theorem wk {C:Addr} (hC:C∉frs X.stack):jn (kZ X.prog X.w) (iI X sc N' cl C s₂ H2 fp pins (jc X fp H2 s₂ E C)) E:=by
 intro pl σ' H s e s' I h;obtain ⟨x,cc,a0,B,H',rfl,ho,hg,un,hok,hx,fl,sx,d1,d2,q⟩:=h;have ub:Un (frs X.stack) fp H2 H s₂.heap s.heap:=I.base;have un:Un (frs X.stack) [] H H' s.heap s'.heap:=un;have d1: ∀b o,s.heap.get? b=some o->b∉frs X.stack-> ∃u,B.get? b=some u:=d1;have nC:H C=none:=I.free;obtain ⟨m,hn,_⟩:=I.loc;obtain ⟨oC,eC⟩: ∃o,s.heap.get? C=some o:=by
  have:=hn;obtain ⟨o,_,_,eo,_⟩:=this;exact ⟨o,eo⟩
 refine ⟨x,cc,a0,B,H',rfl,⟨ho.trans I.os,hg,ub.trans (un.mono (λ _ z=>z) (λ _ z=>nomatch z)),hok,hx,⟨fl.1,fl.2.1,fl.2.2.1,_,fl.2.2.2⟩,?_,λ b o e hb hf=> ?_,d2,q⟩,un.free C oC eC nC (by simp),d1 C oC eC hC,m,hn.at' λ o e=> ?_⟩
 ·by_cases hf:x∈fp
  ·exact .inl hf
  ·refine .inr ?_
   cases z:s₂.heap.get? x with
   | none=>rfl
   | some o=>
    obtain ⟨o',e1⟩:=ub.there x o z hf;rw [sx] at e1;cases e1
 ·obtain ⟨o',e1⟩:=ub.there b o e hf;exact d1 b o' e1 hb
 ·exact un.keep C o e nC hC (by simp)
theorem CP (hc:X.calm=true) (I:Inv X pins σ H2 s₂) (T:Turn X.prog X.w X.K tg J fp it tn) (st:tn 0 s₂.heap) (f2: ∀b∈fp,kE X pins H2 b)
  (S:CScope X.env.scope sc) (hcap:capOk κ N' X.N sc=true) (hcl1: ∀x c,cl.lookup x=some c->X.env.cells.lookup x=some c) (hcl2: ∀x c,X.env.cells.lookup x=some c->(x,NameKind.free)∈sc.names->cl.lookup x=some c)
  (hg: ∀C,C∉frs X.stack->PG (iI X sc N' cl C s₂ H2 fp pins (jc X fp H2 s₂ E C)) tg g) (hi: ∀C,C∉frs X.stack->vU (iI X sc N' cl C s₂ H2 fp pins (jc X fp H2 s₂ E C)) ifs tc) (he: ∀C,C∉frs X.stack->PE (iI X sc N' cl C s₂ H2 fp pins (jc X fp H2 s₂ E C)) elt te)
  {W:Nat->Nat->List V->Hp->Prop} {Q:VK} {m0:Nat} (w0:W 0 m0 [] H2)
  (turn: ∀i m ys H,W i m ys H->(J.stop i H/\ ∀p,H p=none->Q (.ref p) (upd H p (.lst ys)))\/
   (J.go i H/\ys.length<sizeLine/\ ∃N:List V->Hp->Prop,(∀ys' H',N ys' H'-> ∃m',m'<m/\W (i+1) m' ys' H')/\ ∀x H',J.yld i H x H'->g x (cap κ σ) H' λ σ2 H2=>qp (cap κ σ) σ2/\tc σ2 H2 λ b H3=>if b=true then te σ2 H3 λ y H4=>N (ys++[y]) H4 else N ys H3))
  {EV:Value->Shared->Prop} {RR:Value->Addr->Result->Shared->Prop} (hst:X.stack=X.env::X.outer) (hfr:X.env.frame=some X.env.locals)
  (hRE: ∀D C e s1,s₂.heap.objs.size<=C->C∉frs X.stack->jc X fp H2 s₂ E C e s1->RR (.ref D) C (.error e) s1)
  (hRR: ∀D C H' s1,Left X pins σ C H' s1->Q (.ref D) H'->RR (.ref D) C (.ok .next) s1):
  wpAny (model X.prog X.w) X.A (newList []) (λ acc s₃=>wpAny (model X.prog X.w) X.A (newFunctionEnv sc X.env.globals cl [] X.env.qual none .none (some X.env)) (λ cenv s₄=>
   codeAny (model X.prog X.w) X.A (.compStart (.ListComp elt [⟨tg,iter,ifs,0⟩] sc pos) 0 (.ref it) acc { cenv with scope:=relabel sc X.env }) (RR acc cenv.locals) s₄) EV s₃) EV s₂:=by
 refine Xi (wpAny_newFunctionEnv S.nocell (by intro y hy;simp at hy) (λ h₁ hns₁ hsb₁=> ?_) S.kind);dsimp only at hns₁ hsb₁ ⊢;generalize hH2:s₂.heap.push { cls:= .type "list",dict:=none,data:= .seq ([]:List Value).toArray }=P2 at hns₁ hsb₁ ⊢;have hCs:P2.objs.size=s₂.heap.objs.size+1:=by rw [<- hH2,Heap.size_push]
 generalize hCe:P2.objs.size=C at hns₁ hsb₁ hCs ⊢;generalize hDe:s₂.heap.objs.size=D at hCs ⊢;have hDC:D≠C:=by rw [hCs];exact Yc (Nat.lt_succ_self _)
 have hC:s₂.heap.objs.size<=C:=by rw [hDe,hCs];exact Nat.le_succ _
 have hD:s₂.heap.objs.size<=D:=by rw [hDe];exact Zn _
 have below: ∀b,b<s₂.heap.objs.size->b≠C/\b≠D:=λ b hb=>⟨Nat.ne_of_lt (Zs hb hC),Yc (Zs hb hD)⟩
 have old: ∀b o,s₂.heap.get? b=some o->h₁.get? b=some o:=λ b o e=>hsb₁.extBut b o (below b (Zm e)).1 (Zd _ (hH2▸Zd _ e))
 have hacc:h₁.get? D=some { cls:= .type "list",data:= .seq ([]:List Value).toArray ([]:List Value).length }:=by
  have q:P2.get? s₂.heap.objs.size=some { cls:= .type "list",data:= .seq ([]:List Value).toArray 0 }:=hH2▸Zo _ rfl;rw [hDe] at q;exact hsb₁.extBut _ _ hDC (Zd _ q)
 have fl: ∀b∈fp,b<s₂.heap.objs.size:=λ b hb=>by
  obtain ⟨o,e,_⟩:=T.obj 0 _ st b hb;exact Zm e
 have st₁:tn 0 h₁:=T.keep 0 _ _ st λ b _ o e=>old b o e
 have hCf:C∉frs X.stack:=λ z=>by
  rcases Zp.mp (I.stkSub C z) with y | y
  ·exact absurd I.lt (by rw [show X.env.locals=C from y.symm];exact Nat.not_lt.mpr hC)
  ·exact absurd y (I.nofs hC)
 have IB: ∀tk,Inv (iI X sc N' cl C s₂ H2 fp pins (jc X fp H2 s₂ E C)) [] (cap κ σ) H2 { s₂ with heap:=h₁,toks:=tk }:=λ tk=>(yz I f2 fl S hcap hcl1 hcl2 hC hns₁ old).blkIn
 have cells: ∀x c,cl.lookup x=some c->c<s₂.heap.objs.size:=λ x c hx=>by
  obtain ⟨v,o,e,_⟩:=I.cell x c (hcl1 x c hx);exact Zm e
 have pnlt: ∀p∈X.pn++pins,p.1<s₂.heap.objs.size:=λ p hp=>Zm (I.pin p hp).1
 have stat: ∀ {H':Hp} {pl:List (Addr×Obj)},(∀b∈fp,H' b=none)->(∀p∈pl,p.1=D)-> ∀b∈fp,kE (iI X sc N' cl C s₂ H2 fp pins (jc X fp H2 s₂ E C)) pl H' b:=λ {H' pl} hn hpl b hb=>by
  refine ⟨hn b hb,(below b (fl b hb)).1,λ z=> ?_, .inl hb,λ x c hx=>(f2 b hb).2.2.2.2.1 x c (hcl1 x c hx),λ p hp=> ?_⟩
  ·rcases Zp.mp (I.stkSub b z) with z | z
   ·exact (f2 b hb).2.1 z
   ·exact (f2 b hb).2.2.1 z
  ·rcases Zv.mp hp with z | z
   ·exact (f2 b hb).2.2.2.2.2 p z
   ·rw [hpl p z];exact Ne.symm (below b (fl b hb)).2
 have pinD: ∀ {s':Shared} {σ':St} {H':Hp} {o:Obj},Inv (iI X sc N' cl C s₂ H2 fp pins (jc X fp H2 s₂ E C)) [] σ' H' s'->s'.heap.get? D=some o->H' D=none->(∀v,o.data≠ .cell v)->Inv (iI X sc N' cl C s₂ H2 fp pins (jc X fp H2 s₂ E C)) [(D,o)] σ' H' s':=λ {s' σ' H' o} I' e n d=>
  I'.pins_of λ p hp=>by
   rw [Ze.mp hp];refine ⟨e,n,hDC,λ z=> ?_,d⟩;have z':D<s₂.heap.objs.size:=by
    rcases Zp.mp (I.stkSub D z) with y | y
    ·have y':D=X.env.locals:=y;rw [y'];exact I.lt
    ·exact absurd y (I.nofs hD)
   exact absurd z' (Nat.not_lt.mpr hD)
 have loop : ∀ s₃ : Shared, s₃ = { s₂ with heap := h₁, toks := s₂.toks + ([] : List (Str × Value)).length } ->
   codeAny (model X.prog X.w) X.A (.compLoop (.ListComp elt [⟨tg,iter,ifs,0⟩] sc pos) 0 (.ref it) (.ref D) (compEnvC sc cl C X.env)) (RR (.ref D) C) s₃:=by
  rintro s₃ rfl;have hNote: ∀e s,jc X fp H2 s₂ E C e s->notedBy (model X.prog X.w) X.A (compEnvC sc cl C X.env) (λ e s'=>RR (.ref D) C (.error e) s') e s:=by
   rintro e s ⟨x,cc,a0,B,H',rfl,a,nC,bC,m,hn⟩;show wpAny (model X.prog X.w) X.A (noteFrame (.ref x) (compEnvC sc cl C X.env)) _ _ s;rw [Ae (env:=X.env) (env':=compEnvC sc cl C X.env) rfl];have fr:X.A.frames=some (X.env::X.outer):=by rw [<- hst];exact I.ok.frames
   have ha:lu B (X.env::X.outer) x cc a0 s.heap:=by rw [<- hst];exact a.air
   refine uJ fr hfr ha λ h' n up=>hRE D C _ _ hC hCf ⟨x,cc,a0,B,H',rfl,a.step (by rw [hst];exact n) up,nC,bC,m,up.ns hn⟩
  refine pP (EE:=jc X fp H2 s₂ E C) (λ n s'=> ∃ (i:Nat) (ys:List V) (its:List Value) (H':Hp),Inv (iI X sc N' cl C s₂ H2 fp pins (jc X fp H2 s₂ E C)) [] (cap κ σ) H' s'/\tn i s'.heap/\(∀b∈fp,H' b=none)/\
   s'.heap.get? D=some { cls:= .type "list",data:= .seq its.toArray its.length }/\Vals ys its/\H' D=none/\ys.length<=sizeLine/\W i n ys H') hNote ?_ m0
   ⟨0,[],[],H2,IB _,st₁,λ b hb=>(f2 b hb).1,hacc, .nil,I.hok.fresh hD,Yu _,w0⟩
  rintro n s3 ⟨i,ys,its,H3,I3,st3,fr3,d3,v3,n3,z3,w3⟩;have I3':=pinD I3 d3 n3 (by intro v z;cases z);have ff:=stat (pl:=[(D,({ cls:= .type "list",data:= .seq its.toArray its.length }:Obj))]) fr3 (λ p hp=>by rw [Ze.mp hp]);rcases turn i n ys H3 w3 with ⟨stop,qn⟩ | ⟨go,hlt,N,hN,step⟩
  ·refine bL (T.done (iI X sc N' cl C s₂ H2 fp pins (jc X fp H2 s₂ E C)) rfl rfl rfl hc i _ s3 (cap κ σ) H3 _ I3' ff st3 stop) λ r s4 ⟨hr,I4⟩=> ?_
   subst hr;show RR (.ref D) C (.ok .next) s4;obtain ⟨dD,nD,_⟩:=I4.pin (D,_) (Yg _ Zy);have nC:H3 C=none:=I4.free;have u4:=I4.base;have hok:HOk X.prog X.w (upd H3 D (.lst ys)) s4.heap:=HOk.track I4.hok nD ⟨z3,its,its.length,v3,dD⟩;have un:Un (frs X.stack) fp H2 (upd H3 D (.lst ys)) s₂.heap s4.heap:=
    ⟨u4.keep,u4.slot,λ b o q n hx=>by rw [aD (below b (Zm q)).2];exact u4.free b o q n hx,u4.there,
     λ b xs q=>by rw [aD (aU (u4.tups b xs q) nD)];exact u4.tups b xs q,
     λ b o x q=>by rw [aD (aU (u4.frzs b o x q) nD)];exact u4.frzs b o x q,
     λ b ps q=>by
      obtain ⟨m1,e1⟩:=u4.tbls b ps q;exact ⟨m1,by rw [aD (aU e1 nD)];exact e1⟩⟩
   have IX:Inv X pins σ (upd H3 D (.lst ys)) s4:=I.call' (by exact I4.os) un hok I4.bare λ b hb=>⟨(f2 b hb).2.2.2.1,(f2 b hb).2.1,(f2 b hb).2.2.2.2⟩
   obtain ⟨m4,hn4,_⟩:=I4.loc;refine hRR D C _ s4 ⟨IX,⟨m4,hn4⟩,by rw [aD (Ne.symm hDC)];exact nC,Ne.symm (below _ I.lt).1,I.nofs hC,Zw I.sz hC,λ x c hx=> ?_,λ p hp=>(below _ (pnlt p hp)).1⟩ (qn D nD);obtain ⟨v,o,e,_⟩:=I.cell x c hx;exact (below c (Zm e)).1
  ·refine bL (T.item (iI X sc N' cl C s₂ H2 fp pins (jc X fp H2 s₂ E C)) rfl rfl rfl hc i _ s3 (cap κ σ) H3 _ I3' ff st3 go) λ r s4 ⟨u,hr,h4⟩=> ?_
   subst hr;refine bL h4 λ _ s5 ⟨x,H5,I5,r5,y5,st5,fr5⟩=> ?_
   have ff5:=stat (pl:=[(D,({ cls:= .type "list",data:= .seq its.toArray its.length }:Obj))]) fr5 (λ p hp=>by rw [Ze.mp hp]);have I5':=I5.pinned ff5 (T.obj _ _ st5);refine bL (hg C hCf _ s5 (cap κ σ) H5 x u _ I5' r5 (step x H5 y5)) λ _ s6 ⟨σ6,H6,I6,ex6,q6⟩=> ?_
   refine bL (hi C hCf _ s6 σ6 H6 _ I6 q6) λ ok s7 ⟨H7,I7,q7⟩=> ?_
   have keep: ∀ {σ8:St} {H8:Hp} {s8:Shared},Inv (iI X sc N' cl C s₂ H2 fp pins (jc X fp H2 s₂ E C)) ([(D,({ cls:= .type "list",data:= .seq its.toArray its.length }:Obj))]++kI fp s5.heap) σ8 H8 s8->
     tn (i+1) s8.heap/\(∀b∈fp,H8 b=none)/\s8.heap.get? D=some { cls:= .type "list",data:= .seq its.toArray its.length }/\H8 D=none:=λ {σ8 H8 s8} I8=>by
    refine ⟨T.keep _ _ _ st5 λ b hb o e=>(I8.pin (b,o) (Yg _ (Yg _ (dY hb e)))).1,λ b hb=> ?_,?_⟩
    ·obtain ⟨o,e,d⟩:=T.obj _ _ st5 b hb;exact (I8.pin (b,o) (Yg _ (Yg _ (dY hb e)))).2.1
    ·obtain ⟨e,n,_⟩:=I8.pin (D,_) (Yg _ (Xo _ Zy));exact ⟨e,n⟩
   cases ok with
   | false=>
    have q7':N ys H7:=by simpa using q7
    obtain ⟨m',hm,w7⟩:=hN _ _ q7';obtain ⟨t8,f8,d8,n8⟩:=keep I7;show ∃m,m<n/\_;exact ⟨m',hm,i+1,ys,its,H7,(I7.pins_of (pins':=[]) (λ p hp=>nomatch hp)).weak ex6.1.symm ex6.2,t8,f8,d8,v3,n8,z3,w7⟩
   | true=>
    have q7':te σ6 H7 λ y H4=>N (ys++[y]) H4:=by simpa using q7
    show wpAny _ _ (eval elt (compEnvC sc cl C X.env)) _ _ s7;refine bL (he C hCf _ s7 σ6 H7 _ I7 q7') λ v s8 ⟨y,H8,I8,r8,q8⟩=> ?_
    obtain ⟨m',hm,w8⟩:=hN _ _ q8;obtain ⟨t8,f8,d8,n8⟩:=keep I8;refine append_at (hsz:=by rw [Yf,<- v3.length];exact z3) d8 λ h9 hs9 hd9=> ?_
    have I9:Inv (iI X sc N' cl C s₂ H2 fp pins (jc X fp H2 s₂ E C)) [] σ6 H8 { s8 with heap:=h9,toks:=s8.toks }:=by
     refine (I8.pins_of (pins':=[]) (λ p hp=>nomatch hp)).turned (λ b o hb e=>hs9.extBut b o hb e) n8 hDC (.inr hD) (λ x c hx=>(below c (cells x c hx)).2) λ p hp=> ?_
     have hp':p∈X.pn++pins:=by simpa using hp
     exact (below _ (pnlt p hp')).2
    refine ⟨m',hm,i+1,ys++[y],its++[v],H8,I9.weak ex6.1.symm ex6.2,T.keep _ _ _ t8 λ b hb o e=>hs9.extBut b o (below b (fl b hb)).2 e,f8,?_,Vals.append v3 (.cons r8 .nil),n8,?_,w8⟩
    ·show h9.get? D=_;rw [hd9];simp
    ·rw [Yl,Wy];exact hlt
 exact codeAny_compStart_list (loop _ rfl) (T.self X.A 0 _ _ _ st₁ (loop _ rfl))
theorem Kg {wi:TI} (κ:List (Option Nat)) (N':List Str) (hl:Oh X E) (hst:X.stack=X.env::X.outer) (hfr:X.env.frame=some X.env.locals) (hc:X.calm=true) (hit:PI X tg iter wi) (S:CScope X.env.scope sc) (hcap:capOk κ N' X.N sc=true)
  (hg: ∀cl C s H fp pins xe,PG (iI X sc N' cl C s H fp pins xe) tg g) (hi: ∀cl C s H fp pins xe,vU (iI X sc N' cl C s H fp pins xe) ifs tc)
  (he: ∀cl C s H fp pins xe,jn (kZ X.prog X.w) (iI X sc N' cl C s H fp pins xe) E->PE (iI X sc N' cl C s H fp pins xe) elt te)
  (hs: ∀x,foldedSetIterable iter X.env x=pure x:=by intro _;rfl):PE X (.ListComp elt [⟨tg,iter,ifs,0⟩] sc pos) (qt κ wi g tc te):=by
 intro pins s σ H Q I h;obtain ⟨cl,hclos,hcl1,hcl2⟩:=rE (sc:=sc) (env:=X.env) λ y hy hf=>I.ok.has y.1 (S.frees y hy hf)
 rw [eval_ListComp];refine wpAny_comprehension_free (use:=none) rfl hs hclos S.kind S.locs (bL (hit pins s σ H _ I h) λ v s1 h1=>bL h1 λ itv s2 h2=> ?_);obtain ⟨it,fp,tn,J,H2,e,I2,T,st2,f2,W,⟨m0,w0⟩,turn⟩:=h2;subst e;refine CP (E:=E) hc I2 T st2 f2 S hcap hcl1 hcl2 (λ C _=>hg cl C s2 H2 fp pins _) (λ C _=>hi cl C s2 H2 fp pins _) (λ C hCf=>he cl C s2 H2 fp pins _ (wk hCf)) w0 turn hst hfr ?_ λ D C H' s1 l q=> ?_
 ·rintro D C e s3 hC hCf ⟨x,cc,a0,B,H',rfl,a,nC,bC,m,hn⟩;refine ⟨m,hn,λ h' hs' cenv _=>wj (a.other hC nC hCf bC hs').air λ h'' n up=> ?_⟩;exact hl pins σ H2 s2 _ fp x cc a0 _ H' I2 (λ b hb=>(f2 b hb).2.2.2.1) ((a.other hC nC hCf bC hs').step n up)
 ·obtain ⟨m,hn⟩:=l.ns;exact ⟨m,hn,λ h' hs'=>⟨V.ref D,H',l.go hs',rfl,q⟩⟩
end
end L2
end
section
namespace PySem
open PyProof.Rows
section
variable {prog:Program} {w:World} {A:Around} {E:Value->Shared->Prop} {s:Shared}
def Heap.IsRevT (h:Heap) (a t:Addr) (i:Int):Prop:= ∃o,h.get? a=some o/\o.cls= .type "reversed"/\o.data= .fields #[.ref t,rawInt i]
end
end PySem
namespace L2
open PySem PySem.Spec PyProof.Rows
def Oi (K:W.Frag) (a:Addr) (n:Nat):It where
 go:=λ i H=> ∃xs x,SqT K H a xs/\xs.length=n/\i<n/\xs[n-1-i]? =some x
 yld:=λ i H x H'=>H'=H/\ ∀ys,SqT K H a ys->ys[n-1-i]? =some x
 stop:=λ i _=>i=n
def RP (K:W.Frag) (ta:TA):TI:=λ σ H R=>ta σ H λ vs H1=> ∃a xs,vs=[.ref a]/\SqT K H1 a xs/\R (Oi K a xs.length) H1
end L2
end
section
namespace PySem
open Sem (wp)
open AutoSeq1 (wpAny_loadPart')
abbrev uK (i:Int) (t:Tok):List (Str×Value):=[(Str.ofString "start", .int i t)]
end PySem
namespace L2
open PySem PySem.Spec PyProof.Rows
theorem wu {P:Program} {w:World} {A:Around} {it:Addr} {fp:List Addr} {n:Nat} {Pv:Nat->Value->Prop} {St:Nat->Heap->Prop} (D:Draws P w A it fp n Pv St) (o:Nat):
  Draws P w A it fp (n+o) (λ i=>Pv (i-o)) (λ i h=>o<=i/\St (i-o) h) where
 live:=λ i h st=>D.live _ h st.2
 frame:=λ i h h' st hk=>⟨st.1,D.frame _ h h' st.2 hk⟩
 item:=λ i s Q E hi st hQ=>D.item (i-o) s Q E (by rfl') st.2 λ x h' tk p st' sb=>hQ x h' tk p ⟨by rfl',by rw [show i+1-o=i-o+1 by rfl'];exact st'⟩ sb
 done:=λ s Q E st hE=>D.done s Q E (by have:=st.2;rwa [Nat.add_sub_cancel] at this) hE
def RQ (K:W.Frag) (a:Addr) (o:Nat):It:=
 ⟨λ i H=> ∃xs x,SqL K H a xs/\xs[i]? =some x,
  λ i H v H'=> ∃p x,H p=none/\v= .ref p/\H'=upd H p (.tup [.int ((i+o:Nat):Int),x])/\ ∀xs,SqL K H a xs->xs[i]? =some x,
  λ i H=> ∃xs,SqL K H a xs/\xs.length=i⟩
structure EnSf (e it a:Addr) (o i:Nat) (h:Heap):Prop where
 he: ∃old,IsEnum h e it ((i+o:Nat):Int) old
 h1:h.IsListIter it a i
theorem Hb {M:Model} {A:Around} {env:Env} {E:Value->Shared->Prop} {s:Shared} {pos:Pos} {T:String} {e:Expr} {kws:List Keyword} {Q:Value->Shared->Prop}
  (h:wpAny M A (spliced (backTo pos (starEach [e] env))) (λ vs s1=>wpAny M A (evalAll ((backToKw pos (keywordEach kws env)).map (·.2))) (λ ks s2=>wpAny M A (call (.type T) vs (((backToKw pos (keywordEach kws env)).filterMap (·.1)).zip ks)) Q E s2) E s1) E s)
  (he:backTo pos (starEach [e] env)=(false,eval e env)::backTo pos (starEach [] env)) (hp:(backTo pos (starEach [e] env)).any (·.1)=false)
  (hall:(backToKw pos (keywordEach kws env)).all (·.1.isSome)=true) (hkw:(backToKw pos (keywordEach kws env)).any (·.1.isNone)=false):
  wpAny M A (callWith pos (.type T) [] (backTo pos (starEach [e] env)) (backToKw pos (keywordEach kws env))) Q E s:=by
 have h2:wpAny M A (evalArgs (.type T) true (backTo pos (starEach [e] env)) (backToKw pos (keywordEach kws env))) (λ a s1=>wpAny M A (call (.type T) ([]++a.pos) a.kw) Q E s1) E s:=by
  rw [he] at h ⊢;exact evalArgs_kwB hall h
 unfold callWith;refine Za (Wi (bL h2 λ a s1 h1=>Za (wpAny_standAt ?_)));simp only [hp,hkw,Bool.or_false];exact Za (Zh (Za (bL h1 λ r s2 hr=>Za (Wi (wpAny_point (Zh hr))))))
def R7 (K:W.Frag) (ta tk:TA):TI:=λ σ H R=>ta σ H λ vs H1=>tk σ H1 λ ks H2=> ∃a xs o,vs=[.ref a]/\ks=[.int ((o:Nat):Int)]/\o<=1000000000/\SqL K H2 a xs/\R (RQ K a o) H2
end L2
end
section
namespace L2
open PySem PySem.Spec PyProof.Rows
def Tv (r:V->V->Hp->VK->Prop) (ta tk:TA):TE:=λ σ H Q=>ta σ H λ vs H1=>tk σ H1 λ ks H2=> ∃x y,vs=[x]/\ks=[y]/\r x y H2 Q
end L2
end
section
namespace L2
open PySem PySem.Spec PyProof.Rows
def Oj (K:W.Frag) (a b:Addr):It:=
 ⟨λ i H=> ∃xs ys x y,SqT K H a xs/\SqT K H b ys/\xs[i]? =some x/\ys[i]? =some y,
  λ i H v H'=> ∃p x y,H p=none/\v= .ref p/\H'=upd H p (.tup [x,y])/\(∀xs,SqT K H a xs->xs[i]? =some x)/\ ∀ys,SqT K H b ys->ys[i]? =some y,
  λ i H=> ∃xs ys,SqT K H a xs/\SqT K H b ys/\(xs.length<=i\/ys.length<=i)⟩
structure ZipStU (z TI TO i1 i2 a b:Addr) (i:Nat) (h:Heap):Prop where
 hz:IsZip h z TI TO .none
 hTI:IsPair h TI (.ref i1) (.ref i2)
 hTO: ∃u v,IsPair h TO u v
 h1:h.IsTupleIter i1 a i
 h2:h.IsTupleIter i2 b i
 aTO:a≠TO
 bTO:b≠TO
def RT (K:W.Frag) (ta:TA):TI:=λ σ H R=>ta σ H λ vs H1=> ∃a b xs ys,vs=[.ref a, .ref b]/\SqT K H1 a xs/\SqT K H1 b ys/\R (Oj K a b) H1
end L2
end
section
namespace L2
open PySem PySem.Spec PyProof.Rows
def RV (te:TE):TE:=λ σ H Q=>te σ H λ x H1=> ∃n:Nat,x= .int (n:Int)/\n<=1000000/\ ∀p,H1 p=none->Q (.ref p) (upd H1 p (.tup ((List.range n).map λ i:Nat=>V.int (i:Int))))
end L2
end
section
namespace L2
open PySem PySem.Spec PyProof.Rows PySem.W
abbrev ww:R2:=rI IntMulOk λ i j=> .int (i*j)
theorem Hc {X:Cx}:iH X (binaryOp .Mult) ww:=NP λ _ _ _ _ _ _ _ hc q=>mul_int q hc
theorem yO: ∀ (ns:List Int) (n:Int),n∈ns->Builtin.Int.intBits n<=WData.weightAll (ns.map WData.int)
 | m::r,n,h=>by
  have e:WData.weightAll ((m::r).map WData.int)=WData.weight (.int m)+1+WData.weightAll (r.map WData.int):=rfl;rw [e];rcases Zp.mp h with rfl | h
  ·have:Builtin.Int.intBits n=WData.weight (.int n):=by simp only [WData.weight,Builtin.Int.intBits]
   rfl'
  ·have:=yO r n h;rfl'
theorem uL {ns:List Int} (h:WData.layableAll [WData.list (ns.map WData.int)]=true) {n:Int} (hn:n∈ns):Builtin.Int.intBits n<=2^20:=by
 have h1:WData.layable (WData.list (ns.map WData.int))=true:=by simpa [WData.layableAll] using h
 unfold WData.layable at h1;simp only [Xw,decide_eq_true_eq] at h1;have h2:WData.weight (WData.list (ns.map WData.int))=WData.weightAll (ns.map WData.int):=by simp only [WData.weight]
 have h3:=h1.2;rw [h2] at h3;exact Zw (yO ns n hn) h3
theorem Ag {l:OpenLaw} {n k:Nat} {q:Program} {loose:List Str} {XP:(Str->Option Value)->Heap->Prop} {YP:World->Heap->Prop} {d:DefRec} {K:Params->Frag}
  {CX:World->Bb} {sp:World->Sp} {x:Str} (hn:l.most=some n) (hn2:n<=sizeLine) (hdf:d.params.defaults=[]) (hr:Room k callerA) (hY: ∀w h,YP w h->(K w.params).In h)
  (F: ∀ (w:World) (mg:Str->Option Value) (fa:Addr) (h:Heap),(K w.params).In h->h.Ns mainGlobals mg->mg d.name=some (.ref fa)-> ∃fd:FuncData,
   (∀ (s:Shared) (u:Value),BindsTo s fd ⟨[u],[]⟩ [(x,u)])/\ ∀base:Heap,(K w.params).In base->base.Ns mainGlobals mg->FnOk l.prog w (K w.params) mg base (CX w) k fa fd [x] (sp w))
  (hsp: ∀ (w:World) (H:Hp) (a:Addr) (ns:List Int),ns.length<=n->(∀i∈ns,Builtin.Int.intBits i<=2^20)->Only H->SqL (K w.params) H a (ns.map V.int)->
   sp w [.ref a] H (λ v _=>v= .bl true) λ _ _ _=>False)
  (hCX: ∀ (w:World) (H:Hp) (s:Shared) (e:Value) (s':Shared),CX w [] H s (λ _ _ _=>False) e s'->False):WalkO q loose XP YP l.row.toRowW d [] (λ f vs=>PySem.call f vs):=by
 intro w s₀ s₁ mg mb G Y fa o pm cd doc dV kV ho hd hcd hD hmg hg args vals as hpre hlay hrd hwl hlo
 cases Dflts.none hD hdf;cases Dflts.noKw hD;obtain ⟨a,vs,ns,rfl,rfl,hobj,hints,hlen⟩:=Att.zT hn hpre hwl;have hb:=λ i (hi:i∈ns)=>uL hlay hi
 have KX:=hY w _ Y;obtain ⟨fd,hbd,hF⟩:=F w mg fa _ KX G.T.g hmg;have C:=BZ KX G.T.g G.T.b G.T.builtins G.T.nolimit hg hobj hints (Zw hlen hn2) hr hF hbd (λ H hO hS=>hsp w H a ns hlen hb hO hS) λ H e s'=>hCX w H s₁ e s'
 refine enter_call (codeAny_mono C λ r s' hq=> ?_);obtain ⟨rfl,h2,h3,h4⟩:=hq;refine ⟨.inl ⟨.bool true, .bool true,[],rfl,λ _=>rfl, .bool true,Att.zU l _,λ _=>⟨.nil,λ _ hm=>(nomatch hm)⟩⟩,h2,h3,h4⟩
end L2
end
section
namespace Sm
open PySem PyProof.Rows Sx
def Ol:Bool->Keyed->Array Keyed->Nat->Nat->Nat->StateT SortSt Sem (Option Nat):=sortPriv%PySem.Builtin.gallop
def R8:Nat->StateT SortSt Sem Unit:=sortPriv%PySem.Builtin.setMinGallop
def Sd (B:Keyed->Keyed->Bool) (l:List Keyed):Prop:=l.Pairwise λ x y=>B y x=false
def Sg (z st:SortSt):Prop:= ∃g,z=SortSt.mk' (kindOf st) (arrOf st) (pendingOf st) g (failedOf st)
structure Mg (B:Keyed->Keyed->Bool) (A1 A2 B1 B2 o:List Keyed):Prop where
 pm:o.Perm (A1++B1)
 sd:Sd B o
 le: ∀x∈o,∀y,y∈A2\/y∈B2->B y x=false
section
variable {α β γ τ:Type}
inductive Se (D:Array Keyed->Prop) (P:Nat->α->β->γ->Prop) (n:Nat):Option (Array Keyed)×α×β×γ×τ->Prop
 | dn {x:Array Keyed} {t:α×β×γ×τ} (h:D x):Se D P n (some x,t)
 | go {a:α} {b:β} {c:γ} {t:τ} (h:P n a b c):Se D P n (none,a,b,c,t)
inductive Sy (P:Nat->α->β->γ->Prop) (n:Nat):Option (Array Keyed)×α×β×γ×τ->Prop
 | go {a:α} {b:β} {c:γ} {t:τ} (h:P n a b c):Sy P n (none,a,b,c,t)
def Sr (D:Array Keyed->Prop) (P:Nat->α->β->γ->Prop) (n:Nat):ForInStep (Option (Array Keyed)×α×β×γ×τ)->Prop
 | .done c=>Se D P n c
 | .yield c=>Sy P n c
abbrev TF (α β γ:Type):=Nat->α->β->γ->Nat->Nat->StateT SortSt Sem (ForInStep (Option (Array Keyed)×α×β×γ×Nat×Nat))
abbrev TG (α β γ:Type):=α->β->γ->Nat->Nat->Nat->StateT SortSt Sem (ForInStep (Option (Array Keyed)×α×β×γ×Nat×Nat×Nat))
structure Gn (prog:Program) (w:World) (A:Around) (E:Value->Shared->Prop) (s:Shared) (st:SortSt) (D:Array Keyed->Prop) (P:Nat->α->β->γ->Prop) (tot:Nat) (F:TF α β γ) (G:TG α β γ):Prop where
 mo: ∀ {n m a b c},m<=n->P n a b c->P m a b c
 lt: ∀ {n a b c},P n a b c->n<tot
 f: ∀ {n a b c mg ac bc z},Sg z st->P n a b c->wpS (model prog w) A E s (F mg a b c ac bc) (λ r z'=>z'=z/\Sr D P (n+1) r) z
 g: ∀ {n a b c mg ac bc z},Sg z st->P n a b c->wpS (model prog w) A E s (G a b c mg ac bc) (λ r z'=>Sg z' st/\Sr D P (n+1) r) z
variable {prog:Program} {w:World} {A:Around} {E:Value->Shared->Prop} {s:Shared} {st:SortSt} {D:Array Keyed->Prop} {P:Nat->α->β->γ->Prop} {tot:Nat} {F:TF α β γ} {G:TG α β γ}
end
structure Ml (B:Keyed->Keyed->Bool) (L1 L2 A1 A2 B1 B2 o:List Keyed):Prop where
 e1:L1=A1++A2
 e2:L2=B1++B2
 mg:Mg B A1 A2 B1 B2 o
section
variable {prog:Program} {w:World} {A:Around} {E:Value->Shared->Prop} {s:Shared} {kd:SortKind} {a0:Array Keyed} {B:Keyed->Keyed->Bool} {st:SortSt} {L1 L2:List Keyed}
def Gd (B:Keyed->Keyed->Bool) (L1 L2:List Keyed) (r:Array Keyed):Prop:= ∃l:List Keyed,r=l.toArray/\l.Perm (L1++L2)/\Sd B l
inductive PL (B:Keyed->Keyed->Bool) (L1 L2:List Keyed) (n:Nat):Array Keyed->Nat->Nat->Prop
 | mk {A1 A2 B1 B2 o:List Keyed} (m:Ml B L1 L2 A1 A2 B1 B2 o) (h1:2<=A2.length) (h2:1<=B2.length) (h3:n+1<=A1.length+B1.length):PL B L1 L2 n o.toArray A1.length B1.length
end
abbrev HS:=ForInStep (Option (Array Keyed)×Nat×Nat×Array Keyed×Nat×Nat×Nat)
def H3 (a b o:Array Keyed) (p q mg ac k:Nat):StateT SortSt Sem HS:=do
 let u <- elem' a (p-1)
 if (p-1==0)=true then
  pure (.done (some (a.extract 0 (p-1)++b.extract 0 q++(o.push u).reverse),p-1,q,o.push u,mg,ac,k))
 else if (decide (ac<7)&&decide (k<7))=true then pure (.done (none,p-1,q,o.push u,mg,ac,k))
 else pure (.yield (none,p-1,q,o.push u,mg,ac,k))
def H2 (a b o:Array Keyed) (p q mg ac bc:Nat):StateT SortSt Sem HS:=do
 let u <- elem' b (q-1)
 if (q-1==1)=true then
  pure (.done (some (b.extract 0 (q-1)++a.extract 0 p++(o.push u).reverse),p,q-1,o.push u,mg,ac,bc))
 else do
  let v <- elem' a (p-1)
  let x <- Ol true v b 0 (q-1) (q-1-1)
  match x with
  | some f=>
   if q-1-f>0 then
    if (f==1)=true then
     pure (.done (some (b.extract 0 f++a.extract 0 p++(o.push u++(b.extract f (q-1)).reverse).reverse),p,f,o.push u++(b.extract f (q-1)).reverse,mg,ac,q-1-f))
    else if (f==0)=true then
     pure (.done (some (a.extract 0 p++b.extract 0 f++(o.push u++(b.extract f (q-1)).reverse).reverse),p,f,o.push u++(b.extract f (q-1)).reverse,mg,ac,q-1-f))
    else H3 a b (o.push u++(b.extract f (q-1)).reverse) p f mg ac (q-1-f)
   else H3 a b (o.push u) p (q-1) mg ac (q-1-f)
  | _=>pure (.done (some (a.extract 0 p++b.extract 0 (q-1)++(o.push u).reverse),p,q-1,o.push u,mg,ac,bc))
def H1 (a b o:Array Keyed) (p q mg ac bc:Nat):StateT SortSt Sem HS:=do
 R8 mg
 let u <- elem' b (q-1)
 let x <- Ol false u a 0 p (p-1)
 match x with
 | some f=>
  if p-f>0 then
   if (f==0)=true then
    pure (.done (some (a.extract 0 f++b.extract 0 q++(o++(a.extract f p).reverse).reverse),f,q,o++(a.extract f p).reverse,mg,p-f,bc))
   else H2 a b (o++(a.extract f p).reverse) f q mg (p-f) bc
  else H2 a b o p q mg (p-f) bc
 | _=>pure (.done (some (a.extract 0 p++b.extract 0 q++o.reverse),p,q,o,mg,ac,bc))
structure Mh (B:Keyed->Keyed->Bool) (L1 L2 A1 A2 B1 B2 o:List Keyed):Prop where
 e1:L1=A1++A2
 e2:L2=B1++B2
 pm:o.Perm (A2++B2)
 sd:Sd B o
 le: ∀x∈o,∀y,y∈A1\/y∈B1->B x y=false
section
variable {prog:Program} {w:World} {A:Around} {E:Value->Shared->Prop} {s:Shared} {kd:SortKind} {a0:Array Keyed} {B:Keyed->Keyed->Bool} {st:SortSt} {L1 L2:List Keyed}
inductive PH (B:Keyed->Keyed->Bool) (L1 L2:List Keyed) (n:Nat):Nat->Nat->Array Keyed->Prop
 | mk {A1 A2 B1 B2 o:List Keyed} (m:Mh B L1 L2 A1 A2 B1 B2 o) (h1:1<=A1.length) (h2:2<=B1.length) (h3:n+1<=A2.length+B2.length):PH B L1 L2 n A1.length B1.length o.reverse.toArray
end
end Sm
namespace Sm
open PySem PyProof.Rows
open Sx (Wk gt)
def gl (xs:Array Keyed) (lo i:Nat):Keyed:=gt xs (lo+i)
def Up (B:Keyed->Keyed->Bool) (xs:Array Keyed) (lo k:Nat):Prop:= ∀i j,i<=j->j<k->B (gl xs lo j) (gl xs lo i)=false
def Dn (B:Keyed->Keyed->Bool) (xs:Array Keyed) (lo k:Nat):Prop:= ∀i j,i<=j->j<k->B (gl xs lo i) (gl xs lo j)=false
def Eb (B:Keyed->Keyed->Bool) (xs:Array Keyed) (lo l k:Nat):Prop:= ∀i j,l<=i->i<k->l<=j->j<k->B (gl xs lo i) (gl xs lo j)=false
structure Bl (kd:SortKind) (a0 x0:Array Keyed) (lo:Nat) (pe:Array (Nat×Nat×Nat)) (st:SortSt):Prop where
 pm:(arrOf st).Perm a0
 kn:kindOf st=kd
 fl:failedOf st=none
 pe:pendingOf st=pe
 pf: ∀i,i<lo->(arrOf st)[i]? =x0[i]?
def Rn (B:Keyed->Keyed->Bool):Nat->List (Nat×Nat×Nat)->List Keyed->Prop
 | _,[],T=>T=[]
 | a,r::t,T=>r.1=a/\1<=r.2.1/\ ∃L T',T=L++T'/\L.length=r.2.1/\Sd B L/\Rn B (a+r.2.1) t T'
structure Jn (kd:SortKind) (a0:Array Keyed) (B:Keyed->Keyed->Bool) (st:SortSt) (T S:List Keyed):Prop where
 kn:kindOf st=kd
 fl:failedOf st=none
 pm:(arrOf st).Perm a0
 ar:arrOf st=(T++S).toArray
 rn:Rn B 0 (pendingOf st).toList T
end Sm
end
section
namespace L2
open PySem PySem.Spec PyProof.Rows
def Om (td:TE):TE:=λ σ H Q=>td σ H λ x H1=> ∃ (a:Addr) (kvs:List (Str×V)),x= .ref a/\H1 a=some (.dK (kvs.map λ p=>(Sum.inr p.1,p.2)))/\kvs.length<100000/\ ∀r (zs:List (Addr×Str×V)) (H2:Hp),(zs.map (·.2)).Perm kvs->(zs.map (·.2.1)).Pairwise gY->H1 r=none->Same H1 H2->H2 r=some (.lst (zs.map λ z=>V.ref z.1))->(∀z∈zs,H2 z.1=some (.tup [.str z.2.1,z.2.2]))->Q (.ref r) H2
end L2
end
section
namespace L2
open PySem PySem.Spec PyProof.Rows
structure FunD (K:W.Frag) (x qual:Str) (st:Stmt) (f:Addr) (fd:FuncData) (T:Addr) (ds:List Value):Prop where
 ex: ∃ (oc:Value) (od:Option Addr) (kV doc pm:Value) (an:Option Addr) (cdv ct:Value) (osl:Array (Option Value)),
  fd=W.fnOf x qual (cT st) (c7 st) (aC st) (.ref T) kV doc pm an cdv ct/\K.lookup f=some ⟨oc,od, .func fd,osl⟩/\W.codeIn K cdv qual=true
 kp:W.keepIn K (.ref f)=true
 tp: ∃ (o:Obj) (n:Nat),K.lookup T=some o/\o.data= .seq ds.toArray n
section
variable {P:Program} {w:World} {K:W.Frag} {mg:Str->Option Value} {base:Heap}
theorem FunD.okX {x qual:Str} {st:Stmt} {f T:Addr} {ds:List Value} {fd:FuncData} {N ps:List Str} {k:Nat} {sp:Sp} (F:FunD K x qual st f fd T ds) (S:FnScope N ps (aC st)) (len: ∀vs H Q E,sp vs H Q E->vs.length=ps.length)
  (hb: ∀ (cdv:Value) (A:Around) (outer:List Env) (s:Shared) (H:Hp) (vs:List V) (Q:VK) (E:XK),Room k (A.deeper (envOfC qual (aC st) s.heap.objs.size f cdv))->sp vs H Q E->
   ∃t,PSs (jb (kZ P w) P w K mg base N qual (aC st) f cdv A outer s H E) (c7 st) t/\t { nx:=λ _ H'=>Q .non H',rt:=Q } (start N vs) H):FnOk P w K mg base (kZ P w) (k+1) f fd ps sp:=by
 obtain ⟨oc,od,kV,doc,pm,an,cdv,ct,osl,rfl,lk,hcd⟩:=F.ex;exact BK lk hcd S len λ A outer s H vs Q E hr hsp=>hb cdv A outer s H vs Q E hr hsp
theorem FunD.binds {x qual:Str} {st:Stmt} {f T:Addr} {ds es:List Value} {fd:FuncData} {ps:List Str} (F:FunD K x qual st f fd T ds)
  (h: ∀ (kV doc pm:Value) (an:Option Addr) (cdv ct:Value) (us:List Value),(us++es).length=ps.length-> ∃k:Option (Array Value)->Sem (List (Str×Value)),bindArgs (W.fnOf x qual (cT st) (c7 st) (aC st) (.ref T) kV doc pm an cdv ct) ⟨us,[]⟩=seqItems? (.ref T) >>= k/\k (some ds.toArray)=pure (ps.zip (us++es))):Binds K fd ps es:=by
 obtain ⟨oc,od,kV,doc,pm,an,cdv,ct,osl,rfl,lk,hcd⟩:=F.ex;obtain ⟨o,n,lt,hd⟩:=F.tp;intro s us hK hl;obtain ⟨k,e1,e2⟩:=h kV doc pm an cdv ct us hl;exact .of_defaults (T:=T) (o:=o) rfl (hK _ _ lt) hd e1 e2
theorem Hd {x qual:Str} {st:Stmt} {f T:Addr} {oc tc:Value} {od an tdd:Option Addr} {osl tsl:Array (Option Value)} {kV doc pm cdv ct:Value} {ds:List Value} {n:Nat} (l:K.lookup f=some ⟨oc,od, .func (W.fnOf x qual (cT st) (c7 st) (aC st) (.ref T) kV doc pm an cdv ct),osl⟩)
  (c:W.codeIn K cdv qual=true) (k:W.keepIn K (.ref f)=true) (t:K.lookup T=some ⟨tc,tdd, .seq ds.toArray n,tsl⟩):FunD K x qual st f (W.fnOf x qual (cT st) (c7 st) (aC st) (.ref T) kV doc pm an cdv ct) T ds:=⟨⟨oc,od,kV,doc,pm,an,cdv,ct,osl,rfl,l,c⟩,k,_,n,t,rfl⟩
end
structure CalD (P:Program) (w:World) (K:W.Frag) (mg:Str->Option Value) (base:Heap) (n:Nat) (x:Str) (ps:List Str) (dvs:List V) (sp:Sp):Prop where
 ex: ∃ (f:Addr) (fd:FuncData) (ds:List Value),FnOk P w K mg base Gv n f fd ps sp/\Binds K fd ps ds/\Vals dvs ds/\W.keepIn K (.ref f)=true/\mg x=some (.ref f)
structure CalXD (P:Program) (w:World) (K:W.Frag) (mg:Str->Option Value) (base:Heap) (n:Nat) (x:Str) (ps:List Str) (dvs:List V) (sp:Sp):Prop where
 ex: ∃ (f:Addr) (fd:FuncData) (ds:List Value),FnOk P w K mg base (kZ P w) n f fd ps sp/\Binds K fd ps ds/\Vals dvs ds/\W.keepIn K (.ref f)=true/\mg x=some (.ref f)
section
variable {X:Cx} {n k:Nat} {x:Str} {ps:List Str} {dvs:List V} {sp:Sp} {p pos:Pos} {e:Expr} {es:List Expr} {t:TA} {E:XK}
theorem Hf (c:CalD X.prog X.w X.K X.mg X.base n x ps dvs sp) (hr:Room k X.A) (hk:n<=k) (hg:Gl X x) (ha:PA X (e::es) t) (hdb:(x==("__debug__":Str))=false:=by decide)
  (he:starEach (e::es) X.env=(false,eval e X.env)::starEach es X.env:=by rfl) (hpl:(backTo pos (starEach es X.env)).any (·.1)=false:=by rfl):
  PE X (.Call (.Name x p) (e::es) [] pos) (aX sp dvs E0 t):=by
 obtain ⟨f,fd,ds,F,hb,hd,kp,hm⟩:=c.ex;exact qU F (hr.mono hk) hg hm kp hb hd Im ha hdb he hpl
end
def TupK (K:W.Frag) (a:Addr) (xs:List V):Prop:= ∃ (o:Obj) (its:Array Value) (n:Nat),K.lookup a=some o/\o.cls= .type "tuple"/\o.data= .seq its n/\its.size<=sizeLine/\Vals xs its.toList
theorem Iv {K:W.Frag} {a:Addr} {od:Option Addr} {i:Int} {t:Tok} {n:Nat} {sl:Array (Option Value)} (l:K.lookup a=some ⟨.type "tuple",od, .seq #[.int i t] n,sl⟩):TupK K a [.int i]:=⟨_,_,_,l,rfl,rfl,(by decide:1<=sizeLine), .cons ⟨t,rfl⟩ .nil⟩
end L2
end
section
namespace PySem
open Sem (wp)
open AutoSeq1 (wpAny_loadPart')
abbrev Hg (h:Heap) (x:Str) (u:Tok):Heap:=h.push { cls:= .type (strIterType x),data:= .fields #[.str x u, .int 0 0] }
abbrev Hh (h:Heap) (x:Str) (u:Tok) (i:Int):Heap:=(Hg h x u).push { cls:= .type "enumerate",data:= .fields #[.none, .bool false, .ref h.objs.size,rawInt i, .none, .none] }
set_option maxHeartbeats 2000000 in
theorem oV (x:Str) (u:Tok) (i:Int) (t:Tok) (hf:Builtin.SmallTypes.fitsIndex i=true):
  Meets (Builtin.«enumerate.__new__» ⟨[.type "enumerate", .str x u],uK i t⟩) (λ _ R s=>R (.ok (.ret (.ref (Hg s.heap x u).objs.size))) { s with heap:=Hh s.heap x u i }):=
 .of_wp λ prog w A R ⟨hp,g,d,tk,os⟩ h=>by
  have hsub:=sub_enumerate
  wp_walk
  refine wpAny_stack_any λ st=>Zh ?_
  split
  ·rename_i c _ _ _ _ _
   cases (c==Value.type "enumerate")<;>(wp_walk using wpAny_pyIter_strU;exact ⟨_,rfl,h⟩)
  ·wp_walk using wpAny_pyIter_strU;exact ⟨_,rfl,h⟩
theorem CQ (x:Str) (u:Tok) (i:Int) (t:Tok):checkTypeCall "enumerate" ⟨[.str x u],uK i t⟩=pure ():=by kernel_rfl
theorem CT (x:Str) (u:Tok) (i:Int) (t:Tok):checkBuiltinCall "enumerate.__new__" ⟨[.type "enumerate", .str x u],uK i t⟩=pure ():=by kernel_rfl
theorem CV (o:Value) (x:Str) (u:Tok) (i:Int) (t:Tok):argsOk "object.__init__" ⟨[o, .str x u],uK i t⟩:=by unfold argsOk;kernel_rfl
theorem mY (x:Str) (u:Tok) (i:Int) (t:Tok) {self:Value}:Meets (Builtin.«object.__init__» ⟨[self, .str x u],uK i t⟩) (λ _ R s=>s.TypeIs self "enumerate"/\R (.ok (.ret .none)) s):=by
 have hl:=F.called_enumerate.init.lookup;have hm:=F.called_enumerate.made;have hne:(some "enumerate.__new__" !=some "object.__new__")=true:=by decide
 refine Meets.of_wp λ prog w A R s ⟨hT,hq⟩=> ?_
 repeat (any_goals (first | assumption | wp_step))
 exact ⟨_,rfl,hq⟩
section
variable {prog:Program} {w:World} {A:Around} {E:Value->Shared->Prop} {s:Shared}
theorem mZ {x:Str} {u:Tok} {i:Int} {t:Tok} {Q:Value->Shared->Prop} (hf:Builtin.SmallTypes.fitsIndex i=true)
  (h: ∀h',IsEnum h' (s.heap.objs.size+1) s.heap.objs.size i .none->h'.IsStrIter s.heap.objs.size (strIterType x) x u 0->(∀b o,s.heap.get? b=some o->h'.get? b=some o)->Q (.ref (s.heap.objs.size+1)) { s with heap:=h' }):
  wpAny (model prog w) A (call (.type "enumerate") [.str x u] (uK i t)) Q E s:=by
 have ft:=F.called_enumerate;obtain ⟨c,tl,hmro⟩:=ft.mro;have hmade:=ft.made;have hsub:=ft.sub;refine wpAny_call (codeAny_of_tree ?_);show wpAny _ _ (callAny (.type "enumerate") _) _ _ _;refine Zh ⟨Code.quiet_builtin _ (by ac_nf),codeAny_builtin F.entry_type_call ?_⟩;rw [Around.under_plain (weight_type_call_type "enumerate" [.str x u] (uK i t)) (units_type_call_type "enumerate" [.str x u] (uK i t))];have h1:=ft.notType;have h2:=ft.canCreate;have hct:=CQ x u i t;repeat (any_goals (first | assumption | wp_step))
 have hz:(Hg s.heap x u).objs.size=s.heap.objs.size+1:=Heap.size_push ..;have he:=Zo (Hg s.heap x u) (o:={ cls:= .type "enumerate",data:= .fields #[.none, .bool false, .ref s.heap.objs.size,rawInt i, .none, .none] }) rfl;rw [hz] at he;refine codeAny_mono (codeAny_call_builtin ft.plain F.entry_enumerate_new (wpAny_of_eq (CT x u i t) (oV x u i t hf prog w A.in1 (wants (λ o s1=>o= .ref (s.heap.objs.size+1)/\s1={ s with heap:=Hh s.heap x u i }) E) s (by show _/\_;rw [hz];exact ⟨rfl,rfl⟩)))) λ r s1 hr=> ?_
 cases r with
 | error e=>exact hr
 | ok fl=>
  cases fl with
  | ret obj=>
   obtain ⟨rfl,rfl⟩:=hr;have hT:Shared.TypeIs { s with heap:=Hh s.heap x u i } (.ref (s.heap.objs.size+1)) "enumerate":=⟨_,he,rfl⟩;have hli:=ft.init.lookup;have hbi:=ft.init.bind (.ref (s.heap.objs.size+1));repeat (any_goals (first | assumption | wp_step))
   refine codeAny_mono (codeAny_call_builtin ft.init.plain F.entry_object_init (ft.init.check _ _ _ _ _ _ _ _ hT (CV _ x u i t) (mY x u i t prog w A.in1 (wants (λ r s2=>r= .none/\s2={ s with heap:=Hh s.heap x u i }) E) _ ⟨hT,rfl,rfl⟩))) λ r2 s2 hr2=> ?_
   cases r2 with
   | error e=>exact hr2
   | ok fl2=>
    cases fl2 with
    | ret r=>
     obtain ⟨rfl,rfl⟩:=hr2;have hq:=h _ he ⟨_,Zd _ (Zo _ rfl),rfl,rfl⟩ λ b o y=>Zd _ (Zd _ y)
     repeat (any_goals (first | assumption | wp_step))
    | _=>exact hr2.elim
  | _=>exact hr.elim
end
end PySem
namespace L2
open PySem PySem.Spec PyProof.Rows
def Kh (x:Str) (o:Nat):It:=
 ⟨λ i _=>i<x.cps.size,
  λ i H v H'=> ∃p c,H p=none/\v= .ref p/\H'=upd H p (.tup [.int ((i+o:Nat):Int), .str ⟨#[c]⟩])/\x.cps[i]? =some c,
  λ i _=>i=x.cps.size⟩
structure EnSs (e it:Addr) (x:Str) (u:Tok) (o i:Nat) (h:Heap):Prop where
 he: ∃old,IsEnum h e it ((i+o:Nat):Int) old
 h1:h.IsStrIter it (strIterType x) x u i
theorem qC {prog:Program} {w:World} {A:Around} (hh:A.handled=none) (it:Addr) (x:Str) (t:Tok):Draws prog w A it [it] x.cps.size (λ i v=> ∃c u,x.cps[i]? =some c/\v= .str ⟨#[c]⟩ u) (λ i h=>h.IsStrIter it (strIterType x) x t i):=by
 unfold strIterType;split
 ·exact Draws.strAscii hh it x t
 ·exact Draws.strWide hh it x t
theorem uM {P:Program} {w:World} {K:W.Frag} {elts:List Expr} {k:Nat} {tpos:Pos} {e it:Addr} (x:Str) (u:Tok) (o:Nat) (D:e≠it):
  Turn P w K (.Tuple elts k tpos) (Kh x o) [e,it] e (EnSs e it x u o) where
 mem:=by simp
 obj:=λ i h st c hc=>by
  obtain ⟨⟨old,he⟩,⟨o1,e1,c1,d1⟩⟩:=st;simp only [Zp,Yi,Ws] at hc;rcases hc with rfl | rfl
  ·exact ⟨_,he,λ v z=>by cases z⟩
  ·exact ⟨o1,e1,λ v z=>by rw [d1] at z;cases z⟩
 keep:=λ i h h' st kk=>by
  obtain ⟨⟨old,he⟩,h1⟩:=st;obtain ⟨o1,e1,r1⟩:=h1;exact ⟨⟨old,kk e (by simp) _ he⟩,o1,kk it (by simp) _ e1,r1⟩
 item:=by
  intro X hP hw hK hc i pins s σ H E I hf st hg;subst hP hw hK;obtain ⟨⟨old,he⟩,h1⟩:=id st;have hgi:i<x.cps.size:=hg;refine wpAny_pyNext_enum_itemD (wu (qC (A:=X.A.in1) (I.ok.hd hc) it x u) o) he ⟨Nat.le_add_left _ _,by rw [Nat.add_sub_cancel];exact h1⟩ (by rfl') D (by simp [D]) λ x1 h' tk0 hx1 a1 ⟨_,a2⟩ a3 a4 a5=> ?_
  rw [Nat.add_sub_cancel] at hx1;rw [show i+o+1-o=i+1 by rfl'] at a2;obtain ⟨cc,uu,hcc,rfl⟩:=hx1;refine ⟨_,rfl,wpAny_letOwnedTupleGo_enum a1 λ h'' b1 hs=> ?_⟩;have hT:s.heap.objs.size≠e:=Nat.ne_of_gt (Zm he);have kk: ∀c o,c∉[e,it]->s.heap.get? c=some o->h''.get? c=some o:=λ c o hc' q=>by
   simp only [Zp,Yi,Ws,not_or] at hc';exact hs.extBut _ _ hc'.1 (a5 c o hc'.1 hc'.2 q)
  have I1:Inv X pins σ H { s with heap:=h'',toks:=tk0+1 }:=I.turnedAll kk hf;have hnew:H s.heap.objs.size=none:=I.hok.fresh (Zn _);have e5:h''.get? s.heap.objs.size=some { cls:= .type "tuple",data:= .seq #[.int ((i+o:Nat):Int) tk0, .str ⟨#[cc]⟩ uu] }:=hs.extBut _ _ hT a3;have un:Un (frs X.stack) [e,it] H (upd H s.heap.objs.size (.tup [.int ((i+o:Nat):Int), .str ⟨#[cc]⟩])) s.heap h'':=
   ⟨λ b o q _ _ hx=>kk b o hx q,λ b o q _ _ hx=>⟨o.slots,kk b o hx q⟩,λ b o q n _=>by rw [aD (Yc (Zm q))];exact n,λ b o q hx=>⟨o,kk b o hx q⟩,
    λ b xs q=>by rw [aD (aU q hnew)];exact q,λ b o y q=>by rw [aD (aU q hnew)];exact q,λ b ps q=>⟨#[],by rw [aD (aU q hnew),q];simp⟩⟩
  have hok:HOk X.prog X.w (upd H s.heap.objs.size (.tup [.int ((i+o:Nat):Int), .str ⟨#[cc]⟩])) h'':=HOk.track I1.hok hnew ⟨by show 2<=sizeLine;decide,[.int ((i+o:Nat):Int) tk0, .str ⟨#[cc]⟩ uu], .cons ⟨_,rfl⟩ (.cons ⟨_,rfl⟩ .nil),_,e5,rfl,_,rfl⟩;have I2:Inv X pins σ (upd H s.heap.objs.size (.tup [.int ((i+o:Nat):Int), .str ⟨#[cc]⟩])) { s with heap:=h'',toks:=tk0+1 }:=I.call' (s':={ s with heap:=h'',toks:=tk0+1 }) rfl un hok I.bare λ c hc'=>⟨(hf c hc').2.2.2.1,(hf c hc').2.1,(hf c hc').2.2.2.2⟩
  refine ⟨.ref s.heap.objs.size,_,I2,rfl,⟨_,cc,hnew,rfl,rfl,hcc⟩,⟨⟨_,by have:=b1;rwa [show (((i+o:Nat):Int)+1)=((i+1+o:Nat):Int) by rfl'] at this⟩,a2.extBut hs.extBut (Ne.symm D)⟩,λ c hc'=> ?_⟩;have hlt:c<s.heap.objs.size:=by
   obtain ⟨o1,e1,_⟩:=h1;simp only [Zp,Yi,Ws] at hc';rcases hc' with rfl | rfl
   ·exact Zm he
   ·exact Zm e1
  rw [aD (Yc hlt)];exact (hf c hc').1
 done:=by
  intro X hP hw hK hc i pins s σ H E I hf st hg;subst hP hw hK;obtain ⟨⟨old,he⟩,h1⟩:=id st;have hgi:i=x.cps.size:=hg;refine wpAny_pyNext_enum_endD (qC (A:=X.A.in1) (I.ok.hd hc) it x u) he (by rw [<- hgi];exact h1) λ h' kk=> ?_
  refine ⟨rfl,I.turnedAll (t':=s.toks) (λ c o hc' q=> ?_) hf⟩;simp only [Zp,Yi,Ws,not_or] at hc';exact kk c o hc'.2 q
 self:=λ _ _ _ _ _ st h=>by
  obtain ⟨old,he⟩:=st.he;exact wpAny_pyIter_enum he h
def wz (ta tk:TA):TI:=λ σ H R=>ta σ H λ vs H1=>tk σ H1 λ ks H2=> ∃x o,vs=[.str x]/\ks=[.int ((o:Nat):Int)]/\o<=1000000000/\R (Kh x o) H2
theorem CW {X:Cx} {elts:List Expr} {k:Nat} {tpos:Pos} {a:Expr} {kws:List Keyword} {ta tk:TA} {p pos:Pos} (hg:Gl X "enumerate") (hc:X.calm=true) (hm:X.mg "enumerate"=none) (ha:PA X [a] ta) (hkw:PK X kws tk)
  (he:backTo pos (starEach [a] X.env)=(false,eval a X.env)::backTo pos (starEach [] X.env):=by rfl) (hp:(backTo pos (starEach [a] X.env)).any (·.1)=false:=by rfl)
  (hks:(backToKw pos (keywordEach kws X.env)).filterMap (·.1)=[Str.ofString "start"]:=by rfl)
  (hall:(backToKw pos (keywordEach kws X.env)).all (·.1.isSome)=true:=by rfl) (hkn:(backToKw pos (keywordEach kws X.env)).any (·.1.isNone)=false:=by rfl):
  PI X (.Tuple elts k tpos) (.Call (.Name "enumerate" p) [a] kws pos) (wz ta tk):=by
 intro pins s σ H R I h;refine wpAny_Call_Name_kw (fL I hg hm (show bootBuiltins "enumerate"=some (.type "enumerate") by ac_nf) (Hb (bL (ha pos pins s σ H _ I h) λ us s1 ⟨vs,H1,I1,r1,q1⟩=>bL (hkw pos pins s1 σ H1 _ I1 q1) λ ws s2 ⟨zs,H2,I2,rz,q2⟩=> ?_) he hp hall hkn));rw [hks];obtain ⟨x,o,rfl,rfl,ho,q⟩:=q2;obtain ⟨u,rfl,ru⟩:=r1.one;obtain ⟨v,rfl,⟨t,rfl⟩⟩:=rz.one;obtain ⟨tu,rfl⟩:=ru;refine mZ (by unfold Builtin.SmallTypes.fitsIndex;rw [Xw];exact ⟨decide_eq_true (by rfl'),Yh (by rfl')⟩) λ h' z1 z2 kk=> ?_
 refine wpAny_pyIter_enum z1 ?_;refine ⟨s2.heap.objs.size+1,[s2.heap.objs.size+1,s2.heap.objs.size],_,_,H2,rfl,I2.kept (t':=s2.toks) kk,uM x tu o (by show (_:Nat)≠_;rfl'),⟨⟨_,by rw [Nat.zero_add];exact z1⟩,z2⟩,λ c hc'=> ?_,q⟩;have hle:s2.heap.objs.size<=c:=by
  simp only [Zp,Yi,Ws] at hc';rcases hc' with rfl | rfl<;>(show (_:Nat)<=_;rfl')
 exact I2.fpOk hle (I2.hok.fresh hle)
end L2
end
section
namespace L2
open PySem PySem.Spec PyProof.Rows
theorem qD {prog:Program} {w:World} {A:Around} (hh:A.handled=none) (it l:Addr) (hne:l≠it) (items:Array Value):
  Draws prog w A it [it,l] items.size (λ i v=>items[i]? =some v) (λ i h=>h.IsTupleIter it l i/\h.IsTuple l items) where
 live:=λ _ _ st=>let ⟨o,ho,_⟩:=st.1;⟨o,ho⟩
 frame:=λ _ _ _ st hk=>(rR (prog:=prog) (w:=w) hne).keep _ _ _ st λ c hc o q=>hk c (by rcases hc with rfl | rfl<;>simp) o q
 item:=λ i s Q E hi st hQ=>(rR hne).item A s i items[i] Q E st (by simp [hi]) λ h' st' sb=>hQ _ h' s.toks (by simp [hi]) st' sb
 done:=λ s Q E st hE=>(rR hne).stop A s _ Q E hh st (by simp) hE
set_option maxHeartbeats 2000000 in
theorem rY (l:Addr) (xs:Array Value):
  Meets (Builtin.«enumerate.__new__» ⟨[.type "enumerate", .ref l],[]⟩) (λ _ R s=>s.heap.IsTuple l xs/\
   R (.ok (.ret (.ref (s.heap.push (yL l)).objs.size))) { s with heap:=(s.heap.push (yL l)).push { cls:= .type "enumerate",data:= .fields #[.none, .bool false, .ref s.heap.objs.size,rawInt 0, .none, .none] } }):=
 .of_wp λ prog w A R s h=>by
  obtain ⟨hp,g,d,tk,os⟩:=s;obtain ⟨k1,h⟩:=h;have hsub:=sub_enumerate;have e1:Heap.IsTuple (Shared.heap ⟨hp,g,d,tk,os⟩) l xs:=k1
  wp_walk
  refine wpAny_stack_any λ st=>Zh ?_
  split
  ·rename_i c _ _ _ _ _
   cases (c==Value.type "enumerate")<;>(wp_walk using wpAny_pyIter_tuple e1;exact ⟨_,rfl,h⟩)
  ·wp_walk using wpAny_pyIter_tuple e1;exact ⟨_,rfl,h⟩
theorem pQ {prog:Program} {w:World} {A:Around} {E:Value->Shared->Prop} {s:Shared} {l:Addr} {xs:Array Value} {Q:Value->Shared->Prop} (hL:s.heap.IsTuple l xs)
  (h: ∀h',IsEnum h' (s.heap.objs.size+1) s.heap.objs.size 0 .none->h'.IsTupleIter s.heap.objs.size l 0->(∀b o,s.heap.get? b=some o->h'.get? b=some o)->Q (.ref (s.heap.objs.size+1)) { s with heap:=h' }):
  wpAny (model prog w) A (call (.type "enumerate") [.ref l]) Q E s:=by
 refine callType_new F.called_enumerate (by decide) (F.typeCall_enumerate_1 _) (F.newCall_enumerate_1 _) (λ obj=>F.args_object_init_2 obj _) F.entry_enumerate_new (rY l xs) ⟨hL,?_⟩;have hz:(s.heap.push (yL l)).objs.size=s.heap.objs.size+1:=Heap.size_push ..;show _/\_;rw [hz];have he:=Zo (s.heap.push (yL l)) (o:={ cls:= .type "enumerate",data:= .fields #[.none, .bool false, .ref s.heap.objs.size,rawInt 0, .none, .none] }) rfl;rw [hz] at he;exact ⟨⟨_,he,rfl⟩,h _ he ⟨_,Zd _ (Zo _ rfl),rfl,rfl⟩ λ b o x=>Zd _ (Zd _ x)⟩
def Kl (K:W.Frag) (a:Addr):It:=
 ⟨λ i H=> ∃xs x,SqT K H a xs/\xs[i]? =some x,
  λ i H v H'=> ∃p x,H p=none/\v= .ref p/\H'=upd H p (.tup [.int (i:Int),x])/\ ∀xs,SqT K H a xs->xs[i]? =some x,
  λ i H=> ∃xs,SqT K H a xs/\i=xs.length⟩
structure EnSt3 (e it a:Addr) (i:Nat) (h:Heap):Prop where
 he: ∃old,IsEnum h e it (i:Int) old
 h1:h.IsTupleIter it a i
theorem wA {P:Program} {w:World} {K:W.Frag} {elts:List Expr} {k:Nat} {tpos:Pos} {e it:Addr} (a:Addr) (D:e≠it):
  Turn P w K (.Tuple elts k tpos) (Kl K a) [e,it] e (EnSt3 e it a) where
 mem:=by simp
 obj:=λ i h st c hc=>by
  obtain ⟨⟨old,he⟩,⟨o1,e1,c1,d1⟩⟩:=st;simp only [Zp,Yi,Ws] at hc;rcases hc with rfl | rfl
  ·exact ⟨_,he,λ v z=>by cases z⟩
  ·exact ⟨o1,e1,λ v z=>by rw [d1] at z;cases z⟩
 keep:=λ i h h' st kk=>by
  obtain ⟨⟨old,he⟩,h1⟩:=st;exact ⟨⟨old,kk e (by simp) _ he⟩,h1.at λ o e=>kk it (by simp) o e⟩
 item:=by
  intro X hP hw hK hc i pins s σ H E I hf st hg;subst hP hw hK;obtain ⟨xs,x,hxs,hx⟩:=hg;obtain ⟨its,rv,p,hz1⟩:=I.tuple hxs;obtain ⟨u,hu,ru⟩:=rv.get hx;obtain ⟨⟨old,he⟩,h1⟩:=id st;have hae:a≠e/\a≠it:=by
   obtain ⟨oa,ea,ca,_⟩:=p;obtain ⟨o1,e1,c1,_⟩:=h1;exact ⟨w5 ea he (by rw [ca];show Value.type "tuple"≠Value.type "enumerate";decide),w5 ea e1 (by rw [ca,c1];decide)⟩
  have hil:i<its.toArray.size:=by
   have:=(Zf.mp hu).1;simpa using this
  refine wpAny_pyNext_enum_itemD (qD (A:=X.A.in1) (I.ok.hd hc) it a hae.2 its.toArray) he ⟨h1,(show s.heap.IsTuple a its.toArray from p)⟩ hil D (by simp [D,hae.1.symm]) λ x1 h' tk0 hx1 a1 ⟨a2,_⟩ a3 a4 a5=> ?_
  have hx2:x1=u:=by
   have h9:its.toArray[i]? =some u:=by simpa using hu
   rw [h9] at hx1;exact (Zx hx1).symm
  subst hx2;refine ⟨_,rfl,wpAny_letOwnedTupleGo_enum a1 λ h'' b1 hs=> ?_⟩;have hT:s.heap.objs.size≠e:=Nat.ne_of_gt (Zm he);have kk: ∀c o,c∉[e,it]->s.heap.get? c=some o->h''.get? c=some o:=λ c o hc' q=>by
   simp only [Zp,Yi,Ws,not_or] at hc';exact hs.extBut _ _ hc'.1 (a5 c o hc'.1 hc'.2 q)
  have I1:Inv X pins σ H { s with heap:=h'',toks:=tk0+1 }:=I.turnedAll kk hf;have hnew:H s.heap.objs.size=none:=I.hok.fresh (Zn _);have e5:h''.get? s.heap.objs.size=some { cls:= .type "tuple",data:= .seq #[.int i tk0,x1] }:=hs.extBut _ _ hT a3;have un:Un (frs X.stack) [e,it] H (upd H s.heap.objs.size (.tup [.int (i:Int),x])) s.heap h'':=
   ⟨λ b o q _ _ hx=>kk b o hx q,λ b o q _ _ hx=>⟨o.slots,kk b o hx q⟩,λ b o q n _=>by rw [aD (Yc (Zm q))];exact n,λ b o q hx=>⟨o,kk b o hx q⟩,
    λ b xs q=>by rw [aD (aU q hnew)];exact q,λ b o x q=>by rw [aD (aU q hnew)];exact q,λ b ps q=>⟨#[],by rw [aD (aU q hnew),q];simp⟩⟩
  have hok:HOk X.prog X.w (upd H s.heap.objs.size (.tup [.int (i:Int),x])) h'':=HOk.track I1.hok hnew ⟨by show 2<=sizeLine;decide,[.int i tk0,x1], .cons ⟨_,rfl⟩ (.cons ru .nil),_,e5,rfl,_,rfl⟩;have I2:Inv X pins σ (upd H s.heap.objs.size (.tup [.int (i:Int),x])) { s with heap:=h'',toks:=tk0+1 }:=I.call' (s':={ s with heap:=h'',toks:=tk0+1 }) rfl un hok I.bare λ c hc'=>⟨(hf c hc').2.2.2.1,(hf c hc').2.1,(hf c hc').2.2.2.2⟩
  refine ⟨.ref s.heap.objs.size,_,I2,rfl,⟨_,x,hnew,rfl,rfl,λ xs' h=>by rw [I.tuple_inj h hxs];exact hx⟩,⟨⟨_,by have:=b1;rwa [show ((i:Int)+1)=((i+1:Nat):Int) by rfl'] at this⟩,a2.extBut hs.extBut (Ne.symm D)⟩,λ c hc'=> ?_⟩;have hlt:c<s.heap.objs.size:=by
   obtain ⟨o1,e1,_⟩:=h1;simp only [Zp,Yi,Ws] at hc';rcases hc' with rfl | rfl
   ·exact Zm he
   ·exact Zm e1
  rw [aD (Yc hlt)];exact (hf c hc').1
 done:=by
  intro X hP hw hK hc i pins s σ H E I hf st hg;subst hP hw hK;obtain ⟨xs,hxs,hend⟩:=hg;obtain ⟨its,rv,p,hz1⟩:=I.tuple hxs;obtain ⟨⟨old,he⟩,h1⟩:=id st;have hl1:=rv.length;have ha:a≠it:=by
   obtain ⟨oa,ea,ca,_⟩:=p;obtain ⟨o1,e1,c1,_⟩:=h1;exact w5 ea e1 (by rw [ca,c1];decide)
  refine wpAny_pyNext_enum_endD (qD (A:=X.A.in1) (I.ok.hd hc) it a ha its.toArray) he ⟨by rw [show its.toArray.size=i by simp;rfl'];exact h1,(show s.heap.IsTuple a its.toArray from p)⟩ λ h' kk=> ?_
  refine ⟨rfl,I.turnedAll (t':=s.toks) (λ c o hc' q=> ?_) hf⟩;simp only [Zp,Yi,Ws,not_or] at hc';exact kk c o hc'.2 q
 self:=λ _ _ _ _ _ st h=>by
  obtain ⟨old,he⟩:=st.he;exact wpAny_pyIter_enum he h
def rZ (K:W.Frag) (ta:TA):TI:=λ σ H R=>ta σ H λ vs H1=> ∃a xs,vs=[.ref a]/\SqT K H1 a xs/\R (Kl K a) H1
theorem CZ {X:Cx} {elts:List Expr} {k:Nat} {tpos:Pos} {a:Expr} {ta:TA} {p pos:Pos} (hg:Gl X "enumerate") (hc:X.calm=true) (hm:X.mg "enumerate"=none) (ha:PA X [a] ta) (hs:starEach [a] X.env=[(false,eval a X.env)]:=by rfl):
  PI X (.Tuple elts k tpos) (.Call (.Name "enumerate" p) [a] [] pos) (rZ X.K ta):=by
 intro pins s σ H R I h;refine Call_ (fL I hg hm (show bootBuiltins "enumerate"=some (.type "enumerate") by ac_nf) (Wj (bL (ha pos pins s σ H _ I h) λ us s1 ⟨vs,H1,I1,r1,q1⟩=> ?_) (by rw [hs];rfl) (by rfl)));obtain ⟨la,xs,e,hxs,q⟩:=q1;subst e
 cases r1 with
 | cons r rr=>
  cases rr
  cases r;obtain ⟨its,rv,p1,hz1⟩:=I1.tuple hxs;refine pQ (show s1.heap.IsTuple la its.toArray from p1) λ h' z1 z2 kk=> ?_
  refine wpAny_pyIter_enum z1 ?_;refine ⟨s1.heap.objs.size+1,[s1.heap.objs.size+1,s1.heap.objs.size],_,_,H1,rfl,I1.kept (t':=s1.toks) kk,wA la (by show (_:Nat)≠_;rfl'),⟨⟨_,z1⟩,z2⟩,λ c hc'=> ?_,q⟩;have hle:s1.heap.objs.size<=c:=by
   simp only [Zp,Yi,Ws] at hc';rcases hc' with rfl | rfl<;>(show (_:Nat)<=_;rfl')
  exact I1.fpOk hle (I1.hok.fresh hle)
theorem Ah {X:Cx} (K:W.Frag) (hK:X.K=K) {elts:List Expr} {k:Nat} {tpos:Pos} {a:Expr} {ta:TA} {p pos:Pos} (hg:Gl X "enumerate") (hc:X.calm=true) (hm:X.mg "enumerate"=none) (ha:PA X [a] ta) (hs:starEach [a] X.env=[(false,eval a X.env)]:=by rfl):
  PI X (.Tuple elts k tpos) (.Call (.Name "enumerate" p) [a] [] pos) (rZ K ta):=by subst hK;exact CZ hg hc hm ha hs
end L2
end
section
namespace L2
open PySem PySem.Spec PyProof.Rows
def wD (tk tv:TE):TE:=λ σ H Q=> ∀p,H p=none->tk σ (upd H p (.dT [])) λ x H1=>tv σ H1 λ v H2=>H2 p=some (.dT [])/\ ∃k b,x= .ref b/\H2 b=some (.tup (k.map kV))/\Q (.ref p) (upd H2 p (.dT [(k,v)]))
theorem Dc {X:Cx} {pos:Pos} {ke ve:Expr} {tk tv:TE} (hu:X.A.units+1<cLine) (hk:PE X ke tk) (hv:PE X ve tv):PE X (.Dict [some ke] [ve] pos) (wD tk tv):=by
 intro pins s σ H Q I q;have hn:=I.hok.fresh (Zn s.heap.objs.size);have I1:=I.laid (a:=s.heap.objs.size) (o:= .dT []) (h':=s.heap.push { cls:= .type "dict",data:= .dict #[] }) (t':=s.toks) (λ _ _ q=>Zd _ q) (Zn _) (uv s.heap I.big);refine wpAny_Dict_any rfl rfl (by simp) (by simp) (bL (uw (pos:=pos) hk hv yw pins _ σ _ (λ ps H2=>match ps with | [(x,v)]=>H2 s.heap.objs.size=some (.dT [])/\ ∃k b,x= .ref b/\H2 b=some (.tup (k.map kV))/\Q (.ref s.heap.objs.size) (upd H2 s.heap.objs.size (.dT [(k,v)])) | _=>False) I1 (q _ hn)) λ ws s2 ⟨ps,H2,I2,rel,hm⟩=> ?_)
 cases rel with
 | nil=>exact hm.elim
 | @cons a c as cs h t=>
  cases t with
  | cons=>exact hm.elim
  | nil=>
  obtain ⟨x,v⟩:=a;obtain ⟨c1,c2⟩:=c;obtain ⟨e,k,b,ex,eb,q2⟩:=hm;dsimp only at h ex;subst ex
  cases (show c1=Value.ref b from h.1);obtain ⟨z,hd,xs,rel,dd⟩:=yu I2.hok e;unfold storeAll;rw [List.forIn_cons];refine Za (Za (wpAny_dictSet_heap (hsz:=by rw [<- Paired.length rel];exact z) (by show X.A.units<cLine;rfl') (kO I2.hok eb) dd λ h' dd' hs=>Zh ?_));show wpAny _ _ (forIn [] PUnit.unit _) _ _ _;rw [List.forIn_nil];obtain ⟨q,es,ep,hq,h2,h3,h4,_,h5⟩:=dd';refine Zh ⟨.ref s.heap.objs.size,upd H2 s.heap.objs.size (.dT [(k,v)]),nA I2 (by rw [e];exact True.intro) hs ⟨q,hq⟩ ⟨(by show (1:Nat)<=sizeLine;rw [Xp];rfl'),hd,_,(rel.put k eb h.2).keeps λ c ys ec=> ?_,q,es,ep,hq,h2,h3,h4,h5⟩,rfl,q2⟩;rw [aD (du ec e (λ z=>nomatch z))];exact ec
end L2
end
section
namespace L2
open PySem PySem.Spec PyProof.Rows
def Oo (K:W.Frag) (a b:Addr):It:=
 ⟨λ i H=> ∃xs ys x y,SqL K H a xs/\SqT K H b ys/\xs[i]? =some x/\ys[i]? =some y,
  λ i H v H'=> ∃p x y,H p=none/\v= .ref p/\H'=upd H p (.tup [x,y])/\(∀xs,SqL K H a xs->xs[i]? =some x)/\ ∀ys,SqT K H b ys->ys[i]? =some y,
  λ i H=> ∃xs ys,SqL K H a xs/\SqT K H b ys/\(xs.length<=i\/ys.length<=i)⟩
structure ZipStL (z TI TO i1 i2 a b:Addr) (i:Nat) (h:Heap):Prop where
 hz:IsZip h z TI TO .none
 hTI:IsPair h TI (.ref i1) (.ref i2)
 hTO: ∃u v,IsPair h TO u v
 h1:h.IsListIter i1 a i
 h2:h.IsTupleIter i2 b i
 aTO:a≠TO
 bTO:b≠TO
def RW (K:W.Frag) (ta:TA):TI:=λ σ H R=>ta σ H λ vs H1=> ∃a b xs ys,vs=[.ref a, .ref b]/\SqL K H1 a xs/\SqT K H1 b ys/\R (Oo K a b) H1
end L2
end
section
namespace Nk
open PySem PySem.Spec PyProof.Rows
abbrev De:=Int×Int×List Int
section
variable {prog:Program} {w:World} {A:Around} {E:Value->Shared->Prop} {s:Shared}
def R9 (prog:Program) (w:World) (h:Heap) (k:De) (a:Addr):Prop:= ∃o n v1 v2 b,h.get? a=some o/\o.cls= .type "tuple"/\o.data= .seq #[v1,v2, .ref b] n/\(intKind prog w).is k.1 v1=true/\(intKind prog w).is k.2.1 v2=true/\IsTupleKey (intKind prog w) h k.2.2 b
def Oq (cs:List Int):Int:=reduceHash (Builtin.Tuple.tupleHashOf (cs.map hashInt))
def Iw (k:De):Int:=reduceHash (Builtin.Tuple.tupleHashOf [hashInt k.1,hashInt k.2.1,Oq k.2.2])
end
end Nk
namespace L2
open PySem PySem.Spec PyProof.Rows Nk
abbrev Sk:=Int×Int×List Int
def Ra (x:Sk×Addr×Value):DictEntry:=⟨Iw x.1, .ref x.2.1,x.2.2⟩
def Td (a:Addr) (kvs:List (Addr×Sk×V)) (h:Heap):Prop:=kvs.length<=sizeLine/\(a==sysModules)=false/\ ∃xs:List (Sk×Addr×Value),Paired (λ (p:Addr×Sk×V) (q:Sk×Addr×Value)=>p.2.1=q.1/\p.1=q.2.1/\RelV p.2.2 q.2.2) kvs xs/\
 ∃o es ep,h.get? a=some o/\o.ExactDict/\o.data= .dict es ep/\es.toList=xs.map Ra/\(xs.map (·.1)).Nodup
abbrev QH (a:Addr) (kvs:List (Addr×Sk×V)):HO:= .ext (Td a kvs)
def Ot (H:Hp) (b:Addr) (k:Sk):Prop:= ∃c,H b=some (.tup [.int k.1, .int k.2.1, .ref c])/\H c=some (.tup (k.2.2.map V.int))
def Ou (kvs:List (Addr×Sk×V)) (k:Sk):Option V:=(kvs.find? λ p=>decide (p.2.1=k)).map (·.2.2)
def Rb (kvs:List (Addr×Sk×V)) (b:Addr) (k:Sk) (v:V):List (Addr×Sk×V):=if (Ou kvs k).isSome then kvs.map λ p=>if p.2.1=k then (p.1,p.2.1,v) else p else kvs++[(b,k,v)]
def Km (H:Hp) (a:Addr) (y:V) (r:Option V):Prop:= ∃kvs k b,H a=some (QH a kvs)/\(∀p∈kvs,Ot H p.1 p.2.1)/\y= .ref b/\Ot H b k/\r=Ou kvs k
def Rc (H:Hp) (a:Addr) (y v:V) (H':Hp):Prop:= ∃kvs k b,H a=some (QH a kvs)/\(∀p∈kvs,Ot H p.1 p.2.1)/\y= .ref b/\Ot H b k/\kvs.length<sizeLine/\H'=upd H a (QH a (Rb kvs b k v))
section
variable {P:Program} {w:World} {H:Hp} {h:Heap} {a b:Addr}
abbrev KS:List (Addr×Sk×V)->List (Sk×Addr×Value)->Prop:=Paired λ p q=>p.2.1=q.1/\p.1=q.2.1/\RelV p.2.2 q.2.2
end
end L2
end
section
namespace Nk
open PySem PySem.Spec PyProof.Rows Sx
def Fn (h:Heap) (f:Value->De) (v:Value):Prop:= ∃b ob its n t1 t2 c oc ics nc,v= .ref b/\h.get? b=some ob/\ob.cls= .type "tuple"/\ob.data= .seq its n/\its.toList=[.int (f v).1 t1, .int (f v).2.1 t2, .ref c]/\h.get? c=some oc/\oc.cls= .type "tuple"/\oc.data= .seq ics nc/\IntsAre ics.toList (f v).2.2
end Nk
namespace L2
open PySem PySem.Spec PyProof.Rows Sx Nk
section
variable {prog:Program} {w:World} {A:Around} {E:Value->Shared->Prop} {s:Shared} {d:Addr} {od:Obj} {es:Array DictEntry} {ep:Nat}
theorem Hi (lo:(d==sysModules)=false) (hex:od.ExactDict) (hdd:od.data= .dict es ep):PySem.W.KdlSrc prog w "dict" d d es.size (λ i v=> ∃e,es[i]? =some e/\v=e.key) (λ h=>h.get? d=some od) where
 type:=λ s h=>⟨od,h,hex.1⟩
 there:=λ h e=>⟨Heap.lt_size e,Zm e⟩
 keep:=λ h h' e k=>k d (.inl rfl) od e
 notList:=by decide
 notTuple:=by decide
 hint:=λ A E s Q h hq=>PySem.W.kdl_hint_dict ⟨od,h,hex.1⟩ hq
 iter:=λ A s hh h=>⟨{ cls:= .type "dict_keyiterator",data:= .fields #[.ref d, .int 0 0, .int es.size 0, .int ep 0] },λ i h=>h.IsKeyIter s.heap.objs.size d i es.size ep/\h.get? d=some od,λ E Q hq=>oH lo ⟨od,h,hex.1⟩ h hdd hq,{
   sub:=λ b hb=>by simp only [Zp,Yi,Ws] at hb ⊢;exact .inl hb
   frame:=λ i h h' st k=>⟨st.1.at λ o e=>k _ (by simp) o e,k d (by simp) od st.2⟩
   item:=λ i s' Q E hi st hQ=>by
    have nd:d≠s.heap.objs.size:=Yc (Zm h);exact uz st.1 st.2 hdd hi λ h' a1 a2=>hQ _ h' s'.toks ⟨es[i],Yt hi,rfl⟩ ⟨a1,(a2.2 d nd).trans st.2⟩ λ b o hb e=>(a2.2 b (λ z=>hb (by rw [z];simp))).trans e
   done:=λ s' Q E st hQ=>yG hh st.1 st.2 hdd (Zn _) λ h' eb=>hQ h' s'.toks λ b o hb e=>eb b o (λ z=>hb (by rw [z];simp)) e
   self:=λ i s' Q E st hq=>wpAny_pyIter_keyiter st.1 hq },⟨⟨_,Zo _ rfl,rfl,rfl⟩,Zd _ h⟩⟩
def stOf (h:Heap) (v:Value):De:=open Classical in if e: ∃k,Fn h (λ _=>k) v then e.choose else (0,0,[])
end
end L2
namespace L2
open PySem PySem.Spec PyProof.Rows Nk
def RX:TE:=λ _ H Q=> ∀p,H p=none->Q (.ref p) (upd H p (QH p []))
def RZ (td ty:TE):TE:=λ σ H Q=>td σ H λ x H1=>ty σ H1 λ y H2=> ∃a v,x= .ref a/\Km H2 a y (some v)/\Q v H2
def Te (ty td:TE):TE:=λ σ H Q=>ty σ H λ y H1=>td σ H1 λ x H2=> ∃a o,x= .ref a/\Km H2 a y o/\Q (.bl o.isSome) H2
def QJ (ty td:TE):TE:=λ σ H Q=>ty σ H λ y H1=>td σ H1 λ x H2=> ∃a o,x= .ref a/\Km H2 a y o/\Q (.bl (!o.isSome)) H2
def Sq (td ty tv:TE):TS:=λ D σ H=>tv σ H λ v H1=>td σ H1 λ x H2=>ty σ H2 λ y H3=> ∃a H4,x= .ref a/\Rc H3 a y v H4/\D.nx σ H4
end L2
end
section
namespace Nk
open PySem PySem.Spec PyProof.Rows
section
variable {prog:Program} {w:World} {A:Around} {E:Value->Shared->Prop} {s:Shared}
theorem Hj {d:Addr} {od:Obj} {es:Array DictEntry} {ep:Nat} {Q:Value->Shared->Prop} (lo:(d==sysModules)=false) (hex:od.ExactDict) (ho:s.heap.get? d=some od) (hdd:od.data= .dict es ep) (hfit:(es.size:Int)<2^63)
  (h: ∀t tk,Q (.int es.size t) { s with toks:=tk }):wpAny (model prog w) A (call (.builtin "len") [.ref d]) Q E s:=by
 have T:s.TypeIs (.ref d) "dict":=⟨od,ho,hex.1⟩;refine Calls.call_function_entry kind_len plain_len entry_len (args_len1 _) ?_;unfold Builtin.«len»;refine Za (m:=oneArg "len" _) (Zh ?_);refine Za (m:=callSpecial? (.ref d) (Str.ofString "__len__")) (wpAny_callSpecial?_slot (name:=Str.ofString "__len__") T PySem.F.slot_dict_len (Xj PySem.F.slot_dict_len T PySem.F.entry_dict_len ?_ (PySem.F.args_dict_len_1 _)));unfold Builtin.«dict.__len__» Builtin.Dict.dictSlotNone;refine Za (Za (wpAny_notOrdered_dict T ?_));show wpAny _ _ (pure (Value.ref d)) _ _ _;refine Zh ?_;show wpAny _ _ (dictSize d >>= _) _ _ _;have nq: ¬ ((d==sysModules)=true):=by rw [lo];exact Zt
 unfold dictSize;refine Za (Za (wpAny_dictEntries ho hdd (Zh ?_)));show wpAny _ _ (Builtin.Dict.pendingCount d >>= _) _ _ _;unfold Builtin.Dict.pendingCount;refine Za ?_;rw [if_neg nq];refine Zh ?_;show wpAny _ _ (retInt (((es.size:Nat):Int)+((0:Nat):Int))) _ _ _;rw [show ((es.size:Nat):Int)+((0:Nat):Int)=(es.size:Int) by rfl'];refine wpAny_ret_mkInt ?_;refine Za (Wi (Zh ?_));refine Za (wpAny_letGo ?_);show wpAny _ _ (if ((es.size:Nat):Int)<0 then _ else _) _ _ _;rw [if_neg (by rfl')];show wpAny _ _ (if ((es.size:Nat):Int)>=2^63 then _ else _) _ _ _;rw [if_neg (by rfl')];exact Za (wpAny_mkInt (Zh ⟨_,rfl,h _ _⟩))
end
end Nk
end
section
namespace St
open PySem PySem.Spec PyProof.Rows
theorem slot_next:Slot "set_iterator" "__next__" "set_iterator.__next__":=
 .of (owner:="set_iterator") (n:="__next__") (by rw [typeLookup_type,builtinLookup_eq_fast];kernel_rfl) (by ac_nf) (by ac_nf) (by ac_nf)
  (by first | exact .inl (by ac_nf) | exact .inr (by ac_nf)) (by rw [isSubtype_type];kernel_rfl)
theorem slot_self:Slot "set_iterator" "__iter__" "set_iterator.__iter__":=
 .of (owner:="set_iterator") (n:="__iter__") (by rw [typeLookup_type,builtinLookup_eq_fast];kernel_rfl) (by ac_nf) (by ac_nf) (by ac_nf)
  (by first | exact .inl (by ac_nf) | exact .inr (by ac_nf)) (by rw [isSubtype_type];kernel_rfl)
theorem entry_next:entryFor table "set_iterator.__next__"=some Builtin.«set_iterator.__next__»:=entryFor_of_tree (by kernel_rfl)
theorem uN:Manifest.owners.lookup (String.ofList ['r','o','t','a','r','e','t','i','_','t','e','s'].reverse)=some Manifest.sig_set_iterator:=by kernel_rfl
theorem args_next (a:Value):argsOk "set_iterator.__next__" ⟨[a],[]⟩:=by
 unfold argsOk;rw [signature?_of (id:="set_iterator.__next__") (n:=['_','_','t','x','e','n','_','_']) (o:=['r','o','t','a','r','e','t','i','_','t','e','s']) (by kernel_rfl) uN];kernel_rfl
theorem oW:entryFor table "set.__iter__"=some Builtin.«frozenset.__iter__»:=entryFor_alias (id':="frozenset.__iter__") (by kernel_rfl) rfl (by ac_nf) (by kernel_rfl)
theorem Hk:typeLookup (.type "set") "__len__"=pure (some (.builtin "set.__len__")):=by rw [typeLookup_type,builtinLookup_eq_fast];kernel_rfl
theorem Rf (v:Value):checkBuiltinCall "set.__new__" ⟨[.type "set",v],[]⟩=pure ():=by kernel_rfl
theorem Ov (v:Value):checkTypeCall "set" ⟨[v],[]⟩=pure ():=by kernel_rfl
def SetAt (h:Heap) (a:Addr) (es:Array (Int×Value)) (ep:Nat) (t:SetTable):Prop:= ∃o,h.get? a=some o/\o.ExactSet/\o.data= .set es ep t/\t.fits es.size=true
def ItAt (h:Heap) (I:Addr) (f0:Value) (i:Nat) (a:Addr) (n ep:Nat):Prop:= ∃o,h.get? I=some o/\o.cls= .type "set_iterator"/\o.data= .fields #[f0, .int i 0, .ref a, .int n 0, .int ep 0]
theorem SetAt.typeIs {s:Shared} {a:Addr} {es:Array (Int×Value)} {ep:Nat} {t:SetTable} (x:SetAt s.heap a es ep t):s.TypeIs (.ref a) "set":=let ⟨o,ho,hc,_⟩:=x;⟨o,ho,hc.1⟩
theorem ItAt.typeIs {s:Shared} {I a:Addr} {f0:Value} {i n ep:Nat} (x:ItAt s.heap I f0 i a n ep):s.TypeIs (.ref I) "set_iterator":=let ⟨o,ho,hc,_⟩:=x;⟨o,ho,hc⟩
section
variable {prog:Program} {w:World} {A:Around} {E:Value->Shared->Prop} {s:Shared}
theorem jt {α:Type}: ∀ {l:List α} {i:Nat} (h:i<l.length),(l[i]::l.eraseIdx i).Perm l
 | x::r,0,_=>List.Perm.refl _
 | x::r,i+1,h=>by
  rw [List.getElem_cons_succ,List.eraseIdx_cons_succ];exact (List.Perm.swap _ _ _).trans (List.Perm.cons _ (jt (Nat.lt_of_succ_lt_succ h)))
theorem Ow {M:Model} {src:Source} {n:Nat} {Q:Nat->Shared->Prop} (hn:n≠0) (h: ∀i d,i<n->Q i { s with drawn:=d }):wpAny M A (choose src n) Q E s:=λ Γ p _=>by
 unfold choose;rw [Sem.wp_choose];exact ⟨hn,h _ _ (Nat.mod_lt _ (Nat.pos_of_ne_zero hn))⟩
theorem Df {M:Model} {α:Type}: ∀ {n:Nat} {xs:List α} {s:Shared} {Q:List α->Shared->Prop},xs.length=n->(∀ys d,ys.Perm xs->Q ys { s with drawn:=d })->wpAny M A (drawOrder n xs) Q E s:=by
 intro n;induction n with
 | zero=>
  intro xs s Q e h;rw [We e] at h ⊢;unfold drawOrder;exact Zh (h [] s.drawn (List.Perm.refl _))
 | succ n ih=>
  intro xs s Q e h;obtain ⟨x,r,rfl⟩:=List.exists_cons_of_length_pos (show 0<xs.length by rw [e];exact Nat.succ_pos n);unfold drawOrder;refine Za (Ow (by rw [e];exact Nat.succ_ne_zero n) λ i d hi=> ?_);rw [Qb hi];refine Za (ih (by rw [List.length_eraseIdx,if_pos hi,e];rfl) λ ys d' p=> ?_);refine Zh (h _ d' ?_);exact (List.Perm.cons _ p).trans (jt hi)
theorem Hl {α:Type} (next:Nat->Nat): ∀ (m k:Nat) (l:List α) (out:Array α),l.length=m->(pickOrder.go next m k l out).toList.Perm (out.toList++l):=by
 intro m;induction m with
 | zero=>intro k l out e;rw [We e];unfold pickOrder.go;rw [Xd]
 | succ m ih=>
  intro k l out e;have hl:0<l.length:=by rw [e];exact Nat.succ_pos m
  have hi:next k%l.length<l.length:=Nat.mod_lt _ hl;unfold pickOrder.go;rw [Qb hi];refine (ih _ _ _ (by rw [List.length_eraseIdx,if_pos hi,e];rfl)).trans ?_;rw [Array.toList_push,Wx];exact List.Perm.append_left _ (jt hi)
theorem lw {α:Type} (next:Nat->Nat) (xs:Array α):(pickOrder next xs).toList.Perm xs.toList:=by
 have:=Hl next xs.size 0 xs.toList #[] (Yk);simpa [pickOrder] using this
theorem mF {a:Addr} {es:Array (Int×Value)} {ep:Nat} {t:SetTable} {Q:Bool->Shared->Prop} (hS:SetAt s.heap a es ep t)
  (h:Q (!w.params.followText "set-order"&&(!t.plain&&decide (es.size>1))) s):wpAny (model prog w) A (setDrawn a) Q E s:=by
 obtain ⟨o,ho,hc,hd,hf⟩:=hS;unfold setDrawn setsByText;refine Za (wpAny_setState_of ho hd hf ?_);exact Za (Za (wpAny_askSetting (Zh (Zh h))))
theorem oX {a:Addr} {es:Array (Int×Value)} {ep:Nat} {t:SetTable} {Q:Value->Shared->Prop} (hS:SetAt s.heap a es ep t) (hn:(!w.params.followText "set-order"&&(!t.plain&&decide (es.size>1)))=false)
  (h:Q (.ref s.heap.objs.size) { s with heap:=s.heap.push { cls:= .type "set_iterator",data:= .fields #[.int 0 0, .int 0 0, .ref a, .int es.size 0, .int ep 0] } }):wpAny (model prog w) A (pyIter (.ref a)) Q E s:=by
 obtain ⟨o,ho,hc,hd,hf⟩:=id hS;refine wpAny_pyIter_slot hS.typeIs F.slot_set_iter (Xj F.slot_set_iter hS.typeIs oW ?_ (F.args_set_iter_1 _));unfold Builtin.«frozenset.__iter__» Builtin.Frozenset.slot0 slotArgs;simp only [List.isEmpty_nil,Bool.not_true,Ym,↓reduceIte,bind_assoc,Wc,Xk];unfold Builtin.Frozenset.addrOf Builtin.Frozenset.sizeOf;refine Za (Zh ?_);try dsimp only
 refine Za (Zh ?_);refine Za (Za (wpAny_setEntries_of ho hd hf (Zh ?_)));refine Za (mF hS ?_);rw [hn];simp only [Ym,↓reduceIte];refine Za (Zh ?_);refine Za (wpAny_setEpoch_of ho hd hf ?_);refine Za (Xi (Zh ⟨_,rfl,"set_iterator",_,⟨_,Zo _ rfl,rfl⟩,slot_next.lookup,?_⟩));simpa [rawInt] using h
theorem wF {a:Addr} {es:Array (Int×Value)} {ep:Nat} {t:SetTable} {Q:Value->Shared->Prop} (hS:SetAt s.heap a es ep t) (hn:(!w.params.followText "set-order"&&(!t.plain&&decide (es.size>1)))=true) (hz:es.size<=sizeLine)
  (h: ∀ (ys:List Nat) d,ys.Perm (List.range es.size)->Q (.ref (s.heap.objs.size+1)) { s with heap:=(s.heap.push { cls:= .type "tuple",data:= .seq (ys.map λ i:Nat=>Value.int i 0).toArray }).push { cls:= .type "set_iterator",data:= .fields #[.ref s.heap.objs.size, .int 0 0, .ref a, .int es.size 0, .int ep 0] },drawn:=d }):
  wpAny (model prog w) A (pyIter (.ref a)) Q E s:=by
 obtain ⟨o,ho,hc,hd,hf⟩:=id hS;refine wpAny_pyIter_slot hS.typeIs F.slot_set_iter (Xj F.slot_set_iter hS.typeIs oW ?_ (F.args_set_iter_1 _));unfold Builtin.«frozenset.__iter__» Builtin.Frozenset.slot0 slotArgs;simp only [List.isEmpty_nil,Bool.not_true,Ym,↓reduceIte,bind_assoc,Wc,Xk];unfold Builtin.Frozenset.addrOf Builtin.Frozenset.sizeOf;refine Za (Zh ?_);try dsimp only
 refine Za (Zh ?_);refine Za (Za (wpAny_setEntries_of ho hd hf (Zh ?_)));refine Za (mF hS ?_);rw [hn];simp only [↓reduceIte];refine Za (Df (Yv) λ ys d p=> ?_);refine Za (wpAny_newTuple ?_ (by rw [Qr,p.length_eq,Yv];exact hz));refine Za (wpAny_setEpoch_of (Zd _ ho) hd hf ?_);refine Za (Xi (Zh ⟨_,rfl,"set_iterator",_,⟨_,Zo _ rfl,rfl⟩,slot_next.lookup,?_⟩));have:=h ys d p;rw [<- size_push' (h:=s.heap) (o:={ cls:= .type "tuple",data:= .seq (ys.map λ i:Nat=>Value.int i 0).toArray })] at this;exact this
theorem qF {a:Addr} {es:Array (Int×Value)} {ep slot given:Nat} {t:SetTable} {Q:Option (Value×Nat)->Shared->Prop} (hS:SetAt s.heap a es ep t) (hb:w.params.followText "set-order"=true)
  (h:Q (((pickOrder (w.params.setOrder a ep) es)[given]?).map λ e=>(e.2,slot)) s):wpAny (model prog w) A (setNext a slot given ep) Q E s:=by
 obtain ⟨o,ho,hc,hd,hf⟩:=hS;unfold setNext setsByText;refine Za (wpAny_setState_of ho hd hf ?_);refine Za (Za (wpAny_askSetting (Zh ?_)));show wpAny _ _ (if w.params.followText "set-order"=true then _ else _) _ _ _;rw [if_pos hb];simp only [Xk,Ym,↓reduceIte];refine Za ?_;unfold setWalk setsByText;refine Za (wpAny_setState_of ho hd hf ?_);refine Za (Za (wpAny_askSetting (Zh ?_)));show wpAny _ _ (if w.params.followText "set-order"=true then _ else _) _ _ _;rw [if_pos hb];exact Za (wpAny_askSetting (Zh (Zh h)))
theorem oY {a:Addr} {es:Array (Int×Value)} {ep slot given:Nat} {t:SetTable} {Q:Option (Value×Nat)->Shared->Prop} (hS:SetAt s.heap a es ep t) (hb:w.params.followText "set-order"=false)
  (hn:(!t.plain&&decide (es.size>1))=false) (hl:(!t.led&& !es.isEmpty)=false)
  (h:Q (match es[SetTable.below t.place slot]?,t.place[SetTable.below t.place slot]? with | some (_,x),some j=>some (x,j+1) | _,_=>none) s):wpAny (model prog w) A (setNext a slot given ep) Q E s:=by
 obtain ⟨o,ho,hc,hd,hf⟩:=hS;unfold setNext setsByText;refine Za (wpAny_setState_of ho hd hf ?_);refine Za (Za (wpAny_askSetting (Zh ?_)));show wpAny _ _ (if w.params.followText "set-order"=true then _ else _) _ _ _;rw [if_neg (by rw [hb];exact Zt)];show wpAny _ _ (if (!t.plain&&decide (es.size>1))=true then _ else _) _ _ _;rw [if_neg (by rw [hn];exact Zt)];show wpAny _ _ ((if (!t.led&& !es.isEmpty)=true then unsupported "set:maker-not-led" else pure ()) >>= _) _ _ _;rw [if_neg (by rw [hl];exact Zt)];exact Za (Zh (Zh h))
theorem wG {a:Addr} {es:Array (Int×Value)} {ep place:Nat} {t:SetTable} {x:Int×Value} {Q:Value->Shared->Prop} (hS:SetAt s.heap a es ep t) (hx:es[place]? =some x)
  (h:Q x.2 s):wpAny (model prog w) A (setNextDrawn a place ep) Q E s:=by
 obtain ⟨o,ho,hc,hd,hf⟩:=hS;unfold setNextDrawn;refine Za (wpAny_setState_of ho hd hf ?_);simp only [Xk,Ym,↓reduceIte];rw [hx];exact Zh h
theorem uO {I a:Addr} {es:Array (Int×Value)} {k i ep nx:Nat} {t:SetTable} {x:Value} {Q:Option Value->Shared->Prop} (hit:ItAt s.heap I (.int k 0) i a es.size ep) (hS:SetAt s.heap a es ep t)
  (hx: ∀ (A:Around) (E:Value->Shared->Prop) (Q:Option (Value×Nat)->Shared->Prop),Q (some (x,nx)) s->wpAny (model prog w) A (setNext a k i ep) Q E s)
  (hQ: ∀h',ItAt h' I (.int nx 0) (i+1) a es.size ep->Heap.SameBut I s.heap h'->Q (some x) { s with heap:=h' }):wpAny (model prog w) A (pyNext (.ref I)) Q E s:=by
 obtain ⟨o,ho,hc,hd⟩:=id hit;obtain ⟨oS,hoS,hcS,hdS,hfS⟩:=id hS;unfold pyNext;refine Za (wpAny_attempt (wpAny_callSpecial?_slot (name:=Str.ofString "__next__") hit.typeIs slot_next
  (Xj slot_next hit.typeIs entry_next ?_ (args_next _))))
 unfold Builtin.«set_iterator.__next__» slotArgs;simp only [List.isEmpty_nil,Bool.not_true,Ym,↓reduceIte,bind_assoc,Wc,Xk];refine Za (Zh ?_);refine Za (wpAny_fieldsOf ho hd ?_);dsimp only;refine Za (wpAny_setEntries_of hoS hdS hfS ?_);simp only [Xk,Ym,↓reduceIte,Zi];refine Za (hx _ _ _ ?_);dsimp only;refine Za (Wm ho hd (by simp) ?_);have ho2:=Xm (Obj.mapFields (·.setIfInBounds 0 (rawInt (nx:Int)))) ho (Wz (Yw hd _));refine Za (Wm ho2 (Yw hd _) (by simp) ?_);refine Zh ⟨_,rfl,Zh (hQ _ ⟨_,Xm _ ho2 (Wz (Yw (Yw hd _) _)),(Obj.cls_mapFields ..).trans ((Obj.cls_mapFields ..).trans hc),?_⟩ ((Xc ..).trans (Xc ..)))⟩;rw [Yw (Yw hd _)];simp [rawInt]
theorem end_int {I a:Addr} {es:Array (Int×Value)} {k i ep:Nat} {t:SetTable} {Q:Option Value->Shared->Prop} (hh:A.handled=none) (hit:ItAt s.heap I (.int k 0) i a es.size ep) (hS:SetAt s.heap a es ep t)
  (hx: ∀ (A:Around) (E:Value->Shared->Prop) (Q:Option (Value×Nat)->Shared->Prop),Q none s->wpAny (model prog w) A (setNext a k i ep) Q E s)
  (hQ: ∀h',Heap.ExtBut I s.heap h'->Q none { s with heap:=h' }):wpAny (model prog w) A (pyNext (.ref I)) Q E s:=by
 obtain ⟨o,ho,hc,hd⟩:=id hit;obtain ⟨oS,hoS,hcS,hdS,hfS⟩:=id hS;unfold pyNext;refine Za (wpAny_attempt (wpAny_callSpecial?_slot (name:=Str.ofString "__next__") hit.typeIs slot_next
  (Xj slot_next hit.typeIs entry_next ?_ (args_next _))))
 unfold Builtin.«set_iterator.__next__» slotArgs;simp only [List.isEmpty_nil,Bool.not_true,Ym,↓reduceIte,bind_assoc,Wc,Xk];refine Za (Zh ?_);refine Za (wpAny_fieldsOf ho hd ?_);dsimp only;refine Za (wpAny_setEntries_of hoS hdS hfS ?_);simp only [Xk,Ym,↓reduceIte,Zi];refine Za (hx _ _ _ ?_);dsimp only;refine Za (Wm ho hd (by simp) ?_);show wpAny _ _ (newExc (.type "StopIteration") [] >>= _) _ _ _;refine Za ?_;simp only [newExc,newTuple];refine Za (Xi ?_ (by size_fits));refine Za (m:=firstArgMember _ _) (wpAny_of_eq (a:=Value.none) (by first | rfl | (simp only [firstArgMember];rfl)) ?_);refine Xi ?_ (by size_fits);simp only [raiseNew];refine Za (wpAny_handled ?_);rw [show A.in1.handled=none from hh];refine Za (Zh (wpAny_throw ?_));refine Za (wpAny_isInstance (T:="StopIteration") (b:=true) ⟨_,Zo _ rfl,rfl⟩ isSubtype_stop ?_);exact Zh (hQ _ (((Xc ..).extBut.push _).push _))
theorem Dg {I a T:Addr} {es:Array (Int×Value)} {ys:List Nat} {i j ep:Nat} {t:SetTable} {x:Int×Value} {Q:Option Value->Shared->Prop} (hit:ItAt s.heap I (.ref T) i a es.size ep) (hS:SetAt s.heap a es ep t)
  (hT:s.heap.IsTuple T (ys.map λ i:Nat=>Value.int i 0).toArray) (hj:ys[i]? =some j) (hx:es[j]? =some x)
  (hQ: ∀h',ItAt h' I (.ref T) (i+1) a es.size ep->Heap.SameBut I s.heap h'->Q (some x.2) { s with heap:=h' }):wpAny (model prog w) A (pyNext (.ref I)) Q E s:=by
 obtain ⟨o,ho,hc,hd⟩:=id hit;obtain ⟨oS,hoS,hcS,hdS,hfS⟩:=id hS;unfold pyNext;refine Za (wpAny_attempt (wpAny_callSpecial?_slot (name:=Str.ofString "__next__") hit.typeIs slot_next
  (Xj slot_next hit.typeIs entry_next ?_ (args_next _))))
 unfold Builtin.«set_iterator.__next__» slotArgs;simp only [List.isEmpty_nil,Bool.not_true,Ym,↓reduceIte,bind_assoc,Wc,Xk];refine Za (Zh ?_);refine Za (wpAny_fieldsOf ho hd ?_);dsimp only;refine Za (wpAny_setEntries_of hoS hdS hfS ?_);simp only [Xk,Ym,↓reduceIte,Zi];obtain ⟨oT,hoT,hcT,nT,hdT⟩:=hT;refine Za (wpAny_seqItems hoT hdT ?_);dsimp only;rw [show (ys.map λ i:Nat=>Value.int i 0).toArray[i]? =some (.int j 0) by rw [List.getElem?_toArray,Zg,hj];rfl];dsimp only;rw [Zi];refine Za (wG hS hx ?_);refine Za (Wm ho hd (by simp) ?_);refine Zh ⟨_,rfl,Zh (hQ _ ⟨_,Xm _ ho (Wz (Yw hd _)),(Obj.cls_mapFields ..).trans hc,?_⟩ (Xc ..))⟩;rw [Yw hd];simp [rawInt]
theorem Hm {I a T:Addr} {es:Array (Int×Value)} {ys:List Nat} {i ep:Nat} {t:SetTable} {Q:Option Value->Shared->Prop} (hh:A.handled=none) (hit:ItAt s.heap I (.ref T) i a es.size ep) (hS:SetAt s.heap a es ep t)
  (hT:s.heap.IsTuple T (ys.map λ i:Nat=>Value.int i 0).toArray) (hj:ys[i]? =none)
  (hQ: ∀h',Heap.ExtBut I s.heap h'->Q none { s with heap:=h' }):wpAny (model prog w) A (pyNext (.ref I)) Q E s:=by
 obtain ⟨o,ho,hc,hd⟩:=id hit;obtain ⟨oS,hoS,hcS,hdS,hfS⟩:=id hS;unfold pyNext;refine Za (wpAny_attempt (wpAny_callSpecial?_slot (name:=Str.ofString "__next__") hit.typeIs slot_next
  (Xj slot_next hit.typeIs entry_next ?_ (args_next _))))
 unfold Builtin.«set_iterator.__next__» slotArgs;simp only [List.isEmpty_nil,Bool.not_true,Ym,↓reduceIte,bind_assoc,Wc,Xk];refine Za (Zh ?_);refine Za (wpAny_fieldsOf ho hd ?_);dsimp only;refine Za (wpAny_setEntries_of hoS hdS hfS ?_);simp only [Xk,Ym,↓reduceIte,Zi];obtain ⟨oT,hoT,hcT,nT,hdT⟩:=hT;refine Za (wpAny_seqItems hoT hdT ?_);dsimp only;rw [show (ys.map λ i:Nat=>Value.int i 0).toArray[i]? =none by rw [List.getElem?_toArray,Zg,hj];rfl];dsimp only;refine Za (Wm ho hd (by simp) ?_);have ho2:=Xm (Obj.mapFields (·.setIfInBounds 0 (rawInt 0))) ho (Wz (Yw hd _));refine Za (Wm ho2 (Yw hd _) (by simp) ?_);show wpAny _ _ (newExc (.type "StopIteration") [] >>= _) _ _ _;refine Za ?_;simp only [newExc,newTuple];refine Za (Xi ?_ (by size_fits));refine Za (m:=firstArgMember _ _) (wpAny_of_eq (a:=Value.none) (by first | rfl | (simp only [firstArgMember];rfl)) ?_);refine Xi ?_ (by size_fits);simp only [raiseNew];refine Za (wpAny_handled ?_);rw [show A.in1.handled=none from hh];refine Za (Zh (wpAny_throw ?_));refine Za (wpAny_isInstance (T:="StopIteration") (b:=true) ⟨_,Zo _ rfl,rfl⟩ isSubtype_stop ?_);exact Zh (hQ _ ((((Xc ..).trans (Xc ..)).extBut.push _).push _))
theorem entry_self:entryFor table "set_iterator.__iter__"=some Builtin.«dict_keyiterator.__iter__»:=entryFor_alias (id':="dict_keyiterator.__iter__") (by kernel_rfl) rfl (by ac_nf) (by kernel_rfl)
theorem args_self (a:Value):argsOk "set_iterator.__iter__" ⟨[a],[]⟩:=by
 unfold argsOk;rw [signature?_of (id:="set_iterator.__iter__") (n:=['_','_','r','e','t','i','_','_']) (o:=['r','o','t','a','r','e','t','i','_','t','e','s']) (by kernel_rfl) uN];kernel_rfl
theorem nG {I a:Addr} {f0:Value} {i n ep:Nat} {Q:Value->Shared->Prop} (hit:ItAt s.heap I f0 i a n ep) (h:Q (.ref I) s):wpAny (model prog w) A (pyIter (.ref I)) Q E s:=by
 refine wpAny_pyIter_slot hit.typeIs slot_self (Xj slot_self hit.typeIs entry_self ?_ (args_self _));show wpAny _ _ (ret (.ref I)) _ _ s;exact Zh ⟨_,rfl,"set_iterator",_,hit.typeIs,slot_next.lookup,h⟩
theorem SetAt.at' {h h':Heap} {a:Addr} {es:Array (Int×Value)} {ep:Nat} {t:SetTable} (x:SetAt h a es ep t) (e: ∀o,h.get? a=some o->h'.get? a=some o):SetAt h' a es ep t:=let ⟨o,ho,r⟩:=x;⟨o,e _ ho,r⟩
theorem ItAt.at' {h h':Heap} {I a:Addr} {f0:Value} {i n ep:Nat} (x:ItAt h I f0 i a n ep) (e: ∀o,h.get? I=some o->h'.get? I=some o):ItAt h' I f0 i a n ep:=let ⟨o,ho,r⟩:=x;⟨o,e _ ho,r⟩
theorem IsTuple.at' {h h':Heap} {a:Addr} {vs:Array Value} (x:h.IsTuple a vs) (e: ∀o,h.get? a=some o->h'.get? a=some o):h'.IsTuple a vs:=let ⟨o,ho,r⟩:=x;⟨o,e _ ho,r⟩
theorem wH (hh:A.handled=none) {I a:Addr} (hne:a≠I) {es:Array (Int×Value)} {ep:Nat} {t:SetTable} (hb:w.params.followText "set-order"=true):
  Walks prog w A I [I,a] [I] es.size (λ i v=> ∃h,(pickOrder (w.params.setOrder a ep) es)[i]? =some (h,v)) (λ i h=>ItAt h I (.int 0 0) i a es.size ep/\SetAt h a es ep t) where
 sub:=λ b hb=>by simp at hb;simp [hb]
 frame:=λ _ _ _ st hk=>⟨st.1.at' λ o e=>hk I (by simp) o e,st.2.at' λ o e=>hk a (by simp) o e⟩
 item:=λ i s Q E hi st hQ=>by
  have hz:(pickOrder (w.params.setOrder a ep) es).size=es.size:=by rw [<- Yk,(lw _ _).length_eq,Yk]
  have hi':i<(pickOrder (w.params.setOrder a ep) es).size:=by rw [hz];exact hi
  refine uO (k:=0) (nx:=0) (x:=(pickOrder (w.params.setOrder a ep) es)[i].2) st.1 st.2 (λ A E Q q=>qF st.2 hb ?_) λ h' hit' hs'=> ?_
  ·rw [Yt hi'];exact q
  ·exact hQ _ h' s.toks ⟨_,Yt hi'⟩ ⟨hit',st.2.at' λ o e=>hs'.extBut a o hne e⟩ λ b o hb e=>hs'.extBut b o (λ h=>hb (by simp [h])) e
 done:=λ s Q E st hQ=>by
  have hz:(pickOrder (w.params.setOrder a ep) es).size=es.size:=by rw [<- Yk,(lw _ _).length_eq,Yk]
  refine end_int (k:=0) hh st.1 st.2 (λ A E Q q=>qF st.2 hb ?_) λ h' he'=>hQ h' s.toks λ b o hb e=>he' b o (λ h=>hb (by simp [h])) e
  rw [Wq (by rw [hz];exact Zn _)];exact q
 self:=λ _ _ _ _ st hQ=>nG st.1 hQ
theorem uP (hh:A.handled=none) {I a T:Addr} (hne:a≠I) (hT:T≠I) {es:Array (Int×Value)} {ys:List Nat} {ep:Nat} {t:SetTable} (hp:ys.Perm (List.range es.size)):
  Walks prog w A I [I,a,T] [I] es.size (λ i v=> ∃ (j:Nat) (h:Int),ys[i]? =some j/\es[j]? =some (h,v)) (λ i h=>ItAt h I (.ref T) i a es.size ep/\SetAt h a es ep t/\h.IsTuple T (ys.map λ i:Nat=>Value.int i 0).toArray) where
 sub:=λ b hb=>by simp at hb;simp [hb]
 frame:=λ _ _ _ st hk=>⟨st.1.at' λ o e=>hk I (by simp) o e,st.2.1.at' λ o e=>hk a (by simp) o e,IsTuple.at' st.2.2 λ o e=>hk T (by simp) o e⟩
 item:=λ i s Q E hi st hQ=>by
  have hl:ys.length=es.size:=by rw [hp.length_eq,Yv]
  have hj:ys[i]? =some (ys[i]'(by rw [hl];exact hi)):=Qb _;have hj2:ys[i]'(by rw [hl];exact hi)<es.size:=Xn.mp (hp.mem_iff.mp (Zl _));refine Dg st.1 st.2.1 st.2.2 hj (Yt hj2) λ h' hit' hs'=> ?_
  exact hQ _ h' s.toks ⟨_,_,hj,Yt hj2⟩ ⟨hit',st.2.1.at' λ o e=>hs'.extBut a o hne e,IsTuple.at' st.2.2 λ o e=>hs'.extBut T o hT e⟩ λ b o hb e=>hs'.extBut b o (λ h=>hb (by simp [h])) e
 done:=λ s Q E st hQ=>Hm hh st.1 st.2.1 st.2.2 (Yb (by rw [hp.length_eq,Yv];exact Zn _)) λ h' he'=>hQ h' s.toks λ b o hb e=>he' b o (λ h=>hb (by simp [h])) e
 self:=λ _ _ _ _ st hQ=>nG st.1 hQ
theorem Ko (xs:Array Nat) (h:xs.size<=1):SetTable.below xs 0=0:=by
 obtain ⟨l⟩:=xs
 match l,h with
 | [],_=>rfl
 | [j],_=>simp [SetTable.below,SetTable.below.go]
theorem Kq (j:Nat):SetTable.below #[j] (j+1)=1:=by simp [SetTable.below,SetTable.below.go]
theorem wI (hh:A.handled=none) {I a:Addr} (hne:a≠I) {ep:Nat} {t:SetTable} (hb:w.params.followText "set-order"=false):
  Walks prog w A I [I,a] [I] 0 (λ _ _=>False) (λ i h=>ItAt h I (.int 0 0) i a (#[]:Array (Int×Value)).size ep/\SetAt h a #[] ep t) where
 sub:=λ b hb=>by simp at hb;simp [hb]
 frame:=λ _ _ _ st hk=>⟨st.1.at' λ o e=>hk I (by simp) o e,st.2.at' λ o e=>hk a (by simp) o e⟩
 item:=λ i s Q E hi st hQ=>absurd hi (Nat.not_lt_zero _)
 done:=λ s Q E st hQ=>by
  refine end_int (k:=0) hh st.1 st.2 (λ A E Q q=>oY st.2 hb (by simp) (by simp) ?_) λ h' he'=>hQ h' s.toks λ b o hb e=>he' b o (λ h=>hb (by simp [h])) e
  rw [show ∀i:Nat,(#[]:Array (Int×Value))[i]? =none from λ i=>Wq (Yu _)];exact q
 self:=λ _ _ _ _ st hQ=>nG st.1 hQ
theorem Ai (hh:A.handled=none) {I a:Addr} (hne:a≠I) {x:Int×Value} {ep j:Nat} {t:SetTable} (hb:w.params.followText "set-order"=false) (hl:t.led=true) (hj:t.place= #[j]):
  Walks prog w A I [I,a] [I] 1 (λ _ v=>v=x.2) (λ i h=>ItAt h I (.int ((if i=0 then 0 else j+1:Nat):Int) 0) i a (#[x]:Array (Int×Value)).size ep/\SetAt h a #[x] ep t) where
 sub:=λ b hb=>by simp at hb;simp [hb]
 frame:=λ _ _ _ st hk=>⟨st.1.at' λ o e=>hk I (by simp) o e,st.2.at' λ o e=>hk a (by simp) o e⟩
 item:=λ i s Q E hi st hQ=>by
  obtain rfl:i=0:=Nat.lt_one_iff.mp hi;refine uO (k:=0) (nx:=j+1) (x:=x.2) st.1 st.2 (λ A E Q q=>oY st.2 hb (by simp) (by simp [hl]) ?_) λ h' hit' hs'=> ?_
  ·rw [hj,Ko _ (Zn _)];exact q
  ·exact hQ _ h' s.toks rfl ⟨hit',st.2.at' λ o e=>hs'.extBut a o hne e⟩ λ b o hb e=>hs'.extBut b o (λ h=>hb (by simp [h])) e
 done:=λ s Q E st hQ=>by
  refine end_int (k:=j+1) hh st.1 st.2 (λ A E Q q=>oY st.2 hb (by simp) (by simp [hl]) ?_) λ h' he'=>hQ h' s.toks λ b o hb e=>he' b o (λ h=>hb (by simp [h])) e
  rw [hj,Kq];exact q
 self:=λ _ _ _ _ st hQ=>nG st.1 hQ
structure Go (prog:Program) (w:World) (A:Around) (s:Shared) (a:Addr) (vs:List Value) (n:Nat) (I:Addr) (s1:Shared):Prop where
 ex: ∃ (fp:List Addr) (P:Nat->Value->Prop) (St:Nat->Heap->Prop),Walks prog w A I fp [I] n P St/\St 0 s1.heap/\(∀b∈fp,b=a\/s.heap.objs.size<=b)/\ ∀acc:Array Value,ItemsOf P acc n->acc.toList.Perm vs
 keep: ∀b o,s.heap.get? b=some o->s1.heap.get? b=some o
 fresh:s.heap.objs.size<=I
 rest: ∃d,s1={ s with heap:=s1.heap,drawn:=d }
theorem Aj {α:Type} {l m:List α} (h:(l.map some).Perm (m.map some)):l.Perm m:=by
 have:=h.filterMap id;simpa [List.filterMap_map] using this
theorem Ak {es:Array (Int×Value)} {ys:List Nat} (hp:ys.Perm (List.range es.size)) {acc:Array Value} (h:ItemsOf (λ i v=> ∃ (j:Nat) (h:Int),ys[i]? =some j/\es[j]? =some (h,v)) acc es.size):acc.toList.Perm (es.toList.map (·.2)):=by
 have hl:ys.length=es.size:=by rw [hp.length_eq,Yv]
 apply Aj;have e1:acc.toList.map some=ys.map λ j=>es[j]?.map (·.2):=by
  apply List.ext_getElem?;intro i;rw [Zg,Zg];by_cases hi:i<es.size
  ·have hi':i<acc.size:=by rw [h.1];exact hi
   obtain ⟨j,hv,e1,e2⟩:=h.2 i acc[i] (Yt hi');rw [e1,Xr,Yt hi'];simp [e2]
  ·rw [Xr,Wq (by rw [h.1];rfl'),Yb (by rfl')];rfl
 rw [e1];refine (hp.map _).trans (List.Perm.of_eq ?_);rw [Zk];apply List.ext_getElem
 ·rw [Qr,Qr,Yv,Yk]
 ·intro i h1 h2;rw [Qr,Yv] at h1;simp [h1]
theorem Dh {es:Array (Int×Value)} {ps:Array (Int×Value)} (hp:ps.toList.Perm es.toList) {acc:Array Value} (h:ItemsOf (λ i v=> ∃h,ps[i]? =some (h,v)) acc es.size):acc.toList.Perm (es.toList.map (·.2)):=by
 have hz:ps.size=es.size:=by rw [<- Yk,hp.length_eq,Yk]
 refine List.Perm.trans (List.Perm.of_eq ?_) (hp.map _);apply List.ext_getElem?;intro i;rw [Zg,Xr,Xr];by_cases hi:i<es.size
 ·have hi':i<acc.size:=by rw [h.1];exact hi
  obtain ⟨hv,e⟩:=h.2 i acc[i] (Yt hi');rw [e,Yt hi'];rfl
 ·rw [Wq (by rw [h.1];rfl'),Wq (by rfl')];rfl
theorem Di {a:Addr} {es:Array (Int×Value)} {ep:Nat} {t:SetTable} (hh:A.handled=none) (hS:SetAt s.heap a es ep t) (hz:es.size<=sizeLine)
  (hl:w.params.followText "set-order"=false->t.led=true) (hp:1<=es.size->t.plain=false) {Q:Value->Shared->Prop} (h: ∀I s1,Go prog w A s a (es.toList.map (·.2)) es.size I s1->Q (.ref I) s1):wpAny (model prog w) A (pyIter (.ref a)) Q E s:=by
 have hlt:a<s.heap.objs.size:=let ⟨_,ho,_⟩:=hS;Zm ho
 cases hb:w.params.followText "set-order" with
 | true=>
  refine oX hS (by rw [hb];rfl) (h _ _ ⟨⟨_,_,_,wH (es:=es) (ep:=ep) (t:=t) hh (Yc hlt) hb,⟨⟨_,Zo _ rfl,rfl,rfl⟩,hS.at' λ o e=>Zd _ e⟩,?_,λ acc ha=>Dh (lw _ _) ha⟩,λ b o e=>Zd _ e,Zn _,s.drawn,rfl⟩);intro b hb;simp at hb;rcases hb with rfl | rfl
  ·exact .inr (Zn _)
  ·exact .inl rfl
 | false=>
  by_cases h1:es.size>1
  ·have hdr:(!w.params.followText "set-order"&&(!t.plain&&decide (es.size>1)))=true:=by rw [hb,hp (by rfl'),Yh h1];rfl
   refine wF hS hdr hz λ ys d p=>h _ _ ⟨⟨_,_,_,uP (T:=s.heap.objs.size) (es:=es) (ys:=ys) (ep:=ep) (t:=t) hh (Yc (Nat.lt_succ_of_lt hlt)) (Yc (Nat.lt_succ_self _)) p,⟨⟨{ cls:= .type "set_iterator",data:= .fields #[.ref s.heap.objs.size, .int 0 0, .ref a, .int es.size 0, .int ep 0] },?_,rfl,rfl⟩,hS.at' λ o e=>Zd _ (Zd _ e),?_⟩,?_,λ acc ha=>Ak p ha⟩,λ b o e=>Zd _ (Zd _ e),Nat.le_succ _,d,rfl⟩
   ·have:=Zo (s.heap.push { cls:= .type "tuple",data:= .seq (ys.map λ i:Nat=>Value.int i 0).toArray }) (o:={ cls:= .type "set_iterator",data:= .fields #[.ref s.heap.objs.size, .int 0 0, .ref a, .int es.size 0, .int ep 0] }) rfl;rw [size_push'] at this;exact this
   ·exact ⟨_,Zd _ (Zo _ rfl),rfl,_,rfl⟩
   ·intro b hb;simp at hb;rcases hb with rfl | rfl | rfl
    ·exact .inr (Nat.le_succ _)
    ·exact .inl rfl
    ·exact .inr (Zn _)
  ·have hdr:(!w.params.followText "set-order"&&(!t.plain&&decide (es.size>1)))=false:=by rw [Yo h1];simp
   have fp: ∀b∈[s.heap.objs.size,a],b=a\/s.heap.objs.size<=b:=by
    intro b hb;simp at hb;rcases hb with rfl | rfl
    ·exact .inr (Zn _)
    ·exact .inl rfl
   obtain ⟨l⟩:=es
   cases l with
   | nil=>
    refine oX hS hdr (h _ _ ⟨⟨_,_,_,wI (ep:=ep) (t:=t) hh (Yc hlt) hb,⟨⟨_,Zo _ rfl,rfl,rfl⟩,hS.at' λ o e=>Zd _ e⟩,fp,λ acc ha=> ?_⟩,λ b o e=>Zd _ e,Zn _,s.drawn,rfl⟩);have:=ha.1;rw [Array.size_eq_zero_iff.mp this];exact List.Perm.refl _
   | cons x l=>
    cases l with
    | cons y l=>simp at h1
    | nil=>
     obtain ⟨o,ho,hc,hd,hf⟩:=id hS;have hpl:t.place.size=1:=by
      simp only [SetTable.fits,Xw,beq_iff_eq] at hf;exact hf.1
     obtain ⟨j,hj⟩: ∃j,t.place= #[j]:=Array.size_eq_one_iff.mp hpl;refine oX hS hdr (h _ _ ⟨⟨_,_,_,Ai (x:=x) (ep:=ep) (t:=t) (j:=j) hh (Yc hlt) hb (hl hb) hj,⟨⟨_,Zo _ rfl,rfl,rfl⟩,hS.at' λ o e=>Zd _ e⟩,fp,λ acc ha=> ?_⟩,λ b o e=>Zd _ e,Zn _,s.drawn,rfl⟩);obtain ⟨v,rfl⟩: ∃v,acc= #[v]:=Array.size_eq_one_iff.mp ha.1;rw [ha.2 0 v rfl];exact List.Perm.refl _
def vD (prog:Program) (w:World) (a:Addr) (es:Array (Int×Value)) (ep:Nat) (t:SetTable):Prop:= ∀ {A:Around} {E:Value->Shared->Prop} {s:Shared} {Q:Value->Shared->Prop},A.handled=none->SetAt s.heap a es ep t->(∀I s1,Go prog w A s a (es.toList.map (·.2)) es.size I s1->Q (.ref I) s1)->wpAny (model prog w) A (pyIter (.ref a)) Q E s
theorem Dj {r:Addr} {Q:Bool->Shared->Prop} (hT:s.TypeIs (.ref r) "set") (h:Q false s):wpAny (model prog w) A (Builtin.List.listLengthHint (.ref r)) Q E s:=by
 unfold Builtin.List.listLengthHint;refine Za (wpAny_specialOf hT Hk ?_);generalize hid:("set.__len__":String)=id0
 wp_delta
 rw [show splitId id0=some ("set","__len__") from by subst hid;decide+kernel];subst hid;refine Za (wpAny_isInstance (T:="set") (b:=true) hT (by rw [isSubtype_type];kernel_rfl) ?_);refine wpAny_ite_split (λ hab=>absurd hab (by decide)) (λ _=> ?_);refine wpAny_ite_split (λ _=> ?_) (λ hab=>absurd (by ac_nf) hab);refine Za (wpAny_typeOf hT ?_);exact Zh h
theorem wJ {R:Result->Shared->Prop} {a:Addr} {es:Array (Int×Value)} {ep:Nat} {t:SetTable} (hh:A.handled=none) (hA:SetAt s.heap a es ep t) (hz:es.size<=sizeLine) (hi:vD prog w a es ep t) (S:Addr) (hSa:S≠a) (res:Value) (c₀:Nat) (hS:s.heap.get? S=some { cls:= .type "list",data:= .seq #[] c₀ })
  (hR: ∀h' tk d acc' c',(∀b o,b≠S->s.heap.get? b=some o->h'.get? b=some o)->h'.get? S=some { cls:= .type "list",dict:=none,data:= .seq acc' c',slots:= #[] }->acc'.toList.Perm (es.toList.map (·.2))->R (.ok (.ret res)) { s with heap:=h',toks:=tk,drawn:=d }):
  wpAny (model prog w) A.in1 (Builtin.List.listExtendWith (.ref S) (.ref a) res)
   (λ fin s'=>match fin with | .done f=>R (.ok f) s' | .again c'=>c'.quiet=true/\codeAny (model prog w) A c' R s') (λ e s'=>R (.error e) s') s:=by
 unfold Builtin.List.listExtendWith;refine Za (wpAny_typeOf (T:="set") hA.typeIs ?_);have h1:Builtin.List.listSameRef (.ref S) (.ref a)=false:=by simp [Builtin.List.listSameRef,hSa]
 simp only [h1,show (Value.type "set"==Value.type "list")=false by decide,show (Value.type "set"==Value.type "tuple")=false by decide,Bool.or_false,Ym,if_false];refine Za (hi (A:=A.in1) hh hA λ I s1 G=> ?_);obtain ⟨fp,P,St,W,st,hfp,hacc⟩:=G.ex;obtain ⟨d,e1⟩:=G.rest;have hlS:S<s.heap.objs.size:=Zm hS;have hSI:S≠I:=Yc (Zs hlS G.fresh);have hSf:S∉fp:=λ hm=>by
  rcases hfp S hm with e | e
  ·exact hSa e
  ·exact absurd hlS (Nat.not_lt.mpr e)
 have key: ∀ (h:Heap) (c₁ tk:Nat),St 0 h->(∀b o,b≠S->s.heap.get? b=some o->h.get? b=some o)->
   h.get? S=some { cls:= .type "list",data:= .seq #[] c₁ }->codeAny (model prog w) A (.builtin "list.extend.loop" ⟨[.ref S, .ref I,res],[]⟩) R { s1 with heap:=h,toks:=tk }:=by
  intro h c₁ tk hst hk hS₁;refine codeAny_extend_loopS W.toS hz S hSf res es.size 0 _ #[] c₁ rfl (Yu _) hst hS₁ (ItemsOf.nil _) λ s' acc' c' hm hS' hac=> ?_
  rw [Moved.eq_with hm];rw [e1];refine hR s'.heap s'.toks d acc' c' (λ b o hb e=>hm.heap b o (λ hmem=> ?_) (hk b o hb e)) hS' (hacc _ hac);rcases Zp.mp hmem with e' | hmem
  ·exact hb e'
  ·exact absurd (Zm e) (by rw [Ze.mp hmem];exact Nat.not_lt.mpr G.fresh)
 have hS₁:=G.keep _ _ hS;refine Za (Wi (Dj ⟨_,G.keep _ _ (Classical.choose_spec hA.typeIs).1,(Classical.choose_spec hA.typeIs).2⟩ ?_));refine wpAny_ite_split (λ _=> ?_) (λ _=>Zh ⟨plainId_quiet PySem.F.plain_extend_loop _,key _ c₀ _ st (λ b o _ e=>G.keep _ _ e) hS₁⟩);refine Za (wpAny_rule ?_);refine Za ?_;show wpAny _ _ (updateSeq S (·.push .none) >>= λ _=>updateSeq S (·.pop)) _ _ _;refine Za (wpAny_updateSeq hS₁ rfl ?_);have hS₂:=Xm (Obj.mapSeq (·.push Value.none)) hS₁ rfl;refine wpAny_updateSeq (hz:=by seq_fits) hS₂ rfl ?_;have hS₃:=Xm (Obj.mapSeq (·.pop)) hS₂ rfl;refine Zh ⟨plainId_quiet PySem.F.plain_extend_loop _,key _ _ _ ?_ (λ b o hb e=> ?_) hS₃⟩
 ·refine W.frame 0 _ _ st λ b hb o e=> ?_
  have hbS:b≠S:=λ h=>hSf (h▸hb)
  exact (Wg _ _ (Ne.symm hbS)).trans ((Wg _ _ (Ne.symm hbS)).trans e)
 ·exact (Wg _ _ (Ne.symm hb)).trans ((Wg _ _ (Ne.symm hb)).trans (G.keep _ _ e))
theorem uQ {a:Addr} {es:Array (Int×Value)} {ep:Nat} {t:SetTable} {R:List Value->Shared->Prop} (hh:A.handled=none) (hA:SetAt s.heap a es ep t) (hz:es.size<=sizeLine) (hi:vD prog w a es ep t)
  (h: ∀ (h':Heap) (tk:Nat) (d:Drawn) (vs:List Value),(∀b o,s.heap.get? b=some o->h'.get? b=some o)->s.heap.objs.size<=h'.objs.size->vs.Perm (es.toList.map (·.2))->R vs { s with heap:=h',toks:=tk,drawn:=d }):
  wpAny (model prog w) A (collect (.ref a)) R E s:=by
 have hd:a<s.heap.objs.size:=let ⟨_,ho,_⟩:=hA;Zm ho;unfold collect;refine Za (wpAny_runValue (codeAny_builtin entry_proto_collect' ?_));rw [Around.under_plainId PySem.F.plain_proto_collect _];show wpAny _ A.in1 (newList [] >>= λ l=>again (.builtin "list.__iadd__" ⟨[l, .ref a],[]⟩)) _ _ s;refine Za (Xi ?_);refine Zh ⟨plainId_quiet PySem.F.plain_list_iadd _,codeAny_builtin entry_list_iadd' ?_⟩;rw [Around.under_plainId PySem.F.plain_list_iadd _];have hS₁:(s.heap.push { cls:= .type "list",data:= .seq ([]:List Value).toArray }).get? s.heap.objs.size=some { cls:= .type "list",data:= .seq #[] }:=Zo _ rfl;show wpAny _ A.in1 (Builtin.List.listExtendWith (.ref s.heap.objs.size) (.ref a) (.ref s.heap.objs.size)) _ _ _;have key:=wJ (prog:=prog) (w:=w) (A:=A) (s:={ s with heap:=s.heap.push { cls:= .type "list",data:= .seq ([]:List Value).toArray } })
  (R:=λ (q:Result) (s':Shared)=> ∃ (h':Heap) (tk:Nat) (d:Drawn) (acc':Array Value) (c':Nat),q= .ok (.ret (.ref s.heap.objs.size))/\s'={ s with heap:=h',toks:=tk,drawn:=d }/\
   (∀b o,s.heap.get? b=some o->h'.get? b=some o)/\h'.get? s.heap.objs.size=some { cls:= .type "list",dict:=none,data:= .seq acc' c',slots:= #[] }/\acc'.toList.Perm (es.toList.map (·.2)))
  hh (hA.at' λ o e=>Zd _ e) hz hi s.heap.objs.size (Nat.ne_of_gt hd) (.ref s.heap.objs.size) 0 hS₁
  (λ h' tk d acc' c' hk hS' hacc=>⟨h',tk,d,acc',c',rfl,rfl,λ b o e=>hk b o (Yc (Zm e)) (Zd _ e),hS',hacc⟩)
 have fin: ∀ {h':Heap} {tk:Nat} {d:Drawn} {acc':Array Value} {c':Nat},(∀b o,s.heap.get? b=some o->h'.get? b=some o)->h'.get? s.heap.objs.size=some { cls:= .type "list",dict:=none,data:= .seq acc' c',slots:= #[] }->acc'.toList.Perm (es.toList.map (·.2))->R acc'.toList { s with heap:=h',toks:=tk,drawn:=d }:=by
  intro h' tk d acc' c' hk hS' hacc;exact h h' tk d acc'.toList hk (Xh (Zm hS')) hacc
 refine Xe key (λ f s' x=> ?_) λ e s' x=> ?_
 ·cases f with
  | done f=>
   obtain ⟨h',tk,d,acc',c',e,rfl,hk,hS',hacc⟩:=x
   cases e;show wpAny _ A (load s.heap.objs.size >>= _) _ _ _;exact Za (wpAny_load hS' (Zh (fin hk hS' hacc)))
  | again c₁=>
   refine ⟨x.1,codeAny_mono x.2 λ q s₂ y=> ?_⟩;obtain ⟨h',tk,d,acc',c',rfl,rfl,hk,hS',hacc⟩:=y;show wpAny _ A (load s.heap.objs.size >>= _) _ _ _;exact Za (wpAny_load hS' (Zh (fin hk hS' hacc)))
 ·obtain ⟨_,_,_,_,_,e',_⟩:=x
  cases e'
theorem Hn (t:SetTable) (es:Array (Int×Value)) (h:Int) (x:Value):(layNew t es h x).2.1.led=t.led:=by
 unfold layNew;split
 ·dsimp only [SetTable.put,SetTable.orStandIn]
  repeat' split
  all_goals rfl
 ·rfl
theorem Al (t:SetTable) (es:Array (Int×Value)) (n:Nat):(relayAll t es n).2.1.led=t.led/\(t.plain=false->(relayAll t es n).2.1.plain=false):=by
 unfold relayAll;split
 ·rename_i t' order e;have h:t'.led=t.led/\t'.plain=t.plain:=by
   unfold SetTable.relaid SetTable.laid at e
   cases hc:SetTable.layClean (SetTable.sizeAbove n-1) (es.map (·.1)) with
   | none=>rw [hc] at e;cases e
   | some ow=>rw [hc] at e;cases e;exact ⟨rfl,rfl⟩
  dsimp only;split
  ·exact ⟨h.1,λ hp=>by rw [h.2];exact hp⟩
  ·exact ⟨rfl,λ _=>rfl⟩
 ·exact ⟨rfl,λ _=>rfl⟩
def tx:Value->Str
 | .str x _=>x
 | _=>⟨#[]⟩
theorem wK {k:Str} {v:Value}:(PySem.strKind prog w).is k v=true↔ ∃t,v= .str k t:=by
 constructor
 ·intro h
  cases v<;>simp [PySem.strKind,Value.isStrOf] at h;exact ⟨_,by rw [h]⟩
 ·rintro ⟨t,rfl⟩;exact strKind_is prog w k t
structure SetS (prog:Program) (w:World) (h:Heap) (a:Addr) (ls:List Str) (es:Array (Int×Value)) (ep:Nat) (t:SetTable):Prop where
 at_:SetAt h a es ep t
 el:ElemsOf (PySem.strKind prog w) es.toList
 pm:(es.toList.map λ e=>tx e.2).Perm ls
 nd:ls.Nodup
 sz:es.size<4096
 led:w.params.followText "set-order"=false->t.led=true
 pl:1<=es.size->t.plain=false
theorem uR {a:Addr} {h:Heap} {es es':Array (Int×Value)} {ep:Nat} {t t':SetTable} (hS:SetAt h a es ep t) (hf:t'.fits es'.size=true):SetAt (h.update a (Obj.putSet es' t')) a es' (ep+1) t':=by
 obtain ⟨o,ho,hc,hd,_⟩:=hS;have:=Xm (Obj.putSet es' t') ho (by rw [putSet_of es' t' hd];rfl);rw [putSet_of es' t' hd] at this;exact ⟨_,this,hc,rfl,hf⟩
theorem add_str {a:Addr} {ls:List Str} {es:Array (Int×Value)} {ep:Nat} {t:SetTable} {x:Str} {tk:Tok} {Q:Bool->Shared->Prop} (hS:SetS prog w s.heap a ls es ep t) (hr:es.size+1<4096)
  (h: ∀b h' ls' es' ep' t',Heap.SameBut a s.heap h'->SetS prog w h' a ls' es' ep' t'->ls'.length<=ls.length+1->(∀y,y∈ls'↔y∈ls\/y=x)->Q b { s with heap:=h',toks:=s.toks+1 }):wpAny (model prog w) A (setAdd a (.str x tk)) Q E s:=by
 have hkey:(PySem.strKind prog w).is x (.str x tk)=true:=strKind_is prog w x tk;have hb:es.size<scanBound:=hS.sz;obtain ⟨o,ho,hex,hd,hf⟩:=id hS.at_;unfold setAdd;refine Wi (Za ((PySem.strKind prog w).pyHash hkey ?_));unfold setAddHashed setAddHashedIn;refine Wi (Za (wpAny_setState_of ho hd hf ?_));dsimp only;rw [byScan_of rfl hb hS.el];simp only [↓reduceIte];unfold setAddByScan;refine Za ?_;refine Za (wpAny_rule ?_);refine Za (wpAny_setScan_of hkey ho hd hf hS.el ?_)
 cases hq:List.findIdx? (λ e=>(PySem.strKind prog w).is x e.2) es.toList with
 | some j=>
  dsimp only;obtain ⟨hj,hpj,_⟩:=List.findIdx?_eq_some_iff_getElem.mp hq;obtain ⟨t1,e1⟩:=wK.mp hpj;have hm:x∈ls:=hS.pm.mem_iff.mp (Zc.mpr ⟨_,Zl hj,by rw [e1];rfl⟩);exact Zh (Zh (h _ s.heap ls es ep t (Heap.SameBut.refl a s.heap) hS (Nat.le_succ _) λ y=>⟨.inl,λ z=>z.elim id λ e=>e▸hm⟩))
 | none=>
  dsimp only;have hm:x∉ls:=λ hm=>by
   obtain ⟨e,he,e2⟩:=Zc.mp (hS.pm.mem_iff.mpr hm);obtain ⟨⟨k,hk,_⟩,_⟩:=hS.el e he;obtain ⟨t1,e1⟩:=wK.mp hk;rw [e1] at e2;have:(PySem.strKind prog w).is x e.2=false:=by have:=List.findIdx?_eq_none_iff.mp hq e he;simpa using this
   rw [e1,show k=x from e2,strKind_is] at this
   cases this
  have hgw: ∀ (b:Bool) {s₁:Shared} {Q':Unit->Shared->Prop},Q' () s₁->wpAny (model prog w) A (match b with | true=>rule "set.scan.the-table-gave-way" | false=>pure ()) Q' E s₁:=
   λ b s₁ Q' hq=>by cases b<;>first | exact Zh hq | exact wpAny_rule hq
  have hperm:=layNew_perm t es ((PySem.strKind prog w).hash x) (.str x tk);have hfits:=layNew_fits t es ((PySem.strKind prog w).hash x) (.str x tk);have hled:=Hn t es ((PySem.strKind prog w).hash x) (.str x tk);generalize hL:layNew t es ((PySem.strKind prog w).hash x) (.str x tk)=L at hperm hfits hled ⊢;obtain ⟨es1,t1,wasDummy,gave⟩:=L;dsimp only at hperm hfits hled ⊢;rw [Array.toList_push] at hperm;have hel1:ElemsOf (PySem.strKind prog w) es1.toList:=(hS.el.push hkey rfl).perm hperm;have hsz:es1.size=es.size+1:=by rw [<- Yk,hperm.length_eq,Yl,Yk];rfl
  have hpm:(es1.toList.map λ e=>tx e.2).Perm (ls++[x]):=(hperm.map _).trans (by rw [Zq];exact hS.pm.append_right [x]);have hnd:(ls++[x]).Nodup:=Yq.mpr ⟨hS.nd,by simp,λ u hu v hv=>by rw [Ze.mp hv];intro e;rw [e] at hu;exact hm hu⟩;have hmem: ∀y,y∈ls++[x]↔y∈ls\/y=x:=λ y=>by rw [Zv,Ze]
  refine Za (hgw _ ?_);have tail: ∀t2:SetTable,t2.fits es1.size=true->t2.led=t.led->t2.plain=false->wpAny (model prog w) A (do
    storeSet a es1 t2
    if (!wasDummy&&t2.tooFull)=true then do
      (match (relayAll t2 es1 (SetTable.grown es1.size)).2.2 with | true=>rule "set.scan.the-table-gave-way" | false=>pure ())
      storeSet a (relayAll t2 es1 (SetTable.grown es1.size)).1 (relayAll t2 es1 (SetTable.grown es1.size)).2.1
      pure (some true)
     else pure (some true)) (λ r s'=> ∃b,r=some b/\Q b s') E { s with toks:=s.toks+1 }:=by
   intro t2 f2 l2 p2;have S1:=uR (es':=es1) (t':=t2) hS.at_ f2;obtain ⟨o1,ho1,hex1,hd1,_⟩:=id S1;refine Za (wpAny_storeSet_of ho hd ?_ (fits_of_scanBound (by rw [hsz];exact hr)));by_cases hw:(!wasDummy&&t2.tooFull)=true
   ·rw [if_pos hw];have hp2:=relayAll_perm t2 es1 (SetTable.grown es1.size);have hf2:=relayAll_fits t2 es1 (SetTable.grown es1.size);have hl2:=Al t2 es1 (SetTable.grown es1.size);generalize relayAll t2 es1 (SetTable.grown es1.size)=Rl at hp2 hf2 hl2 ⊢;obtain ⟨es2,t3,gave2⟩:=Rl;dsimp only at hp2 hf2 hl2 ⊢;have hz2:es2.size=es1.size:=by rw [<- Yk,hp2.length_eq,Yk]
    refine Za (hgw _ (Za (wpAny_storeSet_of ho1 hd1 ?_ (fits_of_scanBound (by rw [hz2,hsz];exact hr)))));refine Zh ⟨true,rfl,h true _ (ls++[x]) es2 _ t3 ((Xc ..).trans (Xc ..)) ⟨uR S1 hf2,hel1.perm hp2,(hp2.map _).trans hpm,hnd,by rw [hz2,hsz];exact hr,λ hb=>by rw [hl2.1,l2];exact hS.led hb,λ _=>hl2.2 p2⟩ (by rw [Yl];exact Zn _) hmem⟩
   ·rw [if_neg hw];exact Zh ⟨true,rfl,h true _ (ls++[x]) es1 _ t2 (Xc ..) ⟨S1,hel1,hpm,hnd,by rw [hsz];exact hr,λ hb=>by rw [l2];exact hS.led hb,λ _=>p2⟩ (by rw [Yl];exact Zn _) hmem⟩
  split
  ·refine Za ?_;rw [hashByValue_scannable 8 rfl];refine Zh ?_;refine Xe (tail { t1 with plain:=false } (SetTable.fits_plain_off hfits) hled rfl) (λ r s' hr=> ?_) λ _ _ z=>z
   obtain ⟨b,rfl,hr⟩:=hr;exact Zh hr
  ·rename_i hp1;refine Za (Zh ?_);simp only [↓reduceIte];refine Xe (tail t1 hfits hled (by simpa using hp1)) (λ r s' hr=> ?_) λ _ _ z=>z
   obtain ⟨b,rfl,hr⟩:=hr;exact Zh hr
theorem oZ:entryFor table "set.update.loop"=some Builtin.«set.update.loop»:=entryFor_of_tree (by kernel_rfl)
theorem ju:plainId "set.update.loop"=true:=by ac_nf
theorem SetS.at' {h h':Heap} {a:Addr} {ls:List Str} {es:Array (Int×Value)} {ep:Nat} {t:SetTable} (x:SetS prog w h a ls es ep t) (e: ∀o,h.get? a=some o->h'.get? a=some o):SetS prog w h' a ls es ep t:=
 ⟨x.at_.at' e,x.el,x.pm,x.nd,x.sz,x.led,x.pl⟩
theorem Ho {vs:List Value} {ss:List Str} (h:StrsAre vs ss): ∀ {i:Nat} {v:Value},vs[i]? =some v-> ∃x t,v= .str x t/\ss[i]? =some x:=by
 induction h with
 | nil=>intro i v e;cases e
 | cons x t _ ih=>
  intro i v e
  cases i with
  | zero=>cases e;exact ⟨x,t,rfl,rfl⟩
  | succ i=>exact ih e
theorem Dk {a I l:Addr} {items:Array Value} {ss:List Str} {R:Result->Shared->Prop} (hh:A.handled=none) (hIl:l≠I) (hIa:a≠I) (hla:l≠a) (hs:StrsAre items.toList ss) (hz:ss.length<4000):
  ∀ (k i:Nat) (s:Shared) (ls:List Str) (es:Array (Int×Value)) (ep:Nat) (t:SetTable),items.size-i=k->i<=items.size->(s.heap.IsListIter I l i/\s.heap.IsList l items)->SetS prog w s.heap a ls es ep t->(∀y,y∈ls↔y∈ss.take i)->ls.length<=i->
  (∀h' tk ls es ep t,(∀b o,b∉[a,I]->s.heap.get? b=some o->h'.get? b=some o)->SetS prog w h' a ls es ep t->(∀y,y∈ls↔y∈ss)->R (.ok (.ret .none)) { s with heap:=h',toks:=tk })->
  codeAny (model prog w) A (.builtin "set.update.loop" ⟨[.ref a, .ref I],[]⟩) R s:=by
 have hlen:items.size=ss.length:=by have:=Yn List.length hs.strs;rw [Qr,Yk] at this;simpa using this
 have W:=Walks.list (prog:=prog) (w:=w) (A:=A.in1) hh I l hIl items;intro k;induction k with
 | zero=>
  intro i s ls es ep t hk hi st hS hm hl hR;have hin:i=items.size:=by rfl'
  subst hin;refine codeAny_builtin oZ ?_;rw [Around.under_plainId ju _];show wpAny _ A.in1 (pyNext (.ref I) >>= _) _ _ s;refine Za (W.done s _ _ st λ h' tk hk'=> ?_);exact Zh (hR h' tk ls es ep t (λ b o hb e=>hk' b o (λ z=>hb (Zr _ z)) e) (hS.at' λ o e=>hk' a o (by simpa using hIa) e) (by rw [hlen,Yy] at hm;exact hm))
 | succ k ih=>
  intro i s ls es ep t hk hi st hS hm hl hR;have hlt:i<items.size:=by rfl'
  refine codeAny_builtin oZ ?_;rw [Around.under_plainId ju _];show wpAny _ A.in1 (pyNext (.ref I) >>= _) _ _ s;refine Za (W.item i s _ _ hlt st λ v h' tk hv st' hk'=> ?_);obtain ⟨x,tx',rfl,hx⟩:=Ho hs (by rw [Xr];exact hv);have hS':=hS.at' (h':=h') λ o e=>hk' a o (by simpa using hIa) e
  have hes:es.size=ls.length:=by rw [<- hS.pm.length_eq,Qr,Yk]
  refine Za (Wi (add_str (s:={ s with heap:=h',toks:=tk }) hS' (by rw [hes];rfl') λ b h2 ls2 es2 ep2 t2 sb S2 hl2 hm2=> ?_));refine Zh ⟨plainId_quiet ju _,ih (i+1) _ ls2 es2 ep2 t2 (by rfl') hlt ⟨st'.1.at λ o e=>sb.extBut I o (Ne.symm hIa) e,st'.2.at λ o e=>sb.extBut l o hla e⟩ S2 (λ y=> ?_) (by rfl') λ h3 tk3 ls3 es3 ep3 t3 hk3 S3 hm3=> ?_⟩
  ·rw [hm2,hm,Yj,hx,Zv];simp
  ·refine hR h3 tk3 ls3 es3 ep3 t3 (λ b o hb e=>hk3 b o hb (sb.extBut b o (λ z=>hb (by simp [z])) (hk' b o (λ z=>hb (Zr _ z)) e))) S3 hm3
theorem Hq {a:Addr} {led:Bool} {h:Heap} (hl:w.params.followText "set-order"=false->led=true) (x:h.get? a=some { cls:= .type "set",dict:=none,data:= .set #[] 0 (.fresh 0 0 led) }):SetS prog w h a [] #[] 0 (.fresh 0 0 led):=
 ⟨⟨_,x,⟨rfl,rfl,rfl⟩,rfl,rfl⟩,λ e he=>by simp at he,List.Perm.refl _,List.nodup_nil,by decide,hl,λ h=>absurd h (by decide)⟩
theorem Am {v:Value} {Q₁:Value->Shared->Prop}
  (h:Q₁ (.ref s.heap.objs.size) { s with heap:=s.heap.push { cls:= .type "set",dict:=none,data:= .set #[] 0 (.fresh 0 0 (!w.params.followText "set-order")) } }):
  codeAny (model prog w) A (.call (.builtin "set.__new__") ⟨[.type "set",v],[]⟩) (wants Q₁ E) s:=by
 refine codeAny_of_tree ?_;show wpAny _ A.in1 (do checkBuiltinCall "set.__new__" ⟨[.type "set",v],[]⟩;again (.builtin "set.__new__" ⟨[.type "set",v],[]⟩)) _ _ s;refine Za (wpAny_of_eq (Rf v) (Zh ⟨plainId_quiet PySem.F.plain_set_new _,codeAny_builtin PySem.F.entry_set_new ?_⟩));rw [Around.under_plainId PySem.F.plain_set_new _];unfold Builtin.«set.__new__» Builtin.Frozenset.newClass;have hsub:=sub_set_self;obtain ⟨hp,g,d,tk,os⟩:=s;dsimp only
 wp_walk
 refine wpAny_askSetting (Zh ?_);dsimp only;simp only [newObj];refine Za (wpAny_alloc (Zh ?_));exact Zh h
theorem uT {M:Model} {self v:Value} {Q:Unit->Shared->Prop} (hT:s.TypeIs self "set") (hQ:Q () s):
  wpAny M A (checkBuiltinCall "set.__init__" ⟨[self,v],[]⟩) Q E s:=by
 simp only [checkBuiltinCall,kind_set_init,split_set_init,sig_set_init];refine Za (wpAny_isInstance hT sub_set_self ?_);simp only [Bool.not_true,Ym,if_false];unfold Bind.checkArgs;dsimp only;refine Za (m:=Bind.printed "set" true _ _) (PyProof.Rows.printed_name (by decide) ?_);refine Za (m:=Bind.printed "*" false _ _) (PyProof.Rows.printed_star (self:=self) rfl hT λ short=> ?_);have hrn:(Manifest.Receiver.self==Manifest.Receiver.none)=false:=by decide
 have hn:(if (Manifest.Receiver.self==Manifest.Receiver.none)=true then [self,v].length else [self,v].length-1)=1:=by simp [hrn]
 rw [hn];simp only [List.map_nil];have hc:Bind.check ⟨.positional,"set","*", .self,[⟨"iterable", .posOnly,false⟩]⟩ "set" short 1 []=pure ():=by
  simp [Bind.check,Bind.checkCount,Bind.isPositional];exact λ h=>absurd h (by decide)
 rw [hc];exact Zh hQ
theorem Ox {a l:Addr} {items:Array Value} {ss:List Str} {led:Bool} {Q:Shared->Prop} (hh:A.handled=none) (hS:SetS prog w s.heap a [] #[] 0 (.fresh 0 0 led)) (hl:s.heap.IsList l items) (hla:l≠a) (hs:StrsAre items.toList ss) (hz:ss.length<4000)
  (h: ∀h' tk ls es ep t,(∀b o,b≠a->s.heap.get? b=some o->h'.get? b=some o)->SetS prog w h' a ls es ep t->(∀y,y∈ls↔y∈ss)->Q { s with heap:=h',toks:=tk }):
  wpAny (model prog w) A (Builtin.«set.__init__» ⟨[.ref a, .ref l],[]⟩) (λ fin s'=>fin= .done (.ret .none)/\Q s') E s:=by
 have hT:=hS.at_.typeIs;obtain ⟨o,ho,hc,hd,hf⟩:=id hS.at_;have hTl:s.TypeIs (.ref l) "list":=hl.typeIs;unfold Builtin.«set.__init__» noKeywords;have e1:isSubtype (.type "list") (.type "set")=pure false:=by rw [isSubtype_type];kernel_rfl
 have e2:isSubtype (.type "list") (.type "frozenset")=pure false:=by rw [isSubtype_type];kernel_rfl
 wp_walk
 rw [hd];refine Zh (Zh ?_);show wpAny _ _ (Builtin.Frozenset.updateFrom "set.__init__" a (.ref l) >>= λ _=>ret .none) _ _ s;refine Za ?_;unfold Builtin.Frozenset.updateFrom Builtin.Frozenset.isAnySet;refine Za (Za (wpAny_isInstance (b:=false) hTl e1 ?_));show wpAny _ _ (isInstance (.ref l) (.type "frozenset")) _ _ _;refine wpAny_isInstance (b:=false) hTl e2 ?_;simp only [Ym,↓reduceIte];refine Za (wpAny_typeOf hTl ?_);rw [if_neg (by decide)];refine Za (wpAny_pyIter_list hl ?_);have hll:l<s.heap.objs.size:=let ⟨_,x,_⟩:=hl;Zm x;have hal:a<s.heap.objs.size:=Zm ho;refine Za (wpAny_runValue (Dk hh (Yc hll) (Yc hal) hla hs hz items.size 0 _ [] #[] 0 _ (Nat.sub_zero _) (Yu _) ⟨⟨_,Zo _ rfl,rfl,rfl⟩,hl.at λ o e=>Zd _ e⟩ (hS.at' λ o e=>Zd _ e) (by simp) (Yu _) λ h' tk ls es ep t hk S2 hm=> ?_));exact Zh (Zh ⟨rfl,h h' tk ls es ep t (λ b o hb e=>hk b o (by simp;exact ⟨hb,Yc (Zm e)⟩) (Zd _ e)) S2 hm⟩)
theorem An {l:Addr} {items:Array Value} {ss:List Str} {Q:Value->Shared->Prop} (hh:A.handled=none) (hl:s.heap.IsList l items) (hs:StrsAre items.toList ss) (hz:ss.length<4000)
  (h: ∀h' tk ls es ep t,(∀b o,s.heap.get? b=some o->h'.get? b=some o)->s.heap.objs.size<h'.objs.size->SetS prog w h' s.heap.objs.size ls es ep t->(∀y,y∈ls↔y∈ss)->Q (.ref s.heap.objs.size) { s with heap:=h',toks:=tk }):
  wpAny (model prog w) A (call (.type "set") [.ref l]) Q E s:=by
 obtain ⟨c,tl,hmro⟩:=PySem.F.called_set.mro;have hmade:=PySem.F.called_set.made;have hsub:=PySem.F.called_set.sub;refine wpAny_call (codeAny_of_tree ?_);show wpAny _ _ (callAny (.type "set") _) _ _ _;refine Zh ⟨Code.quiet_builtin _ (by ac_nf),codeAny_builtin PySem.F.entry_type_call ?_⟩;rw [Around.under_plain (weight_type_call_type "set" [.ref l] []) rfl];have h1:=PySem.F.called_set.notType;have h2:=PySem.F.called_set.canCreate;have hct:=Ov (.ref l);repeat (any_goals (first | assumption | wp_step))
 refine codeAny_mono (Am (E:=E) (Q₁:=λ obj s₁=>obj= .ref s.heap.objs.size/\s₁={ s with heap:=s.heap.push { cls:= .type "set",dict:=none,data:= .set #[] 0 (.fresh 0 0 (!w.params.followText "set-order")) } }) ⟨rfl,rfl⟩) λ r s₁ hr=> ?_
 cases r with
 | error e=>exact hr
 | ok fl =>
  cases fl with
  | ret obj=>
   obtain ⟨rfl,rfl⟩:=hr;have hS:(s.heap.push { cls:= .type "set",dict:=none,data:= .set #[] 0 (.fresh 0 0 (!w.params.followText "set-order")) }).get? s.heap.objs.size=some { cls:= .type "set",dict:=none,data:= .set #[] 0 (.fresh 0 0 (!w.params.followText "set-order")) }:=Zo _ rfl;have hT:Shared.TypeIs { s with heap:=s.heap.push { cls:= .type "set",dict:=none,data:= .set #[] 0 (.fresh 0 0 (!w.params.followText "set-order")) } } (.ref s.heap.objs.size) "set":=⟨_,hS,rfl⟩;have hli:=PySem.F.called_set.init.lookup;have hbi:=PySem.F.called_set.init.bind (.ref s.heap.objs.size);repeat (any_goals (first | assumption | wp_step))
   have hll:l<s.heap.objs.size:=let ⟨_,x,_⟩:=hl;Zm x;refine codeAny_mono (codeAny_call_builtin (R:=wants (λ r s₂=>r= .none/\Q (.ref s.heap.objs.size) s₂) E) PySem.F.called_set.init.plain PySem.F.entry_set_init (uT hT ?_)) λ r₂ s₂ hr₂=> ?_
   ·refine Xe (Ox (E:=λ e s'=>wants (λ r s₂=>r= .none/\Q (.ref s.heap.objs.size) s₂) E (.error e) s') (Q:=λ s₂=>Q (.ref s.heap.objs.size) s₂) hh (Hq (prog:=prog) (w:=w) (λ hb=>by rw [hb];rfl) hS) (hl.at λ o e=>Zd _ e) (Yc hll) hs hz λ h' tk ls es ep t hk S2 hm=> ?_) (λ fin s' z=> ?_) λ _ _ z=>z
    ·obtain ⟨_,x,_⟩:=id S2.at_;exact h h' tk ls es ep t (λ b o e=>hk b o (Yc (Zm e)) (Zd _ e)) (Zm x) S2 hm
    ·obtain ⟨rfl,z⟩:=z;exact ⟨rfl,z⟩
   ·cases r₂ with
    | error e=>exact hr₂
    | ok fl₂=>
     cases fl₂ with
     | ret r=>
      obtain ⟨rfl,hq⟩:=hr₂;repeat (any_goals (first | assumption | wp_step))
     | _=>exact hr₂.elim
  | _=>exact hr.elim
end
end St
namespace L2
open PySem PySem.Spec PyProof.Rows
def jO (K:W.Frag):List V->Hp->VK->Prop:=λ xs H Q=> ∃ (a:Addr) (ss:List Str),xs=[.ref a]/\SqL K H a (ss.map V.str)/\ss.length<64/\ ∀r (ns:List Str),ns.Nodup->(∀y,y∈ns↔y∈ss)->ns.Pairwise gY->H r=none->Q (.ref r) (upd H r (.lst (ns.map V.str)))
theorem qG {α:Type} [DecidableEq α]: ∀ {l m:List α},l.Nodup->(∀x∈l,x∈m)->l.length<=m.length
 | [],_,_,_=>Yu _
 | x::l,m,hn,h=>by
  have hx:=h x Zy;have:=qG (l:=l) (m:=m.erase x) (Xv.mp hn).2 λ y hy=>(List.mem_erase_of_ne (λ (e:y=x)=>(Xv.mp hn).1 (by rw [<- e];exact hy))).mpr (h y (Zr _ hy))
  rw [List.length_erase_of_mem hx] at this;have:=Wr hx;rw [Xx];rfl'
theorem yP: ∀ {vs:List Value},(∀v∈vs,∃x t,v= .str x t)->StrsAre vs (vs.map St.tx)
 | [],_=> .nil
 | v::r,h=>by
  obtain ⟨x,t,rfl⟩:=h v Zy;exact .cons x t (yP λ u hu=>h u (Zr _ hu))
theorem Inv.drew {X:Cx} {pins:List (Addr×Obj)} {σ:List (Option V)} {H:Hp} {s:Shared} (I:Inv X pins σ H s) (d:Drawn):Inv X pins σ H { s with drawn:=d }:=
 ⟨I.ok,I.os,I.bare,I.base,I.loc,I.cell,I.free,I.freeC,I.pin,I.hok,I.len⟩
theorem wL {X:Cx} {e:Expr} {t:TA} {p p2 pos pos2:Pos} (hcalm:X.calm=true) (hg:Gl X "sorted") (hm:X.mg "sorted"=none) (hg2:Gl X "set") (hm2:X.mg "set"=none) (ha:PA X [e] t)
  (he:starEach [.Call (.Name "set" p2) [e] [] pos2] X.env=(false,eval (.Call (.Name "set" p2) [e] [] pos2) X.env)::starEach [] X.env:=by rfl)
  (htr:backTo pos (starEach [.Call (.Name "set" p2) [e] [] pos2] X.env)=[(false,eval (.Call (.Name "set" p2) [e] [] pos2) X.env)]:=by rfl)
  (he2:starEach [e] X.env=(false,eval e X.env)::starEach [] X.env:=by rfl) (hpl2:(backTo pos2 (starEach [] X.env)).any (·.1)=false:=by rfl):
  PE X (.Call (.Name "sorted" p) [.Call (.Name "set" p2) [e] [] pos2] [] pos) (d7 (jO X.K) t):=by
 intro pins s σ H Q I h;refine wpAny_Call_Name_kw (fL I hg hm (by ac_nf:bootBuiltins "sorted"=some (.builtin "sorted")) ?_ (by decide) (by decide));refine PyProof.Rows.callWith_builtin1 ?_ he rfl;rw [htr];refine Calls.spliced_cons ?_;refine wpAny_Call_Name_kw (fL I hg2 hm2 (by ac_nf:bootBuiltins "set"=some (.type "set")) ?_ (by decide) (by decide));refine Wj (bL (ha pos2 pins s σ H _ I h) λ us s1 ⟨vs,H1,I1,r1,q1⟩=> ?_) he2 hpl2;obtain ⟨a,ss,rfl,hx,h64,q⟩:=q1;obtain ⟨u,rfl,ru⟩:=r1.one
 cases (show u=Value.ref a from ru);obtain ⟨its,r,ht,hz⟩:=I1.list hx;have hi:=jq r;refine St.An (I1.ok.hd hcalm) ht.isList (by exact hi) (by rfl') λ h' tk ls es ep t' hk hsz S2 hm=> ?_
 refine Calls.spliced_nil ?_;have hes:es.size=ls.length:=by rw [<- S2.pm.length_eq,Qr,Yk]
 have hll:ls.length<=ss.length:=qG S2.nd λ y hy=>(hm y).mp hy
 refine iu (C:=λ vs s3=> ∃h2 tk2 d ns,s3={ s1 with heap:=h2,toks:=tk2,drawn:=d }/\(∀b o,s1.heap.get? b=some o->h2.get? b=some o)/\s1.heap.objs.size<=h2.objs.size/\StrsAre vs ns/\ns.Perm ls)
  (Z:=λ vs _ out=> ∃ns,StrsAre out.toList ns/\ns.Perm ls/\sortedS ns=true) (λ E' R hR=> ?_) λ vs s3 hC=> ?_
 ·refine St.uQ (A:=X.A.in1) (I1.ok.hd hcalm) S2.at_ (by rw [hes,Xp];rfl') (λ hh hS h=>St.Di hh hS (by rw [hes,Xp];rfl') S2.led S2.pl h) λ h2 tk2 d vs hk2 hsz2 hp=>hR _ _ ⟨h2,tk2,d,vs.map St.tx,rfl,λ b o e=>hk2 b o (hk b o e),Zw (Xh hsz) hsz2,yP λ v hv=> ?_,?_⟩
  ·obtain ⟨e,me,rfl⟩:=Zc.mp (hp.mem_iff.mp hv);obtain ⟨⟨k,hk,_⟩,_⟩:=S2.el e me;obtain ⟨t1,e1⟩:=St.wK.mp hk;exact ⟨k,t1,e1⟩
  ·refine (hp.map _).trans ?_;rw [Zk];exact S2.pm
 ·obtain ⟨h2,tk2,d,ns,rfl,hk2,hsz2,hS,hpn⟩:=hC;have hvl:vs.length=ls.length:=by have:=Yn List.length hS.strs;rw [Qr] at this;rw [<- hpn.length_eq];exact this
  refine ⟨by rfl',λ A' E' P hP=> ?_,λ out hout=> ?_⟩
  ·refine list_sort_treeK strKind_oneLt (Zo _ rfl) hS.keysOf (λ v₁ v₂ rest e=>keyKind_strs (by rw [<- e];exact hS)) (by rfl') λ st' hp hs=> ?_
   obtain ⟨ss',h1,h2,h3⟩:=sorted_out_str hS hp hs;exact hP _ ⟨ss',h1,h2.trans hpn,h3⟩
  ·obtain ⟨ns',h1,h2',h3⟩:=hout;obtain ⟨ee,he⟩:=yK h2 vs out;have hr:H1 h2.objs.size=none:=I1.hok.fresh hsz2;have hnd:ns'.Nodup:=h2'.nodup_iff.mpr S2.nd;refine ⟨.ref _,_,(I1.drew d).laid (t':=tk2) (a:=h2.objs.size) (o:= .lst (ns'.map V.str)) (λ b o hb=>oM (hk2 b o hb)) hsz2 (show ObjOk X.prog X.w _ _ _ (.lst _) from ⟨?_,out.toList,ee,lg h1,?_⟩),rfl,q _ ns' hnd (λ y=>h2'.mem_iff.trans (hm y)) (ji h3 hnd) hr⟩
   ·rw [Qr,h2'.length_eq,Xp];rfl'
   ·rw [he]
theorem uU {X:Cx} {e:Expr} {t:TA} {p p2 pos pos2:Pos} (K:W.Frag) (hK:X.K=K) (hcalm:X.calm=true) (hg:Gl X "sorted") (hm:X.mg "sorted"=none) (hg2:Gl X "set") (hm2:X.mg "set"=none) (ha:PA X [e] t)
  (he:starEach [.Call (.Name "set" p2) [e] [] pos2] X.env=(false,eval (.Call (.Name "set" p2) [e] [] pos2) X.env)::starEach [] X.env:=by rfl)
  (htr:backTo pos (starEach [.Call (.Name "set" p2) [e] [] pos2] X.env)=[(false,eval (.Call (.Name "set" p2) [e] [] pos2) X.env)]:=by rfl)
  (he2:starEach [e] X.env=(false,eval e X.env)::starEach [] X.env:=by rfl) (hpl2:(backTo pos2 (starEach [] X.env)).any (·.1)=false:=by rfl):
  PE X (.Call (.Name "sorted" p) [.Call (.Name "set" p2) [e] [] pos2] [] pos) (d7 (jO K) t):=hK▸wL hcalm hg hm hg2 hm2 ha he htr he2 hpl2
def Dm:List V->Hp->VK->Prop:=λ xs H Q=> ∃ (a:Addr) (kvs:List (Key×V)),xs=[.ref a]/\Rd H a (.dK kvs)/\Q (.int kvs.length) H
theorem Ao {X:Cx}:cX X (.builtin "len") Dm:=by
 intro pins s σ H xs us Q I rv h;obtain ⟨a,kvs,rfl,ea,q⟩:=h;obtain ⟨u,rfl,ru⟩:=rv.one
 cases (show u=Value.ref a from ru);obtain ⟨hz,hsys,ws,kv,hD⟩:=jd I.hok ea;refine call_len_dict hsys hD (by rw [<- kv.length];rw [Xp] at hz;rfl') ?_;rw [<- kv.length];exact ⟨.int kvs.length,H,I.tok _,⟨_,rfl⟩,q⟩
end L2
end
section
namespace L2
open PySem PySem.Spec PyProof.Rows
def Hr (K:W.Frag):List V->Hp->VK->Prop:=λ xs H Q=> ∃ (a:Addr) (bs:List Bool),xs=[.ref a]/\SqL K H a (bs.map V.bl)/\Q (.bl (bs.any id)) H
theorem Do {X:Cx} (hc:X.calm=true):cX X (.builtin "any") (Hr X.K):=by
 intro pins s σ H xs us Q I rv h;obtain ⟨a,bs,rfl,hx,q⟩:=h;obtain ⟨u,rfl,ru⟩:=rv.one
 cases (show u=Value.ref a from ru);obtain ⟨its,r,ht,hz⟩:=I.list hx;have hlt:a<s.heap.objs.size:=by obtain ⟨o,ho,_⟩:=ht.isList;exact Zm ho
 have hit:its=bs.map Value.bool:=by
  clear q hx ht hz;induction bs generalizing its with
  | nil=>cases r;rfl
  | cons b bs ih=>
   cases r with
   | cons h t=>rw [ih _ t,Zz];congr 1
 have hb: ∀i v,its.toArray[i]? =some v->v=Value.bool ((bs[i]?).getD false):=λ i v hv=>by
  rw [hit,List.getElem?_toArray,Zg] at hv;obtain ⟨b,e1,e2⟩:=Yd.mp hv;rw [e1,<- e2];rfl
 refine call_any_walk (wpAny_pyIter_list ht.isList ?_);refine ⟨_,_,_,_,_,_,λ i=>(bs[i]?).getD false,rfl,Walks.list (A:=X.A.in1) (I.ok.hd hc) s.heap.objs.size a (Yc hlt) its.toArray,⟨⟨_,Zo _ rfl,rfl,rfl⟩,ht.isList.push _⟩,λ i v s Q E hP hQ=>by rw [hb i v hP];exact Wv hQ,λ h' tk hk=> ?_⟩;have e:(List.range its.toArray.size).any (λ i=>(bs[i]?).getD false)=bs.any id:=by
  rw [hit,Yf,Qr];rw [Bool.eq_iff_iff,List.any_eq_true,List.any_eq_true];constructor
  ·rintro ⟨i,mi,e⟩;have hi:=Xn.mp mi;rw [Qb hi] at e;exact ⟨_,Zl hi,e⟩
  ·rintro ⟨b,mb,e⟩;obtain ⟨i,hi,rfl⟩:=Zu.mp mb;refine ⟨i,Xn.mpr hi,?_⟩;rw [Qb hi];exact e
 rw [e];exact ⟨.bl _,H,I.kept (t':=tk) λ b o hb=>hk b o (λ m=>by rw [Ze.mp m] at hb;exact absurd (Zm hb) (Wd _)) (Zd _ hb),rfl,q⟩
theorem Aq {X:Cx} (K:W.Frag) (hK:X.K=K) (hc:X.calm=true):cX X (.builtin "any") (Hr K):=hK▸Do hc
def sy:List V->Hp->VK->Prop:=λ xs H Q=> ∃ (a:Addr) (kvs:List (List Key×V)),xs=[.ref a]/\H a=some (.dT kvs)/\kvs.length<=1000000/\ ∀r (zs:List (Addr×List Key)),H r=none->zs.map (·.2)=kvs.map (·.1)->(∀z∈zs,H z.1=some (.tup (z.2.map kV)))->Q (.ref r) (upd H r (.lst (zs.map λ z=>V.ref z.1)))
theorem Ht {H:Hp}: ∀ {l:List (List Key×V)} {m:List (List Key×Addr×Value)},KT H l m-> ∃zs:List (Addr×List Key),zs.map (·.2)=l.map (·.1)/\(∀z∈zs,H z.1=some (.tup (z.2.map kV)))/\zs.map (·.1)=m.map λ x=>x.2.1:=by
 intro l m q;induction q with
 | nil=>exact ⟨[],rfl,λ z h=>absurd h Yi,rfl⟩
 | @cons p q ps qs hq t ih=>
  obtain ⟨zs,h1,h2,h3⟩:=ih;refine ⟨(q.2.1,p.1)::zs,by rw [Zz,Zz,h1],λ z mz=> ?_,by rw [Zz,Zz,h3]⟩;rcases Zp.mp mz with rfl | mz
  ·exact hq.2.1
  ·exact h2 z mz
theorem uV {X:Cx} (hcalm:X.calm=true):cX X (.type "list") sy:=by
 intro pins s σ H xs us Q I rv h;obtain ⟨a,kvs,rfl,e,hn,q⟩:=h;obtain ⟨u,rfl,ru⟩:=rv.one
 cases (show u=Value.ref a from ru);obtain ⟨hz,hsys,ws,kv,o,es,ep,h1,h2,h3,h4,_⟩:=yu I.hok e;obtain ⟨zs,z1,z2,z3⟩:=Ht kv;have hlz:zs.length=kvs.length:=by have:=Yn List.length z1;rwa [Qr,Qr] at this
 have hlw:ws.length=kvs.length:=by have:=Yn List.length z3;rw [Qr,Qr] at this;rfl'
 have hes:es.size=kvs.length:=by rw [<- Yk,h4,Qr,hlw]
 refine PySem.W.kdl_call (Hi (prog:=X.prog) (w:=X.w) hsys h2 h3) (I.ok.hd hcalm) h1 (by rw [hes,Xp];rfl') λ h' tk acc c hk hS hacc=> ?_
 have ea:acc.toList=zs.map λ z=>Value.ref z.1:=by
  apply List.ext_getElem?;intro j;rw [Xr];by_cases cj:j<es.size
  ·have ca:j<acc.size:=by rw [hacc.1];exact cj
   obtain ⟨e,e1,e2⟩:=hacc.2 j acc[j] (Yt ca);rw [Yt ca,e2];have e3:es.toList[j]? =some e:=by rw [Xr];exact e1
   rw [h4,Zg] at e3;obtain ⟨x,ex,rfl⟩:=Yd.mp e3;have e4:(zs.map (·.1))[j]? =some x.2.1:=by rw [z3,Zg,ex];rfl
   rw [Zg] at e4 ⊢;obtain ⟨z,ez,e5⟩:=Yd.mp e4;rw [ez];show some (Value.ref x.2.1)=some (Value.ref z.1);rw [e5]
  ·rw [Wq (by rw [hacc.1];rfl'),Yb (by rw [Qr,hlz];rfl')]
 exact ⟨.ref s.heap.objs.size,_,I.laid (t':=tk) (o:= .lst (zs.map λ z=>V.ref z.1)) hk (Zn _) ⟨by rw [Qr,hlz,Xp];rfl',acc.toList,c,by rw [ea];exact j8 (g:=λ z=>z.1) zs,by simpa using hS⟩,rfl,q _ zs (I.hok.fresh (Zn _)) z1 z2⟩
def Dq:List V->Hp->VK->Prop:=λ xs H Q=> ∃ (a:Addr) (kvs:List (List Key×V)),xs=[.ref a]/\H a=some (.dT kvs)/\Q (.int kvs.length) H
theorem Ar {X:Cx}:cX X (.builtin "len") Dq:=by
 intro pins s σ H xs us Q I rv h;obtain ⟨a,kvs,rfl,ea,q⟩:=h;obtain ⟨u,rfl,ru⟩:=rv.one
 cases (show u=Value.ref a from ru);obtain ⟨z,lo,xs,rel,o,es,ep,h1,h2,h3,h4,_⟩:=yu I.hok ea;have hes:es.size=kvs.length:=by rw [<- Yk,h4,Qr,Paired.length rel]
 refine Nk.Hj lo h2 h1 h3 (by rw [hes];rw [Xp] at z;rfl') λ t tk=> ?_
 rw [hes];exact ⟨.int kvs.length,H,I.tok _,⟨t,rfl⟩,q⟩
end L2
end
section
namespace Tb
open PySem
def g5:Nat->Nat
 | 0=>0
 | n+1=>5*g5 n+1
def f5 (M:Nat):Nat->Nat->Nat
 | 0,x=>x%M
 | n+1,x=>(5*f5 M n x+1)%M
def Tf (xs:Array Nat):Prop:= ∀i k,i<k->k<xs.size->xs.getD i 0<xs.getD k 0
def lp (mask:Nat) (h:Int):Nat->Nat×Nat
 | 0=>(SetTable.bits h%(mask+1),SetTable.bits h)
 | n+1=>SetTable.leap mask (lp mask h n).1 (lp mask h n).2
def rn (mask:Nat) (h:Int) (n:Nat):Nat:=SetTable.runEnd mask (lp mask h n).1-(lp mask h n).1
def po (mask:Nat) (h:Int) (n r:Nat):Nat:=(lp mask h n).1+r
def pr (mask:Nat) (h:Int) (n r:Nat):SetTable.Probe:={ j:=po mask h n r,more:=rn mask h n-r,i:=(lp mask h n).1,perturb:=(lp mask h n).2,dummy:=none }
def Ss (t:SetTable) (j:Nat):Prop:= ∃i:Nat,t.place[i]? =some j
def Oz (n r n' r':Nat):Prop:=n<n'\/(n=n'/\r<r')
def Pass (t:SetTable) (ha:Nat->Int) (h:Int) (n0 r0 n r:Nat):Prop:= ∀n' r',r'<=rn t.mask h n'-> ¬Oz n' r' n0 r0->Oz n' r' n r-> ∃i:Nat,t.place[i]? =some (po t.mask h n' r')/\ha i≠h
inductive Meets (t:SetTable) (ha:Nat->Int) (h:Int) (n0 r0:Nat):SetTable.Met->Prop
 | empty {n r:Nat} (hr:r<=rn t.mask h n) (ps:Pass t ha h n0 r0 n r) (no: ¬Ss t (po t.mask h n r)):Meets t ha h n0 r0 (.empty (po t.mask h n r) none)
 | cand {n r i:Nat} (hr:r<=rn t.mask h n) (ge: ¬Oz n r n0 r0) (ps:Pass t ha h n0 r0 n r) (hi:t.place[i]? =some (po t.mask h n r)) (he:ha i=h):Meets t ha h n0 r0 (.candidate (po t.mask h n r) i (t.advance (pr t.mask h n r)))
section
variable {β:Type}
structure Ok (t:SetTable) (es:Array (Int×β)):Prop where
 pw: ∃k,t.mask+1=2^k
 dm:t.dummies= #[]
 as:Tf t.place
 le: ∀i j:Nat,t.place[i]? =some j->j<=t.mask
 sz:t.place.size=es.size
 rm:es.size<=t.mask
 pt: ∀ (i j:Nat) e,t.place[i]? =some j->es[i]? =some e-> ∃n r,r<=rn t.mask e.1 n/\po t.mask e.1 n r=j/\ ∀n' r',r'<=rn t.mask e.1 n'->Oz n' r' n r->Ss t (po t.mask e.1 n' r')
end
def stp (mask:Nat) (acc:Option (Array (Option Nat)×Nat)) (h:Int):Option (Array (Option Nat)×Nat):=do
 let (owner,k) <- acc
 let j <- SetTable.layClean.free mask owner (SetTable.turns mask) (SetTable.bits h%(mask+1)) (SetTable.bits h)
 pure (owner.setIfInBounds j (some k),k+1)
structure Lay (mask:Nat) (hs:List Int) (owner:Array (Option Nat)):Prop where
 size:owner.size=mask+1
 val: ∀j k:Nat,owner[j]? =some (some k)->k<hs.length
 uq: ∀j j' k:Nat,owner[j]? =some (some k)->owner[j']? =some (some k)->j=j'
 ex: ∀ (k:Nat) h,hs[k]? =some h-> ∃n r,r<=rn mask h n/\owner[po mask h n r]? =some (some k)/\ ∀n' r',r'<=rn mask h n'->Oz n' r' n r-> ∃k',owner[po mask h n' r']? =some (some k')
end Tb
end
section
namespace Ts
open PySem PySem.Spec PyProof.Rows
section
variable {prog:Program} {w:World} {A:Around} {E:Value->Shared->Prop} {s:Shared} {K:Type} [DecidableEq K] {knd:HeapKind prog w K}
structure SetK (knd:HeapKind prog w K) (h:Heap) (a:Addr) (ks:List (K×Addr)) (es:Array (Int×Value)) (ep:Nat) (t:SetTable):Prop where
 at_:St.SetAt h a es ep t
 ok:Tb.Ok t es
 lo:es.size*5<t.mask*3
 ms:t.mask=7\/t.mask=31\/t.mask=127\/t.mask=511\/t.mask=2047\/t.mask=8191
 ee:es.toList=ks.map λ p=>(knd.hash p.1,Value.ref p.2)
 is: ∀p∈ks,knd.is h p.1 p.2
 nd:(ks.map (·.1)).Nodup
 led:w.params.followText "set-order"=false->t.led=true
structure Calm (knd:HeapKind prog w K):Prop where
 cs: ∀ {A:Around} {E:Value->Shared->Prop} {s:Shared} {k:K} {a:Addr} {Q:Bool->Shared->Prop},knd.is s.heap k a->Q false s->wpAny (model prog w) A (ofAClassStatement 8 (.ref a)) Q E s
 hv: ∀ {A:Around} {E:Value->Shared->Prop} {s:Shared} {k:K} {a:Addr} {Q:Bool->Shared->Prop},knd.is s.heap k a->(∀b,Q b s)->wpAny (model prog w) A (hashByValue 8 (.ref a)) Q E s
 kp: ∀ {h h':Heap} {k:K} {a d:Addr} {o:Obj},knd.is h k a->h.get? d=some o->o.cls≠ .type "tuple"->(∀c o',c≠d->h.get? c=some o'->h'.get? c=some o')->knd.is h' k a
 ke: ∀ {h h':Heap} {k:K} {a:Addr},knd.is h k a->(∀c o',h.get? c=some o'->h'.get? c=some o')->knd.is h' k a
end
end Ts
end
section
namespace Ck
open PySem PySem.Spec PyProof.Rows Nk
abbrev OD:=Int×De
section
variable {prog:Program} {w:World} {A:Around} {E:Value->Shared->Prop} {s:Shared}
def Tg (prog:Program) (w:World) (h:Heap) (k:OD) (a:Addr):Prop:= ∃o n v1 b,h.get? a=some o/\o.cls= .type "tuple"/\o.data= .seq #[v1, .ref b] n/\(intKind prog w).is k.1 v1=true/\R9 prog w h k.2 b
def OJ (k:OD):Int:=reduceHash (Builtin.Tuple.tupleHashOf [hashInt k.1,Iw k.2])
end
end Ck
end
section
namespace L2
open PySem PySem.Spec PyProof.Rows Sx Nk Ck
abbrev yQ:=Int×Int×Int×List Int
def Su (H:Hp) (b:Addr) (k:yQ):Prop:= ∃c,H b=some (.tup [.int k.1, .ref c])/\Ot H c k.2
end L2
end
section
namespace L2
open PySem PySem.Spec PyProof.Rows Sx Nk Ck
def Rg (x:yQ×Addr×Value):DictEntry:=⟨OJ x.1, .ref x.2.1,x.2.2⟩
def Th (a:Addr) (kvs:List (Addr×yQ×V)) (h:Heap):Prop:=kvs.length<=sizeLine/\(a==sysModules)=false/\ ∃xs:List (yQ×Addr×Value),Paired (λ (p:Addr×yQ×V) (q:yQ×Addr×Value)=>p.2.1=q.1/\p.1=q.2.1/\RelV p.2.2 q.2.2) kvs xs/\
 ∃o es ep,h.get? a=some o/\o.ExactDict/\o.data= .dict es ep/\es.toList=xs.map Rg/\(xs.map (·.1)).Nodup
abbrev Rh (a:Addr) (kvs:List (Addr×yQ×V)):HO:= .ext (Th a kvs)
def Ri (kvs:List (Addr×yQ×V)) (k:yQ):Option V:=(kvs.find? λ p=>decide (p.2.1=k)).map (·.2.2)
def Rj (kvs:List (Addr×yQ×V)) (b:Addr) (k:yQ) (v:V):List (Addr×yQ×V):=if (Ri kvs k).isSome then kvs.map λ p=>if p.2.1=k then (p.1,p.2.1,v) else p else kvs++[(b,k,v)]
def Rk (H:Hp) (a:Addr) (y v:V) (H':Hp):Prop:= ∃kvs k b,H a=some (Rh a kvs)/\(∀p∈kvs,Su H p.1 p.2.1)/\y= .ref b/\Su H b k/\kvs.length<sizeLine/\H'=upd H a (Rh a (Rj kvs b k v))
section
variable {P:Program} {w:World} {H:Hp} {h:Heap} {a b:Addr}
abbrev KC:List (Addr×yQ×V)->List (yQ×Addr×Value)->Prop:=Paired λ p q=>p.2.1=q.1/\p.1=q.2.1/\RelV p.2.2 q.2.2
end
def Sv:TE:=λ _ H Q=> ∀p,H p=none->Q (.ref p) (upd H p (Rh p []))
def Sw (td ty tv:TE):TS:=λ D σ H=>tv σ H λ v H1=>td σ H1 λ x H2=>ty σ H2 λ y H3=> ∃a H4,x= .ref a/\Rk H3 a y v H4/\D.nx σ H4
end L2
end
set_option linter.all false
namespace Mm
theorem dR (x:Int) (m:Nat) (h:0<m): ∃n:Nat,x%(m:Int)=(n:Int)/\n<m:=by
 have h1:=Wp x (b:=(m:Int)) (by rfl');have h2:=Wh x (b:=(m:Int)) (by rfl');exact ⟨(x%(m:Int)).toNat,by rfl',by rfl'⟩
def col (h:Nat) (i:Int):Nat:=(i*2862933555777941757 / 16%2^h).toNat
def cellAt (ns:List Int) (k:Nat):Int:=ns.getD k 0
def hgt (c:Int):Nat:=if c%2=0 then (1+c / 2%6).toNat else (1+c / 2%60).toNat
theorem getD_some {ns:List Int} {k:Nat} {z:Int} (h:ns[k]? =some z):cellAt ns k=z:=by
 unfold cellAt;rw [Zb,h];rfl
theorem getD_none {ns:List Int} {k:Nat} (h:ns.length<=k):cellAt ns k=0:=by
 unfold cellAt;rw [Zb,Yb h];rfl
def On (h n:Nat) (s:Int×Int):Prop:=0<=s.1/\s.1<n/\0<=s.2/\s.2<h
instance decOn (h n:Nat) (s:Int×Int):Decidable (On h n s):=by unfold On;exact inferInstance
end Mm
section
namespace L2
open PySem
theorem Iz {A B:Prop} (h:B):if (!true)=true then A else B:=vP h
theorem IK {A B:Prop} (h:A):if (!false)=true then A else B:=zW h
theorem fG {p A B:Prop} [Decidable p] (h1:p->A) (h2: ¬p->B):if decide p=true then A else B:=by
 by_cases h:p
 ·rw [Yh h];exact zW (h1 h)
 ·rw [Yo h];exact vP (h2 h)
theorem uW {p A B:Prop} [Decidable p] (h1: ¬p->A) (h2:p->B):if (!decide p)=true then A else B:=by
 by_cases h:p
 ·rw [Yh h];exact vP (h2 h)
 ·rw [Yo h];exact zW (h1 h)
theorem Hu {b:Bool} {A B:Prop} (h1:b=true->A) (h2:b=false->B):if b=true then A else B:=by
 cases b with
 | true=>exact zW (h1 rfl)
 | false=>exact vP (h2 rfl)
theorem IV {p A B:Prop} [Decidable p] (hp:p) (h:A):if decide p=true then A else B:=fG (λ _=>h) λ n=>absurd hp n
theorem mG {p A B:Prop} [Decidable p] (hp: ¬p) (h:B):if decide p=true then A else B:=fG (λ n=>absurd n hp) λ _=>h
theorem iw {p A B:Prop} [Decidable p] (hp:p) (h:B):if (!decide p)=true then A else B:=uW (λ n=>absurd hp n) λ _=>h
theorem IW {α:Type} [DecidableEq α] {a:α} {A B:Prop} (h:A):if decide (a=a)=true then A else B:=IV rfl h
theorem Dr {α:Type} [DecidableEq α] {a:α} {A B:Prop} (h:B):if (!decide (a=a))=true then A else B:=iw rfl h
theorem gr {p A B:Prop} [Decidable p] (hp: ¬p) (h:A):if (!decide p)=true then A else B:=uW (λ _=>h) λ n=>absurd n hp
theorem Same.new {H0 H:Hp} {p:Addr} {o:HO} (e:Same H0 H) (h:H p=none):Same H0 (upd H p o):=λ b u q=>by rw [aD (aU (e b u q) h)];exact e b u q
theorem Same.tup {K:W.Frag} {H H':Hp} {a:Addr} {xs:List V} (e:Same H H') (h:SqT K H a xs):SqT K H' a xs:=by
 rcases h with (h | ⟨o,h⟩) | h
 ·exact .inl (.inl (e _ _ h))
 ·exact .inl (.inr ⟨o,e _ _ h⟩)
 ·exact .inr h
theorem nH {K:W.Frag} {H:Hp} {p a:Addr} {o:HO} {xs:List V} (h:H p=none) (q:SqL K H a xs):SqL K (upd H p o) a xs:=Same.seq (Same.new (Same.refl H) h) q
theorem yR {K:W.Frag} {H:Hp} {p a:Addr} {o:HO} {xs:List V} (h:H p=none) (q:SqT K H a xs):SqT K (upd H p o) a xs:=Same.tup (Same.new (Same.refl H) h) q
theorem P0 {r:St} {v:V}:qp (none::r) (some v::r):=⟨rfl,λ j u z=>by
 match j,z with
 | j+1,z=>exact z⟩
theorem ext2 {r:St} {v w:V}:qp (none::none::r) (some v::some w::r):=⟨rfl,λ j u z=>by
 match j,z with
 | j+2,z=>exact z⟩
theorem J0 (a b:Int):decide (V.int a=V.int b)=decide (a=b):=by simp
theorem Hv {xs:List V} {k j:Int} (h:0<=k) (hj:0<=j):uh xs (some k) (some j)=(xs.take j.toNat).drop k.toNat:=by
 unfold uh;show (xs.drop (if k<0 then (k+(xs.length:Int)).toNat else min k.toNat xs.length)).take ((if j<0 then (j+(xs.length:Int)).toNat else min j.toNat xs.length)-(if k<0 then (k+(xs.length:Int)).toNat else min k.toNat xs.length))=_;rw [if_neg (Int.not_lt.mpr h),if_neg (Int.not_lt.mpr hj),List.drop_take];generalize k.toNat=k;generalize j.toNat=j;rcases Nat.le_total k xs.length with c | c
 ·rw [Nat.min_eq_left c,List.take_eq_take_iff,List.length_drop];rcases Nat.le_total j xs.length with d | d
  ·rw [Nat.min_eq_left d]
  ·rw [Nat.min_eq_right d,Nat.min_self,Nat.min_eq_right (Nat.sub_le_sub_right d k)]
 ·rw [Nat.min_eq_right c,List.drop_of_length_le (Zn _),List.drop_of_length_le c,List.take_nil,List.take_nil]
theorem fH (i:Int) (ns:List Int):inV (.int i) (ns.map V.int)=decide (i∈ns):=by
 unfold inV;rw [List.any_map];induction ns with
 | nil=>simp
 | cons n r ih=>
  rw [List.any_cons,ih];by_cases h:n=i
  ·subst h;simp [Bc]
  ·simp [Bc,h,Ne.symm h]
theorem eZ (ns:List Int):(ns.map V.int).all eX=true:=by
 rw [List.all_map];simp [Function.comp_def,eX]
theorem Kr {α:Type} {xs:List α} (h:xs≠[]):qW xs (-1)=some (xs.getLast h):=by
 have e:=uo xs.dropLast (xs.getLast h);rwa [List.dropLast_concat_getLast] at e
theorem wN {α:Type} {xs:List α} {i:Int} (h0:0<=i) (h1:i.toNat<xs.length):qW xs i=some xs[i.toNat]:=by
 have e:=aJ (xs:=xs) (j:=i.toNat) (v:=xs[i.toNat]) (Qb h1);rwa [show ((i.toNat:Nat):Int)=i by rfl'] at e
section
variable {σ:St} {H:Hp} {Q:VK} {D:Ends} {K:W.Frag}
theorem Pa {t u:TS} (h:t { D with nx:=u D } σ H):aN t u D σ H:=h
theorem J1 {te:TE} {g:TG} (h:te σ H λ x H1=>g x σ H1 D.nx):b7 te g D σ H:=h
theorem J2 {te:TE} (h:te σ H D.rt):bV te D σ H:=h
theorem Ds (h:D.nx σ H):bD D σ H:=h
theorem yS (h:D.bk σ H):vB D σ H:=h
theorem Dt {te:TE} (h:te σ H λ _ H1=>D.nx σ H1):eV te D σ H:=h
theorem J3 {c:TT} {t u:TS} (h:c σ H λ b H1=>if b=true then t D σ H1 else u D σ H1):cu c t u D σ H:=h
theorem J4 {i:Nat} {v:V} (e:σ[i]? =some (some v)) (h:Q v H):aj i σ H Q:=⟨v,e,h⟩
theorem SJ {v:V} (h:Q v H):tC v σ H Q:=h
theorem Pb {r:R2} {ta tb:TE} (h:ta σ H λ x H1=>tb σ H1 λ y H2=>r x y H2 Q):aW r ta tb σ H Q:=h
theorem Ph {r:V->Hp->VK->Prop} {ta:TE} (h:ta σ H λ x H1=>r x H1 Q):Nu r ta σ H Q:=h
theorem Pj {r:List V->Hp->VK->Prop} {t:TA} (h:t σ H λ vs H1=>r vs H1 Q):d7 r t σ H Q:=h
theorem s_call {sp:Sp} {E:XK} {t:TA} (h:t σ H λ vs H1=>sp vs H1 Q E):aX sp [] E t σ H Q:=by
 unfold aX;simpa only [Xd] using h
theorem yU {sp:Sp} {E:XK} {t:TA} {ds:List V} (h:t σ H λ vs H1=>sp (vs++ds) H1 Q E):aX sp ds E t σ H Q:=h
theorem J5 {R:List V->Hp->Prop} (h:R [] H):aF σ H R:=h
theorem Du {ta:TE} {tr:TA} {R:List V->Hp->Prop} (h:ta σ H λ x H1=>tr σ H1 λ xs H2=>R (x::xs) H2):ak ta tr σ H R:=h
theorem Dv {te:TE} {R:Bool->Hp->Prop} (h:te σ H λ x H'=> ∃k,x= .bl k/\R k H'):bh te σ H R:=h
theorem J6 {te:TE} {R:Bool->Hp->Prop} (h:te σ H λ x H'=> ∃k,Bw K x H' k/\R k H'):kY K te σ H R:=h
theorem Pk {b:Bool} {R:Bool->Prop} (h:R b): ∃k,V.bl b= .bl k/\R k:=⟨b,rfl,h⟩
theorem J7 {b:Bool} {R:Bool->Prop} (h:R b): ∃k,Bw K (.bl b) H k/\R k:=⟨b,rfl,h⟩
theorem J8 {t:TT} {R:Bool->Hp->Prop} (h:t σ H λ c H1=>R (!c) H1):mU t σ H R:=h
theorem J9 {t u:TT} {R:Bool->Hp->Prop} (h:t σ H λ c H1=>if c=true then u σ H1 R else R false H1):jk t u σ H R:=h
theorem Pn {t u:TT} {R:Bool->Hp->Prop} (h:t σ H λ c H1=>if c=true then R true H1 else u σ H1 R):Gf t u σ H R:=h
theorem Dw {ta tb:TE} (h:ta σ H λ x H1=> ∃c,x= .bl c/\if c=true then tb σ H1 Q else Q (.bl false) H1):jH ta tb σ H Q:=h
theorem Dy {ta:TE} (h:ta σ H λ x H1=> ∃c,x= .bl c/\Q (.bl (!c)) H1):Bg ta σ H Q:=h
theorem Pq {t:TT} {ta tb:TE} (h:t σ H λ c H1=>if c=true then ta σ H1 Q else tb σ H1 Q):QD t ta tb σ H Q:=h
theorem Ja {R:Bool->Hp->Prop} (h:R true H):eY σ H R:=h
theorem yV {i:Nat} {v:V} {R:St->Hp->Prop} (h:R (σ.set i (some v)) H):aB i v σ H R:=h
theorem DG {R:St->Hp->Prop} (h:R σ H):mV [] σ H R:=⟨rfl,h⟩
theorem yW {t:TG} {u:G4} {v:V} {r:List V} {R:St->Hp->Prop} (h:t v σ H λ σ' H'=>u r σ' H' R):cN t u (v::r) σ H R:=⟨v,r,rfl,h⟩
theorem gw {n:Nat} {t:G4} {a:Addr} {xs:List V} {R:St->Hp->Prop} (hx:SqT K H a xs) (hn:xs.length=n) (h:t xs σ H R):km K n t (.ref a) σ H R:=⟨a,xs,rfl,hx,hn,h⟩
theorem DK {to ti:TE} {t:Bj} {v:V} {R:St->Hp->Prop} (h:to σ H λ o H1=>ti σ H1 λ i H2=>t o i v H2 λ H3=>R σ H3):JQ to ti t v σ H R:=h
theorem Jb {f:Int->Int->V} {i j:Int} (h:Q (f i j) H):vI f (.int i) (.int j) H Q:=⟨i,j,rfl,rfl,h⟩
theorem Pr {C:Int->Int->Prop} {f:Int->Int->V} {i j:Int} (c:C i j) (h:Q (f i j) H):rI C f (.int i) (.int j) H Q:=⟨i,j,rfl,rfl,c,h⟩
theorem Pu {f:Int->V} {i:Int} (h:Q (f i) H):rU f (.int i) H Q:=⟨i,rfl,h⟩
theorem s_eq {x y:V} (e:Gk x y=true) (h:Q (.bl (decide (x=y))) H):pJ x y H Q:=⟨e,h⟩
theorem Jc {i j:Int} (h:Q (.bl (decide (i=j))) H):pJ (.int i) (.int j) H Q:=⟨rfl,by rw [J0];exact h⟩
theorem Jd {i j:Int} (h:Q (.bl (!decide (i=j))) H):Nv (.int i) (.int j) H Q:=⟨rfl,by rw [J0];exact h⟩
theorem Px {x y:V} (e:Gk x y=true) (h:Q (.bl (!decide (x=y))) H):Nv x y H Q:=⟨e,h⟩
theorem Je {t:TA} (h:t σ H λ xs H1=>xs.length<=sizeLine/\ ∀p,H1 p=none->Q (.ref p) (upd H1 p (.tup xs))):ie t σ H Q:=h
theorem Jf {t:TA} (h:t σ H λ xs H1=>xs.length<=sizeLine/\ ∀p,H1 p=none->Q (.ref p) (upd H1 p (.lst xs))):ig t σ H Q:=h
theorem Jg {a b:St} {P:Prop} (e:qp a b) (h:P):qp a b/\P:=⟨e,h⟩
theorem Jh {n:Nat} {P:Prop} (e:n<=1000) (h:P):n<=sizeLine/\P:=⟨small e,h⟩
theorem Py {r:V->Option Int->Option Int->Hp->VK->Prop} {te:TE} {tl th:TO} (h:te σ H λ x H1=>tl σ H1 λ l H2=>th σ H2 λ u H3=>r x l u H3 Q):BL r te tl th σ H Q:=h
theorem uX {R:Option Int->Hp->Prop} (h:R none H):fB σ H R:=h
theorem DN {t:TE} {R:Option Int->Hp->Prop} (h:t σ H λ x H1=> ∃i,x= .int i/\R (some i) H1):gH t σ H R:=h
theorem DP {i:Int} {R:Int->Prop} (h:R i): ∃k,V.int i= .int k/\R k:=⟨i,rfl,h⟩
theorem PB {T:String} {r:V->List V->Hp->VK->Prop} {to:TE} {t:TA} (h:to σ H λ x H1=>K5 K T x H1/\t σ H1 λ xs H2=>r x xs H2 Q):vO K T r to t σ H Q:=h
theorem jP {a:Addr} {xs:List V} {P:Prop} (e:SqL K H a xs) (h:P):K5 K "list" (.ref a) H/\P:=⟨.inl ⟨rfl,xs,e⟩,h⟩
theorem Ji {x:Str} {P:Prop} (h:P):K5 K "str" (.str x) H/\P:=⟨rfl,h⟩
def pR (g:TG) (tb:TS) (D:Ends) (σ:St):It->Hp->Prop:=λ J H1=> ∃W:Nat->Nat->St->Hp->Prop,(∃m,W 0 m σ H1)/\ ∀i m σ H,W i m σ H->
 (J.stop i H/\D.nx σ H)\/(J.go i H/\ ∃N:St->Hp->Prop,(∀σ' H',N σ' H'-> ∃m',m'<m/\W (i+1) m' σ' H')/\ ∀x H',J.yld i H x H'->g x σ H' λ σ2 H2=>tb { D with nx:=N,ct:=N,bk:=D.nx } σ2 H2)
theorem Jj {wi:TI} {g:TG} {tb:TS} (h:wi σ H (pR g tb D σ)):dG wi g tb D σ H:=h
def G7 (κ:List (Option Nat)) (g:TG) (tc:TT) (te:TE) (σ:St) (Q:VK):It->Hp->Prop:=λ J H1=> ∃W:Nat->Nat->List V->Hp->Prop,(∃m,W 0 m [] H1)/\ ∀i m ys H,W i m ys H->
 (J.stop i H/\ ∀p,H p=none->Q (.ref p) (upd H p (.lst ys)))\/
 (J.go i H/\ys.length<sizeLine/\ ∃N:List V->Hp->Prop,(∀ys' H',N ys' H'-> ∃m',m'<m/\W (i+1) m' ys' H')/\ ∀x H',J.yld i H x H'->g x (cap κ σ) H' λ σ2 H2=>qp (cap κ σ) σ2/\tc σ2 H2 λ b H3=>if b=true then te σ2 H3 λ y H4=>N (ys++[y]) H4 else N ys H3)
theorem PJ {κ:List (Option Nat)} {wi:TI} {g:TG} {tc:TT} {te:TE} (h:wi σ H (G7 κ g tc te σ Q)):qt κ wi g tc te σ H Q:=h
def iL (K:W.Frag) (R:It->Hp->Prop) (x:V) (H:Hp):Prop:= ∃a,x= .ref a/\(∃xs,SqL K H a xs)/\R (Gg K a) H
def iT (K:W.Frag) (R:It->Hp->Prop) (x:V) (H:Hp):Prop:= ∃a,x= .ref a/\(∃xs,SqT K H a xs)/\R (Nt K a) H
def iR (R:It->Hp->Prop) (vs:List V) (H:Hp):Prop:= ∃j:Int,vs=[.int j]/\ -(2^62)<=j/\j<2^62/\R (vD 0 j.toNat) H
def SM (R:It->Hp->Prop) (vs:List V) (H:Hp):Prop:= ∃i j:Int,vs=[.int i, .int j]/\(-(2^62)<=i/\i<2^62/\ -(2^62)<=j/\j<2^62)/\R (vD i (j-i).toNat) H
theorem yX {tl:TE} {R:It->Hp->Prop} (h:tl σ H (iL K R)):dF K tl σ H R:=h
theorem DQ {tl:TE} {R:It->Hp->Prop} (h:tl σ H (iT K R)):mW K tl σ H R:=h
theorem yZ {ta:TA} {R:It->Hp->Prop} (h:ta σ H (iR R)):iG ta σ H R:=h
theorem z6 {ta:TA} {R:It->Hp->Prop} (h:ta σ H (SM R)):ym ta σ H R:=h
def iS (R:It->Hp->Prop) (x:V) (H:Hp):Prop:= ∃z,x= .str z/\R (R1 z) H
theorem DR {tl:TE} {R:It->Hp->Prop} (h:tl σ H (iS R)):Kc tl σ H R:=h
def iZ (K:W.Frag) (R:It->Hp->Prop) (vs:List V) (H:Hp):Prop:= ∃a b xs ys,vs=[.ref a, .ref b]/\SqL K H a xs/\SqL K H b ys/\R (RC K a b) H
end
section
variable {σ:St} {H:Hp} {Q:VK} {D:Ends} {K:W.Frag} {g:TG} {tb:TS} {κ:List (Option Nat)} {tc:TT} {te:TE}
theorem jQ {α:Type} (c:α->V) {a:Addr} {zs:List α} (hx:SqL K H a (zs.map c)) (Pv:Nat->St->Hp->Prop) (h0:Pv 0 σ H) (hl: ∀i σ H',Pv i σ H'->SqL K H' a (zs.map c))
  (hs: ∀ (i:Nat) z σ H',zs[i]? =some z->Pv i σ H'->g (c z) σ H' λ σ2 H2=>tb { D with nx:=Pv (i+1),ct:=Pv (i+1),bk:=D.nx } σ2 H2) (hd: ∀σ H',Pv zs.length σ H'->D.nx σ H'):iL K (pR g tb D σ) (.ref a) H:=by
 refine ⟨a,rfl,⟨_,hx⟩,Bk (K:=K) (a:=a) (xs:=zs.map c) Pv h0 (λ i σ H _ h=>hl i σ H h) ?_ ?_⟩
 ·intro i x σ H' hi p;rw [Zg] at hi;obtain ⟨z,hz,rfl⟩:=Yd.mp hi;exact hs i z σ H' hz p
 ·intro σ H' p;rw [Qr] at p;exact hd σ H' p
theorem p6 {α:Type} (c:α->V) {a:Addr} {zs:List α} (hx:SqT K H a (zs.map c)) (Pv:Nat->St->Hp->Prop) (h0:Pv 0 σ H) (hl: ∀i σ H',Pv i σ H'->SqT K H' a (zs.map c))
  (hs: ∀ (i:Nat) z σ H',zs[i]? =some z->Pv i σ H'->g (c z) σ H' λ σ2 H2=>tb { D with nx:=Pv (i+1),ct:=Pv (i+1),bk:=D.nx } σ2 H2) (hd: ∀σ H',Pv zs.length σ H'->D.nx σ H'):iT K (pR g tb D σ) (.ref a) H:=by
 refine ⟨a,rfl,⟨_,hx⟩,Gi (K:=K) (a:=a) (xs:=zs.map c) Pv h0 (λ i σ H _ h=>hl i σ H h) ?_ ?_⟩
 ·intro i x σ H' hi p;rw [Zg] at hi;obtain ⟨z,hz,rfl⟩:=Yd.mp hi;exact hs i z σ H' hz p
 ·intro σ H' p;rw [Qr] at p;exact hd σ H' p
theorem uY {n:Int} (m:Nat) (e:n.toNat=m) (hm:m<=1000000000) (hn: -1000000000<=n) (Pv:Nat->St->Hp->Prop) (h0:Pv 0 σ H)
  (hs: ∀ (i:Nat) σ H',i<m->Pv i σ H'->g (.int (i:Int)) σ H' λ σ2 H2=>tb { D with nx:=Pv (i+1),ct:=Pv (i+1),bk:=D.nx } σ2 H2) (hd: ∀σ H',Pv m σ H'->D.nx σ H'):iR (pR g tb D σ) [.int n] H:=by
 refine ⟨n,rfl,by rfl',by rfl',?_⟩;rw [e];refine pZ Pv h0 (λ i σ H' hi p=> ?_) hd;rw [Int.zero_add];exact hs i σ H' hi p
theorem DW {lo n:Int} (m:Nat) (e:(n-lo).toNat=m) (hm:n<=1000000000) (hn: -1000000000<=n) (hlo: -1000000000<=lo) (hlo':lo<=1000000000) (Pv:Nat->St->Hp->Prop) (h0:Pv 0 σ H)
  (hs: ∀ (i:Nat) σ H',i<m->Pv i σ H'->g (.int (lo+i)) σ H' λ σ2 H2=>tb { D with nx:=Pv (i+1),ct:=Pv (i+1),bk:=D.nx } σ2 H2) (hd: ∀σ H',Pv m σ H'->D.nx σ H'):SM (pR g tb D σ) [.int lo, .int n] H:=by
 refine ⟨lo,n,rfl,⟨by rfl',by rfl',by rfl',by rfl'⟩,?_⟩;rw [e];exact pZ Pv h0 (λ i σ H' hi p=>hs i σ H' hi p) hd
theorem Ks {n:Int} (m:Nat) (e:n.toNat=m) (hm:m<=1000000) (hn: -1000000000<=n) (Pv:Nat->List V->Hp->Prop) (h0:Pv 0 [] H) (hz: ∀i ys H',Pv i ys H'->ys.length<=i)
  (hs: ∀ (i:Nat) ys H',i<m->Pv i ys H'->g (.int (i:Int)) (cap κ σ) H' λ σ2 H2=>qp (cap κ σ) σ2/\tc σ2 H2 λ b H3=>if b=true then te σ2 H3 λ y H4=>Pv (i+1) (ys++[y]) H4 else Pv (i+1) ys H3)
  (hd: ∀ys H',Pv m ys H'-> ∀p,H' p=none->Q (.ref p) (upd H' p (.lst ys))):iR (G7 κ g tc te σ Q) [.int n] H:=by
 refine ⟨n,rfl,by rfl',by rfl',?_⟩;rw [e];refine Ci Pv h0 (Zw hm (by decide)) hz (λ i ys H' hi p=> ?_) hd;rw [Int.zero_add];exact hs i ys H' hi p
theorem DX {n:Int} (m:Nat) (e:n.toNat=m) (hm:m<=1000000) (hn: -1000000000<=n) (f:Nat->V)
  (hs: ∀i,i<m-> ∀ (A:VK),A (f i) H->g (.int (i:Int)) (cap κ σ) H λ σ2 H2=>qp (cap κ σ) σ2/\te σ2 H2 A)
  (hd: ∀p,H p=none->Q (.ref p) (upd H p (.lst ((List.range m).map f)))):iR (G7 κ g eY te σ Q) [.int n] H:=by
 refine Ks m e hm hn (λ i ys H'=>H'=H/\ys=(List.range i).map f) ⟨rfl,rfl⟩ ?_ ?_ ?_
 ·rintro i ys _ ⟨rfl,rfl⟩;simp
 ·rintro i ys H' hi ⟨e1,rfl⟩;subst e1;have q:=hs i hi (λ y H4=>H4=H'/\(List.range i).map f++[y]=(List.range (i+1)).map f) ⟨rfl,by rw [List.range_succ,Zq];rfl⟩;simpa only [eY,if_true] using q
 ·rintro ys _ ⟨rfl,rfl⟩ p hp;exact hd p hp
theorem DY {α:Type} (c:α->V) {a:Addr} {zs:List α} (hx:SqL K H a (zs.map c)) (hn:zs.length<=1000000) (Pv:Nat->List V->Hp->Prop) (h0:Pv 0 [] H) (hl: ∀i ys H',Pv i ys H'->SqL K H' a (zs.map c)) (hz: ∀i ys H',Pv i ys H'->ys.length<=i)
  (hs: ∀ (i:Nat) z ys H',zs[i]? =some z->Pv i ys H'->g (c z) (cap κ σ) H' λ σ2 H2=>qp (cap κ σ) σ2/\tc σ2 H2 λ b H3=>if b=true then te σ2 H3 λ y H4=>Pv (i+1) (ys++[y]) H4 else Pv (i+1) ys H3)
  (hd: ∀ys H',Pv zs.length ys H'-> ∀p,H' p=none->Q (.ref p) (upd H' p (.lst ys))):iL K (G7 κ g tc te σ Q) (.ref a) H:=by
 refine ⟨a,rfl,⟨_,hx⟩,GF (K:=K) (a:=a) (xs:=zs.map c) Pv h0 (by rw [Qr];exact Zw hn (by decide)) (λ i ys H' _ p=>hl i ys H' p) hz ?_ ?_⟩
 ·intro i x ys H' hi p;rw [Zg] at hi;obtain ⟨z,hz,rfl⟩:=Yd.mp hi;exact hs i z ys H' hz p
 ·intro ys H' p;rw [Qr] at p;exact hd ys H' p
theorem Ea {α:Type} (c:α->V) {a:Addr} {zs:List α} (hx:SqL K H a (zs.map c)) (hn:zs.length<=1000000) (f:α->V)
  (hs: ∀ (i:Nat) z,zs[i]? =some z-> ∀ (A:VK),A (f z) H->g (c z) (cap κ σ) H λ σ2 H2=>qp (cap κ σ) σ2/\te σ2 H2 A)
  (hd: ∀p,H p=none->Q (.ref p) (upd H p (.lst (zs.map f)))):iL K (G7 κ g eY te σ Q) (.ref a) H:=by
 refine DY c hx hn (λ i ys H'=>H'=H/\ys=(zs.take i).map f) ⟨rfl,rfl⟩ ?_ ?_ ?_ ?_
 ·rintro i ys _ ⟨rfl,_⟩;exact hx
 ·rintro i ys _ ⟨rfl,rfl⟩;rw [Qr,Ys];rfl'
 ·rintro i z ys H' hz ⟨e1,rfl⟩;subst e1;have et:zs.take (i+1)=zs.take i++[z]:=by rw [Yj,hz];rfl
  have q:=hs i z hz (λ y H4=>H4=H'/\(zs.take i).map f++[y]=(zs.take (i+1)).map f) ⟨rfl,by rw [et,Zq];rfl⟩;simpa only [eY,if_true] using q
 ·rintro ys _ ⟨rfl,rfl⟩ p hp;rw [Yy];exact hd p hp
end
section
variable {σ:St} {H:Hp} {Q:VK} {D:Ends} {K:W.Frag} {g:TG} {tb:TS} {κ:List (Option Nat)} {tc:TT} {te:TE}
theorem PN {z:Str} (Pv:Nat->St->Hp->Prop) (h0:Pv 0 σ H)
  (hs: ∀ (i:Nat) c σ H',z.cps[i]? =some c->Pv i σ H'->g (.str ⟨#[c]⟩) σ H' λ σ2 H2=>tb { D with nx:=Pv (i+1),ct:=Pv (i+1),bk:=D.nx } σ2 H2) (hd: ∀σ H',Pv z.cps.size σ H'->D.nx σ H'):iS (pR g tb D σ) (.str z) H:=by
 refine ⟨z,rfl,λ i m σ H=>m=z.cps.size-i/\i<=z.cps.size/\Pv i σ H,⟨z.cps.size,by simp,Yu _,h0⟩,?_⟩;rintro i m σ H ⟨rfl,hi,p⟩;by_cases hlt:i<z.cps.size
 ·refine .inr ⟨hlt,Pv (i+1),λ σ' H' p'=>⟨z.cps.size-(i+1),by rfl',rfl,hlt,p'⟩,λ x H' y=> ?_⟩;obtain ⟨e,c,ec,ev⟩:=y;subst e ev;exact hs i c σ _ ec p
 ·have e:i=z.cps.size:=by rfl'
  subst e;exact .inl ⟨rfl,hd σ H p⟩
end
def Thing (H:Hp):V->Prop
 | .non=>True
 | .bl _=>True
 | .int _=>True
 | .str x=>x.length<=100000
 | .ref a=>(∃xs,H a=some (.lst xs))\/(∃xs,H a=some (.tup xs))\/ ∃kvs,H a=some (.dK kvs)
 | _=>False
def isI:V->Bool
 | .int _=>true
 | _=>false
theorem Thing.same {H H':Hp} (s:Same H H'): ∀ {x:V},Thing H x->Thing H' x
 | .non,_=>True.intro
 | .bl _,_=>True.intro
 | .int _,_=>True.intro
 | .str _,h=>h
 | .ref a,h=>h.elim (λ ⟨xs,e⟩=> .inl ⟨xs,s _ _ e⟩) λ h=>h.elim (λ ⟨xs,e⟩=> .inr (.inl ⟨xs,s _ _ e⟩)) λ ⟨xs,e⟩=> .inr (.inr ⟨xs,s _ _ e⟩)
theorem Thing.ty {K:W.Frag} {H:Hp}: ∀ {x:V},Thing H x->(∃b,x= .bl b)\/(∃i,x= .int i)\/(∃s:Str,x= .str s/\s.length<=100000)\/ ∃n:String,TyOf K H x (.type n)/\(n="NoneType"\/n="list"\/n="tuple"\/n="dict")/\isI x=false/\(∀s,x≠ .str s)
 | .non,_=> .inr (.inr (.inr ⟨_, .non, .inl rfl,rfl,λ _ e=>nomatch e⟩))
 | .bl b,_=> .inl ⟨b,rfl⟩
 | .int i,_=> .inr (.inl ⟨i,rfl⟩)
 | .str s,h=> .inr (.inr (.inl ⟨s,rfl,h⟩))
 | .ref a,h=> .inr (.inr (.inr (h.elim (λ ⟨xs,e⟩=>⟨_, .lst e, .inr (.inl rfl),rfl,λ _ e=>nomatch e⟩) λ h=>h.elim (λ ⟨xs,e⟩=>⟨_, .tup e, .inr (.inr (.inl rfl)),rfl,λ _ e=>nomatch e⟩) λ ⟨xs,e⟩=>⟨_, .dK e, .inr (.inr (.inr rfl)),rfl,λ _ e=>nomatch e⟩)))
theorem eG {K:W.Frag} {H:Hp} {Q:VK} {T:String} {x:V} {t:Value} {b:Bool} (ty:TyOf K H x t) (e:PySem.W.kitOne K t (.type T)=some b) (h:Q (.bl b) H):gf K [x, .ty T] H Q:=⟨T,x,t,b,rfl,ty,e,h⟩
section
variable {σ:St} {H:Hp} {Q:VK} {D:Ends} {K:W.Frag}
theorem Ku (a b:Str):decide (V.str a=V.str b)=decide (a=b):=by simp
theorem Jk {a b:Str} (h:Q (.bl (decide (a=b))) H):pJ (.str a) (.str b) H Q:=⟨rfl,by rw [Ku];exact h⟩
theorem Jl {i j:Str} (h:Q (.bl (!(decide (j.cps.toList<i.cps.toList)))) H):oG (.str i) (.str j) H Q:=⟨i,j,rfl,rfl,h⟩
theorem lz {i j:Str} (e:i.length+j.length<=1000000) (h:Q (.str (i++j)) H):eF (.str i) (.str j) H Q:=⟨i,j,rfl,rfl,Zw e (by decide),h⟩
theorem fP {a:Addr} {xs:List V} (e:SqL K H a xs) (h:Q (.int xs.length) H):cB K [.ref a] H Q:=⟨_,_,rfl, .inl ⟨xs,e,rfl⟩,h⟩
theorem gA {a:Addr} {xs:List V} (e:SqT K H a xs) (h:Q (.int xs.length) H):cB K [.ref a] H Q:=⟨_,_,rfl, .inr ⟨xs,e,rfl⟩,h⟩
theorem gD {x:Str} (e:x.length<=1000000) (h:Q (.int x.length) H):cB K [.str x] H Q:=⟨_,_,rfl,⟨Nat.le_trans e (by decide),rfl⟩,h⟩
theorem PP {x:Str} (e:x.length=1) (h:Q (.int (x.cps.getD 0 0:Nat)) H):Ir [.str x] H Q:=⟨x,rfl,e,h⟩
theorem gh {a:Addr} {xs:List V} {i:Int} {v:V} (e:SqL K H a xs) (ev:qW xs i=some v) (h:Q v H):gJ K (.ref a) (.int i) H Q:=⟨a,xs,i,v,rfl,rfl,e,ev,h⟩
theorem bj {a:Addr} {xs:List V} {i:Int} {v:V} (e:SqT K H a xs) (ev:qW xs i=some v) (h:Q v H):bu K (.ref a) (.int i) H Q:=⟨a,xs,i,v,rfl,rfl,e,ev,h⟩
theorem qH {x:Str} {i:Int} {c:Nat} (e:x.length<=1000000) (ev:qW x.cps.toList i=some c) (h:Q (.str ⟨#[c]⟩) H):pK (.str x) (.int i) H Q:=⟨x,i,c,rfl,rfl,Zw e (by decide),ev,h⟩
theorem z7 (h: ∀p,H p=none->Q (.ref p) (upd H p (.dK []))):oA σ H Q:=h
theorem z8 {tk tv:TE} (h: ∀p,H p=none->tk σ (upd H p (.dT [])) λ x H1=>tv σ H1 λ v H2=>H2 p=some (.dT [])/\ ∃k b,x= .ref b/\H2 b=some (.tup (k.map kV))/\Q (.ref p) (upd H2 p (.dT [(k,v)]))):wD tk tv σ H Q:=h
theorem z9 {tk tv:TE} (h: ∀p,H p=none->tk σ (upd H p (.dK [])) λ x H1=>tv σ H1 λ y H2=>H2 p=some (.dK [])/\ ∃kvs:List (Key×V),[(x,y)]=kvs.map (λ kv=>(kV kv.1,kv.2))/\kvs.length<=15/\Q (.ref p) (upd H2 p (.dK (kW [] kvs)))):Cg [(tk,tv)] σ H Q:=h
theorem zb (h: ∀p,H p=none->Q (.ref p) (upd H p (.dT []))):vQ σ H Q:=h
theorem sE {c:TT} {tb:TS} (Pv:St->Hp->Prop) (μ:St->Hp->Nat) (h0:Pv σ H)
  (hs: ∀σ H,Pv σ H->c σ H λ b H1=>if b=true then tb { D with nx:=λ σ' H'=>Pv σ' H'/\μ σ' H'<μ σ H,ct:=λ σ' H'=>Pv σ' H'/\μ σ' H'<μ σ H,bk:=D.nx } σ H1 else D.nx σ H1)
  (mono: ∀σ H Q Q',(∀b H1,Q b H1->Q' b H1)->c σ H Q->c σ H Q'):jl c tb D σ H:=Bo Pv μ h0 hs mono
end
section
variable {σ:St} {H:Hp} {Q:VK} {R:Bool->Hp->Prop} {b c:Bool}
theorem Ec {ta tb:TE} (h1: ∀R:VK,R (.bl b) H->ta σ H R) (h2: ∀R:VK,R (.bl c) H->tb σ H R) (h:Q (.bl (b&&c)) H):jH ta tb σ H Q:=by
 refine h1 _ ⟨b,rfl,?_⟩
 cases b with
 | true=>rw [if_pos rfl];rw [Bool.true_and] at h;exact h2 _ h
 | false=>rw [if_neg Zt];rw [Bool.false_and] at h;exact h
theorem Ed {t u:TT} (h1: ∀R:Bool->Hp->Prop,R b H->t σ H R) (h2: ∀R:Bool->Hp->Prop,R c H->u σ H R) (h:R (b||c) H):Gf t u σ H R:=by
 refine h1 _ ?_
 cases b with
 | true=>rw [if_pos rfl];rw [Bool.true_or] at h;exact h
 | false=>rw [if_neg Zt];rw [Bool.false_or] at h;exact h2 _ h
theorem uZ {r r':R2} {ta tb tc:TE} {x y z:V} (h1: ∀R:VK,R x H->ta σ H R) (h2: ∀R:VK,R y H->tb σ H R) (h3: ∀R:VK,R z H->tc σ H R) (h4: ∀R:VK,R (.bl b) H->r x y H R) (h5: ∀R:VK,R (.bl c) H->r' y z H R) (h:Q (.bl (b&&c)) H):jm r r' ta tb tc σ H Q:=by
 refine h1 _ (h2 _ (h4 _ ⟨b,rfl,?_⟩))
 cases b with
 | true=>rw [if_pos rfl];rw [Bool.true_and] at h;exact h3 _ (h5 _ h)
 | false=>rw [if_neg Zt];rw [Bool.false_and] at h;exact h
end
def Sb (ps:List Addr) (H H':Hp):Prop:= ∀b o,b∉ps->H b=some o->H' b=some o
theorem Sb.of {ps:List Addr} {H H':Hp} (s:Same H H'):Sb ps H H':=λ b o _ e=>s b o e
theorem Sb.same {ps:List Addr} {H H1 H2:Hp} (e:Sb ps H H1) (s:Same H1 H2):Sb ps H H2:=λ b o n q=>s b o (e b o n q)
theorem Sb.new {ps:List Addr} {H H1:Hp} {p:Addr} {o:HO} (e:Sb ps H H1) (h:H1 p=none):Sb ps H (upd H1 p o):=e.same (aH h o)
theorem Sb.set {ps:List Addr} {H H1:Hp} {p:Addr} {o:HO} (e:Sb ps H H1) (h:p∈ps):Sb ps H (upd H1 p o):=λ b u n q=>by
 rw [aD (show b≠p from λ z=>n (by rw [z];exact h))];exact e b u n q
theorem Sb.get {ps:List Addr} {H H1:Hp} {a:Addr} {o:HO} (e:Sb ps H H1) (n:a∉ps) (h:H a=some o):H1 a=some o:=e a o n h
theorem Sb.more {ps qs:List Addr} {H H1:Hp} (e:Sb ps H H1) (h: ∀p∈ps,p∈qs):Sb qs H H1:=λ b o n q=>e b o (λ z=>n (h b z)) q
theorem Sb.seq {ps:List Addr} {K:W.Frag} {H H1:Hp} {a:Addr} {xs:List V} (e:Sb ps H H1) (hp: ∀p∈ps,H p=none) (h:SqL K H a xs):SqL K H1 a xs:=by
 have na: ∀o,H a=some o->a∉ps:=λ o q z=>by rw [hp a z] at q;cases q
 rcases h with (h | ⟨o,h⟩) | h
 ·exact .inl (.inl (e a _ (na _ h) h))
 ·exact .inl (.inr ⟨o,e a _ (na _ h) h⟩)
 ·exact .inr h
theorem Sb.at {ps:List Addr} {H H1:Hp} {a:Addr} {o:HO} (e:Sb ps H H1) (hp: ∀p∈ps,H p=none) (h:H a=some o):H1 a=some o:=e a o (λ z=>by rw [hp a z] at h;cases h) h
section
variable {σ:St} {H:Hp} {Q:VK} {D:Ends} {K:W.Frag} {g:TG} {tb:TS} {κ:List (Option Nat)} {tc:TT} {te:TE}
def Tw (R:It->Hp->Prop) (vs:List V) (H:Hp):Prop:= ∃ (i j c:Int) (n:Nat),vs=[.int i, .int j, .int c]/\c≠0/\Builtin.Range.small i j c=true/\Builtin.divisionGoesByPylong (j-i) c=false/\Builtin.Range.rangeSize i j c=(n:Int)/\R (O6 i c n) H
end
section
variable {σ:St} {H:Hp} {Q:VK} {D:Ends} {K:W.Frag}
theorem mH {l:Addr} {xs:List V} {y:V} (e:H l=some (.lst xs)) (n:xs.length<=1000000) (h:Q .non (upd H l (.lst (xs++[y])))):eQ (.ref l) [y] H Q:=⟨l,xs,y,rfl,rfl,e,Xa n (by decide),h⟩
theorem Kv {l:Addr} {xs:List V} {k:Int} {v:V} {R:Hp->Prop} (j:Nat) (e:H l=some (.lst xs)) (ej:k=(j:Int)) (hj:j<xs.length) (h:R (upd H l (.lst (xs.set j v)))):BP (.ref l) (.int k) v H R:=by
 refine ⟨l,xs,k,j,rfl,rfl,e,?_,h⟩;subst ej;unfold G5;rw [if_pos (by rfl'),if_pos (by rfl')];simp
end
mutual
theorem eqv_refl: ∀d:PyData,d.canLay0=true->PyData.eqv d d=true
 | .none,_=>by simp [PyData.eqv]
 | .bool b,_=>by simp [PyData.eqv]
 | .int i,_=>by simp [PyData.eqv]
 | .str x,_=>by simp [PyData.eqv]
 | .list xs,h=>by
  simp only [PyData.eqv];exact eqvAll_refl xs (by simpa only [PyData.canLay0] using h)
 | .tuple xs,h=>by
  simp only [PyData.eqv];exact eqvAll_refl xs (by simpa only [PyData.canLay0] using h)
 | .dict kvs,h=>by simp [PyData.canLay0] at h
theorem eqvAll_refl: ∀ds:List PyData,PyData.canLayAll0 ds=true->PyData.eqvAll ds ds=true
 | [],_=>by simp [PyData.eqvAll]
 | d::r,h=>by
  simp only [PyData.canLayAll0,Xw] at h;simp only [PyData.eqvAll,eqv_refl d h.1,eqvAll_refl r h.2,Bool.and_self]
end
def Sh (n:Nat) (d:PyData):Prop:=d.canLay0=true/\d.depth<=n
theorem wO {n:Nat}: ∀ {ds:List PyData},(∀d∈ds,Sh n d)->PyData.canLayAll0 ds=true/\PyData.depthAll ds<=n
 | [],_=>⟨by simp [PyData.canLayAll0],by simp [PyData.depthAll]⟩
 | d::r,h=>by
  obtain ⟨h1,h2⟩:=h d Zy;obtain ⟨h3,h4⟩:=wO (ds:=r) λ e he=>h e (Zr _ he)
  exact ⟨by simp [PyData.canLayAll0,h1,h3],by simp only [PyData.depthAll];rfl'⟩
theorem sG {n:Nat} {ds:List PyData} (h: ∀d∈ds,Sh n d):Sh (n+1) (.list ds):=by
 obtain ⟨h1,h2⟩:=wO h;exact ⟨by simp only [PyData.canLay0];exact h1,by simp only [PyData.depth];rfl'⟩
theorem wQ {n:Nat} {ds:List PyData} (h: ∀d∈ds,Sh n d):Sh (n+1) (.tuple ds):=by
 obtain ⟨h1,h2⟩:=wO h;exact ⟨by simp only [PyData.canLay0];exact h1,by simp only [PyData.depth];rfl'⟩
theorem Ef (n:Nat) (i:Int):Sh n (.int i):=⟨by simp [PyData.canLay0],by simp [PyData.depth]⟩
theorem PQ (n:Nat) (b:Bool):Sh n (.bool b):=⟨by simp [PyData.canLay0],by simp [PyData.depth]⟩
theorem Sh.shaped {n:Nat} {d:PyData} (h:Sh n d) (hn:n<=64):SeqAt.shaped d=true:=by
 unfold SeqAt.shaped;rw [h.1,Yh (Zw h.2 hn)];rfl
section
variable {H:Hp} {Q:VK} {K:W.Frag} {x y:V} {d:PyData} {n:Nat}
theorem rEqD.nil {a p:Addr} {ds:List PyData} (h1:Dp K H (.ref a) (.list ds)) (hs:Sh n (.list ds)) (hn:n<=64) (hp:SqL K H p []) (q:Q (.bl (decide (ds=[]))) H):rEqD K (.ref a) (.ref p) H Q:=by
 have s2:Sh 1 (.list []):=sG (λ d hd=>by cases hd);refine ⟨_, .list [],h1, .lst hp .nil,hs.shaped hn,s2.shaped (by decide),?_⟩
 cases ds with
 | nil=>rw [eqv_refl _ s2.1];exact q
 | cons z r=>exact q
theorem rNeD.same (h1:Dp K H x d) (h2:Dp K H y d) (hs:Sh n d) (hn:n<=64) (q:Q (.bl false) H):rNeD K x y H Q:=⟨d,d,h1,h2,hs.shaped hn,hs.shaped hn,by rw [eqv_refl d hs.1];exact q⟩
theorem DpAll.bls: ∀bs:List Bool,DpAll K H (bs.map V.bl) (bs.map PyData.bool)
 | []=> .nil
 | b::r=> .cons (.bl b) (DpAll.bls r)
structure RefF (K:W.Frag) (C B:Addr) (ds es:List Addr):Prop where
 ex:ExcK K C
 em:PySem.W.exmOne K (.ref C) (.ref C)=some true
 kb:PySem.W.kitOne K (.ref C) (.ref B)=some true
 kv:PySem.W.kitOne K (.ref C) (.type "ValueError")=some true
 k1:PySem.W.kitAny K (.ref C) (ds.map Value.ref)=some false
 k2:PySem.W.kitAny K (.ref C) (es.map Value.ref)=some false
theorem zc {E:XK} {C:Addr} {t:TA} {D:Ends} {σ:St} (h:t σ H λ vs H1=>vs.length<=sizeLine/\E (.ref C) none H1):fj E C t D σ H:=h
theorem Jm {l b:Addr} {xs zs:List V} (e1:H l=some (.lst xs)) (e2:H b=some (.lst zs)) (hn:xs.length+zs.length<=1000000) (h: ∀p,H p=none->Q (.ref p) (upd H p (.lst (xs++zs)))):Gu (.ref l) (.ref b) H Q:=⟨l,b,xs,zs,rfl,rfl,e1,e2,Zw hn (by decide),h⟩
theorem Jo {a:Addr} {xs:List V} {lo hi:Option Int} (e:SqL K H a xs) (h: ∀p,H p=none->Q (.ref p) (upd H p (.lst (uh xs lo hi)))):BR K (.ref a) lo hi H Q:=⟨a,xs,rfl,e,h⟩
end
theorem Sb.off {ps:List Addr} {H H':Hp} (e:Sb ps H H') (hp: ∀p∈ps,H p=none):Same H H':=λ b o q=>e.at hp q
def Tz (K:W.Frag) (H:Hp) (q:Addr) (ss:List (Int×Int)):Prop:= ∃zs:List (Addr×Int×Int),zs.map (·.2)=ss/\SqL K H q (zs.map λ z=>V.ref z.1)/\ ∀z∈zs,SqT K H z.1 [.int z.2.1, .int z.2.2]
theorem iy {t u:TS} {D:Ends} {σ:St} {H:Hp} (J:St->Hp->Prop) (h2: ∀σ' H',J σ' H'->u D σ' H') (h1: ∀N:St->Hp->Prop,(∀σ' H',J σ' H'->N σ' H')->t { D with nx:=N } σ H):aN t u D σ H:=h1 _ h2
def tx (cs:List Nat):Str:=⟨cs.toArray⟩
theorem jw (a b:List Nat):tx a++tx b=tx (a++b):=by
 show (⟨a.toArray++b.toArray⟩:Str)=⟨(a++b).toArray⟩;simp
theorem bw (cs:List Nat):(tx cs).length=cs.length:=by show cs.toArray.size=_;simp
theorem p7 (cs:List Nat):(tx cs).cps.toList=cs:=rfl
theorem lA {a b:List Nat}:tx a=tx b↔a=b:=by
 constructor
 ·intro h;have:=Yn (λ s:Str=>s.cps.toList) h;simpa [tx] using this
 ·intro h;rw [h]
theorem join_ones: ∀cs:List Nat,Txt.join (Str.ofString "") (cs.map λ c=>tx [c])=tx cs:=by
 intro cs;unfold Txt.join;rw [StrLaws.glued_eq_join];induction cs with
 | nil=>rfl
 | cons c r ih=>
  cases r with
  | nil=>rfl
  | cons d r=>
   show tx [c]++Str.ofString ""++Str.join (Str.ofString "") ((d::r).map λ c=>tx [c])=_;rw [ih,show Str.ofString ""=tx [] from rfl,jw,jw];rfl
theorem v4 {cs:List Nat} {j:Nat} (h:j<=cs.length):Txt.slice (tx cs) none (some (j:Int))=tx (cs.take j):=by
 have:=beq_iff_eq.mp (PyProof.Rows.slice_closes_to (x:=tx cs) (j:=(j:Int)) ⟨by rfl',by rw [p7];rfl'⟩);rw [this];simp [tx]
theorem Hw {cs:List Nat} {j:Nat} (h:j<=cs.length):Txt.slice (tx cs) (some (j:Int)) none=tx (cs.drop j):=by
 have:=beq_iff_eq.mp (PyProof.Rows.slice_closes_from (x:=tx cs) (i:=(j:Int)) ⟨by rfl',by rw [p7];rfl'⟩);rw [this,p7];show tx _=tx _;rw [Zi,Xy (by rw [List.length_drop];rfl')]
section
variable {σ:St} {H:Hp} {Q:VK} {D:Ends} {K:W.Frag} {g:TG} {κ:List (Option Nat)} {tc:TT} {te:TE}
theorem Kw {s:Str} {a:Addr} {ys:List Str} (e:SqL K H a (ys.map V.str)) (hn:(ys.map (·.length)).sum+ys.length*s.length<=16777216) (h:Q (.str (Txt.join s ys)) H):rJoin K (.str s) [.ref a] H Q:=⟨s,a,ys,rfl,rfl,e,hn,h⟩
theorem p8 {s:Str} {lo hi:Option Int} (e:s.length<=1000000) (h:Q (.str (Txt.slice s lo hi)) H):rH (.str s) lo hi H Q:=⟨s,rfl,Zw e (by decide),h⟩
def iE (K:W.Frag) (R:It->Hp->Prop) (vs:List V) (H:Hp):Prop:= ∃a xs,vs=[.ref a]/\SqL K H a xs/\R (R6 K a) H
theorem zf {ta:TA} {R:It->Hp->Prop} (h:ta σ H (iE K R)):yF K ta σ H R:=h
end
theorem Ky (n:Nat) {cs:List Nat} (h: ∀c∈cs,c<1114112):Sh n (.str (tx cs)):=by
 refine ⟨?_,by simp [PyData.depth]⟩;simp only [PyData.canLay0,PyData.strOk];show cs.toArray.all _=true;simp;exact h
section
variable {σ:St} {H:Hp} {Q:VK} {D:Ends} {K:W.Frag} {g:TG} {tb:TS}
def iD (R:It->Hp->Prop):V->Hp->Prop:=λ x H1=> ∃a kvs,x= .ref a/\H1 a=some (.dT kvs)/\ ∀od,R (RD od a) (upd H1 a (.frz od (.dT kvs)))
theorem Eg {td ty tv:TE} (h:tv σ H λ v H1=>td σ H1 λ x H2=>ty σ H2 λ y H3=> ∃a H4,x= .ref a/\DPut H3 a y v H4/\D.nx σ H4):je td ty tv D σ H:=h
theorem Ei {td ty:TE} (h:td σ H λ x H1=>ty σ H1 λ y H2=> ∃a v,x= .ref a/\DGet H2 a y (some v)/\Q v H2):g8 td ty σ H Q:=h
theorem Ej {l b:Addr} {xs zs:List V} (e1:H l=some (.lst xs)) (e2:H b=some (.lst zs)) (hn:xs.length+zs.length<=1000000) (h:Q .non (upd H l (.lst (xs++zs)))):rB (.ref l) [.ref b] H Q:=⟨l,b,xs,zs,rfl,rfl,e1,e2,Zw hn (by decide),h⟩
def TJ (H:Hp) (zs:List (Addr×Int×Int)):Prop:= ∀z∈zs,H z.1=some (.tup [.int z.2.1, .int z.2.2])
end
end L2
namespace L2
open PySem
section
variable {σ:St} {H:Hp} {Q:VK} {D:Ends} {K:W.Frag}
theorem PX {te:TE} {R:Bool->Hp->Prop} (h:te σ H λ x H'=> ∃k,x= .bl k/\R k H'):tB te σ H R:=h
theorem Jp {x:V} (h:Q (.bl (decide (x= .non))) H):gP x .non H Q:=⟨rfl,h⟩
theorem Ek {x:V} (h:Q (.bl (!decide (x= .non))) H):ir x .non H Q:=⟨rfl,h⟩
theorem iz {p:Addr} {ys:List V} (e:SqL K H p ys) (h: ∀l,H l=none->Q (.ref l) (upd H l (.tup ys))):dN K [.ref p] H Q:=⟨p,ys,rfl, .inl ⟨e,h⟩⟩
theorem qI {p:Addr} {ys:List V} (e:SqT K H p ys) (h: ∀l,H l=none->Q (.ref l) (upd H l (.lst ys))):nF K [.ref p] H Q:=⟨p,ys,rfl, .inr e,h⟩
theorem Jq {ty td:TE} (h:ty σ H λ y H1=>td σ H1 λ x H2=> ∃a o,x= .ref a/\DGet H2 a y o/\Q (.bl o.isSome) H2):Gy ty td σ H Q:=h
theorem v5 {ty td:TE} (h:ty σ H λ y H1=>td σ H1 λ x H2=> ∃a o,x= .ref a/\DGet H2 a y o/\Q (.bl (!o.isSome)) H2):rC ty td σ H Q:=h
theorem wR {x:V} {p:Addr} {xs:List V} (e:SqL K H p xs\/SqT K H p xs) (hx:eX x=true) (ha:xs.all eX=true) (h:Q (.bl (inV x xs)) H):vN K false x (.ref p) H Q:=⟨p,xs,rfl,e,hx,ha,h⟩
theorem zg {x:V} {p:Addr} {xs:List V} (e:SqL K H p xs\/SqT K H p xs) (hx:eX x=true) (ha:xs.all eX=true) (h:Q (.bl (!inV x xs)) H):vN K true x (.ref p) H Q:=⟨p,xs,rfl,e,hx,ha,h⟩
theorem Hx {a:Addr} {ns:List Int} (hx:SqL K H a (ns.map V.int)) (h64:ns.length<64) (h: ∀r (ns':List Int),ns'.Perm ns->ns'.Pairwise (· <= ·)->H r=none->Q (.ref r) (upd H r (.lst (ns'.map V.int)))):rJ K [.ref a] H Q:=⟨a,ns,rfl,hx,h64,h⟩
theorem Hy {a:Addr} {zs:List (Addr×Str×List V)} (hx:SqL K H a (zs.map λ z=>V.ref z.1)) (hz: ∀z∈zs,SqT K H z.1 (.str z.2.1::z.2.2)) (hd:(zs.map (·.2.1)).Nodup) (h64:zs.length<64)
  (h: ∀r (ws:List (Addr×Str×List V)),ws.Perm zs->(ws.map (·.2.1)).Pairwise (λ a b=>a.cps.toList<b.cps.toList)->H r=none->Q (.ref r) (upd H r (.lst (ws.map λ z=>V.ref z.1)))):oK K [.ref a] H Q:=⟨a,zs,rfl,hx,hz,hd,h64,h⟩
end
theorem Hz (s:Str) (ns:List Str):inV (.str s) (ns.map V.str)=decide (s∈ns):=by
 unfold inV;rw [List.any_map];induction ns with
 | nil=>simp
 | cons n r ih=>
  rw [List.any_cons,ih];by_cases h:n=s
  ·subst h;simp [Bc]
  ·simp [Bc,h,Ne.symm h]
theorem KD (ns:List Int):inV .non (ns.map V.int)=false:=by
 unfold inV;rw [List.any_map];induction ns with
 | nil=>rfl
 | cons n r ih=>rw [List.any_cons,ih];rfl
theorem Av (ns:List Str):(ns.map V.str).all eX=true:=by
 rw [List.all_map];simp [Function.comp_def,eX]
def ov:Option Int->V
 | none=> .non
 | some i=> .int i
theorem HB (o:Option Int):eX (ov o)=true:=by cases o<;>rfl
def DrT (K:W.Frag) (H:Hp) (a:Addr) (ps:L1S):Prop:= ∃zs:List (Addr×Str×Int),zs.map (·.2)=ps/\H a=some (.tup (zs.map λ z=>V.ref z.1))/\ ∀z∈zs,H z.1=some (.tup [.str z.2.1, .int z.2.2])
theorem DrT.sq {K:W.Frag} {H:Hp} {a:Addr} {ps:L1S} (h:DrT K H a ps): ∃zs:List (Addr×Str×Int),zs.map (·.2)=ps/\SqT K H a (zs.map λ z=>V.ref z.1)/\ ∀z∈zs,SqT K H z.1 [.str z.2.1, .int z.2.2]:=by
 obtain ⟨zs,e,h1,h2⟩:=h;exact ⟨zs,e,SqT.of h1,λ z hz=>SqT.of (h2 z hz)⟩
theorem DrT.same {K:W.Frag} {H H':Hp} {a:Addr} {ps:L1S} (h:DrT K H a ps) (s:Same H H'):DrT K H' a ps:=by
 obtain ⟨zs,e,h1,h2⟩:=h;exact ⟨zs,e,s.get h1,λ z hz=>s.get (h2 z hz)⟩
def HsT (K:W.Frag) (H:Hp) (a:Addr) (ds:L2S) (es:List Int):Prop:= ∃ (d e:Addr) (rs:List (Addr×L1S)),H a=some (.tup [.ref d, .ref e])/\rs.map (·.2)=ds/\H d=some (.tup (rs.map λ r=>V.ref r.1))/\(∀r∈rs,DrT K H r.1 r.2)/\H e=some (.tup (es.map V.int))
theorem HsT.same {K:W.Frag} {H H':Hp} {a:Addr} {ds:L2S} {es:List Int} (h:HsT K H a ds es) (s:Same H H'):HsT K H' a ds es:=by
 obtain ⟨d,e,rs,h1,h2,h3,h4,h5⟩:=h;exact ⟨d,e,rs,s.get h1,h2,s.get h3,λ r hr=>(h4 r hr).same s,s.get h5⟩
def Ti (K:W.Frag) (H:Hp) (a:Addr) (ps:L1S):Prop:= ∃zs:List (Addr×Str×Int),zs.map (·.2)=ps/\SqT K H a (zs.map λ z=>V.ref z.1)/\ ∀z∈zs,H z.1=some (.tup [.str z.2.1, .int z.2.2])
def TQ (K:W.Frag) (H:Hp) (a:Addr) (ds:L2S) (es:List Int):Prop:= ∃ (d e:Addr) (rs:List (Addr×L1S)),H a=some (.tup [.ref d, .ref e])/\rs.map (·.2)=ds/\SqT K H d (rs.map λ r=>V.ref r.1)/\(∀r∈rs,Ti K H r.1 r.2)/\H e=some (.tup (es.map V.int))
theorem DrT.dp {K:W.Frag} {H:Hp} {q:Addr} {ps:L1S} (h:DrT K H q ps):Dp K H (.ref q) (.tuple (ps.map λ s=> .tuple [.str s.1, .int s.2])):=by
 obtain ⟨zs,rfl,h1,h2⟩:=h.sq;refine .tup h1 ?_;clear h1 h;induction zs with
 | nil=>exact .nil
 | cons z r ih=>exact .cons (.tup (h2 z Zy) (.cons (.str _) (.cons (.int _) .nil))) (ih λ y hy=>h2 y (Zr _ hy))
def hsD (ds:L2S) (es:List Int):PyData:= .tuple [.tuple (ds.map λ ps=> .tuple (ps.map λ s=> .tuple [.str s.1, .int s.2])), .tuple (es.map PyData.int)]
end L2
namespace Hs
open PySem L2
def dr (ps:L1S) (s:Str):Option Int:=(ps.find? λ p=>decide (p.1=s)).map (·.2)
theorem fJ (p:Str×Int) (r:L1S) (s:Str):dr (p::r) s=if p.1=s then some p.2 else dr r s:=by
 unfold dr;by_cases h:p.1=s
 ·simp [h]
 ·simp [h]
theorem gF {s:Str} {r:Int}: ∀ {ps:L1S},dr ps s=some r->(s,r)∈ps
 | [],h=>by cases h
 | p::ps,h=>by
  rw [fJ] at h;by_cases e:p.1=s
  ·rw [if_pos e] at h
   cases h;rw [<- e];exact Zy
  ·rw [if_neg e] at h;exact Zr _ (gF h)
def stp (ds:L2S) (o:Option Int) (s:Str):Option Int:=o.bind λ r=>dr (ds.getD r.toNat []) s
def go (ds:L2S) (cs:List Nat):Option Int:=cs.foldl (λ o c=>stp ds o (tx [c])) (some 0)
structure Wf (ds:L2S):Prop where
 pos:0<ds.length
 rm: ∀ps∈ds,∀p∈ps,0<=p.2/\p.2<ds.length
theorem cD (ds:L2S) (cs:List Nat) (c:Nat):go ds (cs++[c])=stp ds (go ds cs) (tx [c]):=by
 unfold go;rw [List.foldl_append];rfl
theorem nJ {ds:L2S} {xs ys:List Nat} (h:go ds xs=none):go ds (xs++ys)=none:=by
 unfold go at h ⊢;rw [List.foldl_append,h];clear h;induction ys with
 | nil=>rfl
 | cons y r ih=>exact ih
theorem getD_at {α:Type} {xs:List α} {r:Int} {d:α} (h0:0<=r) (h1:r<xs.length):xs.getD r.toNat d=xs[r.toNat]'(by rfl'):=by
 rw [Zb,Qb (by rfl')];rfl
theorem mJ {ds:L2S} (w:Wf ds) {r:Int}: ∀ {cs:List Nat},go ds cs=some r->0<=r/\r<ds.length:=by
 intro cs
 suffices ∀ (cs:List Nat) (r0:Int),0<=r0->r0<ds.length->cs.foldl (λ o c=>stp ds o (tx [c])) (some r0)=some r->0<=r/\r<ds.length by
  exact this cs 0 (by decide) (by have:=w.pos;rfl')
 intro cs;induction cs with
 | nil=>intro r0 h0 h1 h;cases h;exact ⟨h0,h1⟩
 | cons c rest ih=>
  intro r0 h0 h1 h;rw [List.foldl_cons] at h
  cases e:stp ds (some r0) (tx [c]) with
  | none=>
   rw [e] at h;have: ∀l:List Nat,l.foldl (λ o c=>stp ds o (tx [c])) none=none:=λ l=>by
    induction l with
    | nil=>rfl
    | cons y r ih=>exact ih
   rw [this] at h
   cases h
  | some r1=>
   rw [e] at h;have m:=gF (show dr (ds.getD r0.toNat []) (tx [c])=some r1 from e);rw [getD_at h0 h1] at m;have:=w.rm _ (Zl _) _ m;exact ih r1 this.1 this.2 h
end Hs
namespace L2
open PySem
theorem HsT.at {K:W.Frag} {H:Hp} {a:Addr} {ds:L2S} {es:List Int} (h:HsT K H a ds es): ∃ (d e:Addr),SqT K H a [.ref d, .ref e]/\SqT K H e (es.map V.int)/\ ∃rs:List Addr,SqT K H d (rs.map V.ref)/\rs.length=ds.length/\ ∀ {r:Int},0<=r->r<ds.length-> ∃b,qW (rs.map V.ref) r=some (.ref b)/\DrT K H b (ds.getD r.toNat []):=by
 obtain ⟨d,e,rs,h1,rfl,h3,h4,h5⟩:=h;refine ⟨d,e,SqT.of h1,SqT.of h5,rs.map (·.1),by rw [Zk];exact SqT.of h3,by simp,λ {r} h0 hr=> ?_⟩;rw [Qr] at hr;have hl:r.toNat<rs.length:=by rfl'
 refine ⟨rs[r.toNat].1,?_,?_⟩
 ·rw [wN h0 (by simpa using hl)];simp
 ·rw [Hs.getD_at h0 (by rw [Qr];exact hr),Xf];exact h4 _ (Zl hl)
end L2
namespace Hs
open PySem L2
def Bd:Str:=Str.ofString " !\"#$&'()*+,-./0123456789:;<=>?@ABCDEFGHIJKLMNOPQRSTUVWXYZ[\\]^_`"++Str.ofString "abcdefghijklmnopqrstuvwxyz{|}~"
def El (n:Int):Nat:=Bd.cps.toList.getD (n%94).toNat 0
def Sg (s:Str):Prop:= ∃n:Int,s=tx [El n]
def RowOk (many i:Nat) (r:List (Addr×Str×Int)):Prop:=(r.map (·.2.1)).Nodup/\r.length<=i/\ ∀z∈r,Sg z.2.1/\0<=z.2.2/\z.2.2<many
theorem RowOk.more {many i j:Nat} {r:List (Addr×Str×Int)} (h:RowOk many i r) (e:i<=j):RowOk many j r:=⟨h.1,Zw h.2.1 e,h.2.2⟩
end Hs
namespace L2
open PySem
abbrev Dz:=Addr×Str×Int
def Rws (H:Hp) (rows:List (Addr×List Dz)):Prop:=(rows.map (·.1)).Nodup/\ ∀row∈rows,H row.1=some (.lst (row.2.map λ z:Dz=>V.ref z.1))/\ ∀z∈row.2,H z.1=some (.tup [.str z.2.1, .int z.2.2])
theorem Rws.same {H H':Hp} {rows:List (Addr×List Dz)} (h:Rws H rows) (s:Same H H'):Rws H' rows:=⟨h.1,λ row hr=>⟨s.get (h.2 row hr).1,λ z hz=>s.get ((h.2 row hr).2 z hz)⟩⟩
theorem Rws.setO {H:Hp} {rows:List (Addr×List Dz)} {l:Addr} {xs ys:List V} (h:Rws H rows) (e:H l=some (.lst xs)) (n:l∉rows.map (·.1)):Rws (upd H l (.lst ys)) rows:=⟨h.1,λ row hr=>⟨by
 rw [aD (λ q:row.1=l=>n (q▸Zc.mpr ⟨row,hr,rfl⟩))];exact (h.2 row hr).1,λ z hz=>by
 rw [aD (du ((h.2 row hr).2 z hz) e (by intro q;cases q))];exact (h.2 row hr).2 z hz⟩⟩
theorem nM {rows:List (Addr×List Dz)} {j:Nat} (hj:j<rows.length) (ys:List Dz):(rows.set j (rows[j].1,ys)).map (·.1)=rows.map (·.1):=by
 apply List.ext_getElem?;intro k;rw [Zg,Zg,List.getElem?_set];by_cases e:j=k
 ·subst e;rw [if_pos rfl,if_pos hj,Qb hj];rfl
 ·rw [if_neg e]
theorem Rws.app {H:Hp} {rows:List (Addr×List Dz)} {j:Nat} {t:Addr} {s:Str} {r:Int} (h:Rws H rows) (hj:j<rows.length) (ht:H t=some (.tup [.str s, .int r])):
  Rws (upd H rows[j].1 (.lst ((rows[j].2++[(t,s,r)]).map λ z:Dz=>V.ref z.1))) (rows.set j (rows[j].1,rows[j].2++[(t,s,r)])):=by
 refine ⟨by rw [nM hj];exact h.1,λ row hr=> ?_⟩;have hjm:rows[j]∈rows:=Zl hj;have hl:=(h.2 _ hjm).1;rcases List.mem_or_eq_of_mem_set hr with m | rfl
 ·obtain ⟨k,hk,e⟩:=Zu.mp hr;rw [List.getElem_set] at e;by_cases q:j=k
  ·rw [if_pos q] at e;subst e;refine ⟨au,λ z hz=> ?_⟩;rcases Zv.mp hz with w | w
   ·rw [aD (du ((h.2 _ hjm).2 z w) hl (by intro q;cases q))];exact (h.2 _ hjm).2 z w
   ·rw [Ze.mp w];rw [aD (du ht hl (by intro q;cases q))];exact ht
  ·rw [if_neg q] at e;subst e;rw [List.length_set] at hk;have na:rows[k].1≠rows[j].1:=by
    intro z;have:=(List.getElem_inj (h₀:=by simpa using hk) (h₁:=by simpa using hj) h.1).mp (by rw [Xf,Xf];exact z);exact q this.symm
   have hkm:rows[k]∈rows:=Zl hk;refine ⟨by rw [aD na];exact (h.2 _ hkm).1,λ z hz=> ?_⟩;rw [aD (du ((h.2 _ hkm).2 z hz) hl (by intro q;cases q))];exact (h.2 _ hkm).2 z hz
 ·refine ⟨au,λ z hz=> ?_⟩;rcases Zv.mp hz with w | w
  ·rw [aD (du ((h.2 _ hjm).2 z w) hl (by intro q;cases q))];exact (h.2 _ hjm).2 z w
  ·rw [Ze.mp w];rw [aD (du ht hl (by intro q;cases q))];exact ht
section
variable {σ:St} {H:Hp} {Q:VK} {g:TG} {κ:List (Option Nat)} {te:TE} {K:W.Frag}
theorem KH {n:Int} (m:Nat) (e:n.toNat=m) (hm:m<=1000000) (hn: -1000000000<=n)
  (hs: ∀ (i:Nat) H',i<m-> ∀ (A:VK),(∀p,H' p=none->A (.ref p) (upd H' p (.lst [])))->g (.int (i:Int)) (cap κ σ) H' λ σ2 H2=>qp (cap κ σ) σ2/\te σ2 H2 A)
  (hd: ∀p H' (as:List Addr),Same H H'->H p=none->as.length=m->as.Nodup->p∉as->(∀a∈as,H a=none/\H' a=some (.lst []))->H' p=some (.lst (as.map V.ref))->Q (.ref p) H'):iR (G7 κ g eY te σ Q) [.int n] H:=by
 refine Ks m e hm hn (λ i ys H'=> ∃as:List Addr,ys=as.map V.ref/\as.length=i/\as.Nodup/\Same H H'/\ ∀a∈as,H a=none/\H' a=some (.lst [])) ⟨[],rfl,rfl,List.nodup_nil,Same.refl H,by simp⟩ ?_ ?_ ?_
 ·rintro i ys H' ⟨as,rfl,rfl,_⟩;simp
 ·rintro i ys H' hi ⟨as,rfl,rfl,nd,sH,ha⟩;have q:=hs as.length H' hi (λ y H4=> ∃as2:List Addr,as.map V.ref++[y]=as2.map V.ref/\as2.length=as.length+1/\as2.Nodup/\Same H H4/\ ∀a∈as2,H a=none/\H4 a=some (.lst [])) λ p hp=>by
   refine ⟨as++[p],by simp,by simp,?_,sH.new hp,λ a m=> ?_⟩
   ·rw [Yq];refine ⟨nd,by simp,λ a m b mb e=> ?_⟩;rw [Ze.mp mb] at e;subst e;rw [(ha a m).2] at hp;cases hp
   ·rcases Zv.mp m with m | m
    ·exact ⟨(ha a m).1,aO hp (ha a m).2⟩
    ·rw [Ze.mp m];exact ⟨sH.free hp,au⟩
  simpa only [eY,if_true] using q
 ·rintro ys H' ⟨as,rfl,el,nd,sH,ha⟩ p hp;refine hd p _ as (sH.new hp) (sH.free hp) el nd (λ m=> ?_) (λ a m=>⟨(ha a m).1,aO hp (ha a m).2⟩) au;rw [(ha p m).2] at hp;cases hp
theorem sI {α β:Type} {g:α->β} {l out:List β} (h:l.Perm out): ∀ {zs:List α},l=zs.map g-> ∃ws:List α,ws.Perm zs/\out=ws.map g:=by
 induction h with
 | nil=>intro zs e;exact ⟨zs, .refl _,e⟩
 | cons x _ ih=>
  intro zs e
  cases zs with
  | nil=>cases e
  | cons z zs=>
   rw [Zz] at e;injection e with e1 e2
   obtain ⟨ws,p,q⟩:=ih e2;exact ⟨z::ws,p.cons z,by rw [Zz,q,e1]⟩
 | swap x y l=>
  intro zs e
  match zs,e with
  | z1::z2::r,e=>
   rw [Zz,Zz] at e;injection e with e1 e2
   injection e2 with e2 e3
   exact ⟨z2::z1::r, .swap _ _ _,by rw [Zz,Zz,e1,e2,e3]⟩
 | trans _ _ ih1 ih2=>
  intro zs e;obtain ⟨ws,p,q⟩:=ih1 e;obtain ⟨us,p',q'⟩:=ih2 q;exact ⟨us,p'.trans p,q'⟩
theorem mK {α β:Type} {g:α->β} {ws:List β} {zs:List α} (h:ws.Perm (zs.map g)): ∃vs:List α,vs.Perm zs/\ws=vs.map g:=sI h.symm rfl
theorem HD {a:Addr} {zs:List Dz} (hx:SqL K H a (zs.map λ z=>V.ref z.1)) (hz: ∀z∈zs,SqT K H z.1 [.str z.2.1, .int z.2.2]) (hd:(zs.map (·.2.1)).Nodup) (h64:zs.length<64)
  (h: ∀r (ws:List Dz),ws.Perm zs->(ws.map (·.2.1)).Pairwise (λ a b=>a.cps.toList<b.cps.toList)->H r=none->Q (.ref r) (upd H r (.lst (ws.map λ z=>V.ref z.1)))):oK K [.ref a] H Q:=by
 refine Hy (zs:=zs.map λ z:Dz=>(z.1,z.2.1,[V.int z.2.2])) (by rw [Zk];exact hx) (λ z m=> ?_) (by rw [Zk];exact hd) (by rw [Qr];exact h64) λ r ws hp hs hr=> ?_
 ·obtain ⟨y,my,rfl⟩:=Zc.mp m;exact hz y my
 ·obtain ⟨vs,pv,rfl⟩:=mK hp;rw [Zk] at hs;have:=h r vs pv hs hr;rw [Zk];exact this
end
end L2
namespace Hs
theorem KJ (n:Int):El n<1114112:=by
 unfold El;have h: ∀c∈Bd.cps.toList,c<1114112:=by ac_nf
 rw [Zb]
 cases e:Bd.cps.toList[(n%94).toNat]? with
 | none=>decide
 | some c=>exact h c (Zj e)
end Hs
namespace L2
open PySem
abbrev Lz:=Addr×Str×Addr×List Nat
abbrev nv (xs:List Nat):List V:=xs.map λ i:Nat=>V.int (i:Int)
def TV (K:W.Frag) (H:Hp) (a:Addr) (ht:Nat) (ls:List (Str×List Nat)):Prop:= ∃ (l:Addr) (zs:List Lz),H a=some (.tup [.int (ht:Int), .ref l])/\zs.map (λ z:Lz=>(z.2.1,z.2.2.2))=ls/\SqT K H l (zs.map λ z:Lz=>V.ref z.1)/\ ∀z∈zs,H z.1=some (.tup [.str z.2.1, .ref z.2.2.1])/\H z.2.2.1=some (.tup (nv z.2.2.2))
def TX (K:W.Frag) (H:Hp) (a:Addr) (ht:Nat) (ls:List (Str×List Nat)):Prop:= ∃ (l:Addr) (ob:PySem.Obj) (zs:List Lz),H a=some (.tup [.int (ht:Int), .ref l])/\zs.map (λ z:Lz=>(z.2.1,z.2.2.2))=ls/\ob.dict=none/\H l=some (.frz ob (.tup (zs.map λ z:Lz=>V.ref z.1)))/\ ∀z∈zs,H z.1=some (.tup [.str z.2.1, .ref z.2.2.1])/\H z.2.2.1=some (.tup (nv z.2.2.2))
end L2
namespace Fo
open PySem L2
def lk (ls:List (Str×List Nat)) (s:Str):Option (List Nat):=(ls.find? λ p=>decide (p.1=s)).map (·.2)
def cl (ls:List (Str×List Nat)) (c:Nat):List Nat:=(lk ls (tx [c])).getD []
structure Wf (ht:Nat) (ls:List (Str×List Nat)):Prop where
 pos:0<ls.length
 le:ls.length<=40
 up:(ls.map (·.1)).Pairwise gY
 sg: ∀p∈ls,Hs.Sg p.1
 c1: ∀p∈ls,1<=p.2.length/\p.2.length<=8
 cb: ∀p∈ls,∀x∈p.2,x<2^ht
end Fo
namespace L2
open PySem
abbrev Kz:=Str×Addr×List Nat
def Tj (kvs:List Kz):List (Key×V):=kvs.map λ p:Kz=>(Sum.inr p.1,V.ref p.2.1)
section
variable {σ:St} {H:Hp} {Q:VK} {D:Ends} {K:W.Frag} {g:TG} {κ:List (Option Nat)} {tc:TT} {te:TE}
theorem Em {a:Addr} {kvs:List (Str×V)} (e:H a=some (.dK (kvs.map λ p=>(Sum.inr p.1,p.2)))) (h64:kvs.length<64) (h: ∀r (ns:List Str),ns.Perm (kvs.map (·.1))->ns.Pairwise gY->H r=none->Q (.ref r) (upd H r (.lst (ns.map V.str)))):rM [.ref a] H Q:=⟨a,kvs,rfl,e,h64,h⟩
theorem En {a:Addr} {kvs:List (Int×V)} (e:H a=some (.dK (kvs.map λ p=>(Sum.inl p.1,p.2)))) (h64:kvs.length<64) (h: ∀r (ns:List Int),ns.Perm (kvs.map (·.1))->ns.Pairwise (· < ·)->H r=none->Q (.ref r) (upd H r (.lst (ns.map V.int)))):rN [.ref a] H Q:=⟨a,kvs,rfl,e,h64,h⟩
theorem KN {i j:Int} {m n:Nat} (hi:PySem.Builtin.Int.intBits i<=m) (hj:PySem.Builtin.Int.intBits j<=n) (h:m+n<=134217728) (q:Q (.int (i*j)) H):ww (.int i) (.int j) H Q:=⟨i,j,rfl,rfl,PyProof.Rows.mulOk_of_bits hi hj h,q⟩
theorem Eo {i:Int} {k n:Nat} (hk:0<k) (h:PySem.Builtin.Int.intBits i<=n):PySem.Builtin.Int.intBits (i / (k:Int))<=n:=by
 refine PyProof.Rows.bits_of_natAbs_le ?_ h;have h1:=Int.mul_ediv_add_emod i k;have h2:=Wp i (show (k:Int)≠0 by rfl');have h3:=Wh i (show 0<(k:Int) by rfl');generalize i / (k:Int)=q at h1 ⊢;generalize i%(k:Int)=r at*;rcases (show q<0\/0<=q by rfl') with hq | hq
 ·have:(k:Int)*q<=q:=by
   have:=Int.mul_le_mul_of_nonpos_right (show (1:Int)<=k by rfl') (Int.le_of_lt hq);rfl'
  have h4:(k:Int)*q<=(k:Int)*(-1):=Int.mul_le_mul_of_nonneg_left (by rfl') (by rfl');rcases (show (k:Int)*q+r<0\/0<=(k:Int)*q+r by rfl') with h5 | h5
  ·by_cases h6:q= -1
   ·rfl'
   ·have h7:((k:Int)-1)*(q+1)<=0:=Int.mul_nonpos_of_nonneg_of_nonpos (by rfl') (by rfl');have h8:((k:Int)-1)*(q+1)=(k:Int)*q+k-q-1:=by
     rw [Int.sub_mul,Int.mul_add,Int.mul_one,Int.one_mul];rfl'
    rfl'
  ·rfl'
 ·have:q<=(k:Int)*q:=by
   have:=Int.mul_le_mul_of_nonneg_right (show (1:Int)<=k by rfl') hq;rfl'
  rfl'
theorem TupK.sq {a:Addr} {xs:List V} (h:TupK K a xs):SqT K H a xs:= .inr h
end
section
variable {σ:St} {H:Hp} {D:Ends} {u:TS}
theorem KQ {te:TE} {g:TG} (h:b7 te g { D with nx:=u D } σ H):aN (b7 te g) u D σ H:=h
end
theorem wU (a:Str): ¬gY a a:=List.lt_irrefl _
theorem Ep {ns:List Str} (h:ns.Pairwise gY):ns.Nodup:=List.Pairwise.imp (S:=λ a b=>a≠b) (λ {a b} (z:gY a b) (e:a=b)=>wU a (by rw [<- e] at z;exact z)) h
section
variable {σ:St} {H:Hp} {Q:VK} {D:Ends} {K:W.Frag} {g:TG} {κ:List (Option Nat)} {tc:TT} {te:TE}
theorem Q0 {α:Type} (c:α->V) {a:Addr} {zs:List α} (hx:SqT K H a (zs.map c)) (hn:zs.length<=1000000) (Pv:Nat->List V->Hp->Prop) (h0:Pv 0 [] H) (hl: ∀i ys H',Pv i ys H'->SqT K H' a (zs.map c)) (hz: ∀i ys H',Pv i ys H'->ys.length<=i)
  (hs: ∀ (i:Nat) z ys H',zs[i]? =some z->Pv i ys H'->g (c z) (cap κ σ) H' λ σ2 H2=>qp (cap κ σ) σ2/\tc σ2 H2 λ b H3=>if b=true then te σ2 H3 λ y H4=>Pv (i+1) (ys++[y]) H4 else Pv (i+1) ys H3)
  (hd: ∀ys H',Pv zs.length ys H'-> ∀p,H' p=none->Q (.ref p) (upd H' p (.lst ys))):iT K (G7 κ g tc te σ Q) (.ref a) H:=by
 refine ⟨a,rfl,⟨_,hx⟩,λ i m ys H'=>m=zs.length-i/\i<=zs.length/\Pv i ys H',⟨zs.length,by simp,Yu _,h0⟩,?_⟩;rintro i m ys H' ⟨rfl,hi,p⟩;have q:=hl i ys H' p;by_cases hlt:i<zs.length
 ·have ex:zs[i]? =some zs[i]:=Qb hlt;refine .inr ⟨⟨_,c zs[i],q,by rw [Zg,ex];rfl⟩,?_,λ zs' H''=>Pv (i+1) zs' H'',λ zs' H'' p'=>⟨zs.length-(i+1),by rfl',rfl,hlt,p'⟩,λ x H'' y=> ?_⟩
  ·exact Xa (hz i ys H' p) (Zs hlt (Zw hn (by decide)))
  ·obtain ⟨e,y⟩:=y;subst e;have e1:=y _ q;rw [Zg,ex] at e1
   cases e1;exact hs i _ ys _ ex p
 ·have e:i=zs.length:=by rfl'
  subst e;exact .inl ⟨⟨_,q,by simp⟩,λ p' hp=>hd ys H' p p' hp⟩
end
end L2
namespace Hs
open PySem L2
theorem uniq {α:Type} {R:α->α->Prop} (as: ∀a b,R a b->R b a->False): ∀ {l1 l2:List α},l1.Perm l2->l1.Pairwise R->l2.Pairwise R->l1=l2
 | [],l2,h,_,_=>by rw [List.nil_perm] at h;exact h.symm
 | a :: t, l2, h, h1, h2 => by
  cases l2 with
  | nil=>exact absurd h.symm (by intro z;rw [List.nil_perm] at z;cases z)
  | cons b u=>
   have e:a=b:=by
    rcases Zp.mp (h.mem_iff.mp Zy) with e | m
    ·exact e
    ·rcases Zp.mp (h.mem_iff.mpr Zy) with e | m'
     ·exact e.symm
     ·exact (as _ _ ((List.pairwise_cons.mp h1).1 b m') ((List.pairwise_cons.mp h2).1 a m)).elim
   subst e;rw [uniq as h.cons_inv (List.pairwise_cons.mp h1).2 (List.pairwise_cons.mp h2).2]
theorem Aw (a b:Str) (h:gY a b) (h':gY b a):False:=List.lt_irrefl _ (List.lt_trans h h')
theorem Er {p1 p2 p:L1S} (h1:p1.Perm p) (s1:(p1.map (·.1)).Pairwise gY) (h2:p2.Perm p) (s2:(p2.map (·.1)).Pairwise gY):p1=p2:=
 uniq (R:=λ a b=>gY a.1 b.1) (λ _ _=>Aw _ _) (h1.trans h2.symm) (Xl.mp s1) (Xl.mp s2)
theorem Es {p1 p2 p:List Int} (h1:p1.Perm p) (s1:p1.Pairwise (· < ·)) (h2:p2.Perm p) (s2:p2.Pairwise (· < ·)):p1=p2:=
 uniq (λ a b (h:a<b) h'=>by rfl') (h1.trans h2.symm) s1 s2
theorem HF {l:List Int} (h:l.Pairwise (· <= ·)) (n:l.Nodup):l.Pairwise (· < ·):=by
 refine List.Pairwise.imp (R:=λ a b=>a<=b/\a≠b) (λ {a b} z=>by rfl') (List.Pairwise.and h n)
def Srt (rows:List (Addr×List Dz)) (ds:L2S):Prop:=ds.length=rows.length/\ ∀ (j:Nat) ps row,ds[j]? =some ps->rows[j]? =some row->ps.Perm (row.2.map (·.2))/\(ps.map (·.1)).Pairwise gY
theorem Srt.uniq {rows:List (Addr×List Dz)} {d1 d2:L2S} (h1:Srt rows d1) (h2:Srt rows d2):d1=d2:=by
 apply List.ext_getElem?;intro j;by_cases hj:j<rows.length
 ·have e0:=Qb hj;have e1:d1[j]? =some (d1[j]'(by rw [h1.1];exact hj)):=Qb _;have e2:d2[j]? =some (d2[j]'(by rw [h2.1];exact hj)):=Qb _;obtain ⟨a1,a2⟩:=h1.2 j _ _ e1 e0;obtain ⟨b1,b2⟩:=h2.2 j _ _ e2 e0;rw [e1,e2,Er a1 a2 b1 b2]
 ·rw [Yb (by rw [h1.1];rfl'),Yb (by rw [h2.1];rfl')]
end Hs
namespace L2
open PySem
theorem DrT.of {K:W.Frag} {H:Hp} {t:Addr} {zs:List (Addr×Str×V)} {ps:L1S} (h1:H t=some (.tup (zs.map λ z=>V.ref z.1))) (h2: ∀z∈zs,H z.1=some (.tup [.str z.2.1,z.2.2])) (e:zs.map (·.2)=ps.map λ p=>(p.1,V.int p.2)):DrT K H t ps:=by
 refine ⟨(zs.zip ps).map λ q=>(q.1.1,q.2.1,q.2.2),?_,?_,?_⟩
 ·rw [Zk];show (zs.zip ps).map (λ q=>q.2)=ps;rw [List.map_snd_zip (by have:=Yn List.length e;simp at this;rfl')]
 ·rw [Zk];have:(zs.zip ps).map ((λ z:Addr×Str×Int=>V.ref z.1)∘λ q=>(q.1.1,q.2.1,q.2.2))=((zs.zip ps).map (·.1)).map λ z=>V.ref z.1:=by rw [Zk];rfl
  rw [this,List.map_fst_zip (by have:=Yn List.length e;simp at this;rfl')];exact h1
 ·intro z hz;obtain ⟨q,hq,rfl⟩:=Zc.mp hz;obtain ⟨i,hi,eq⟩:=Zu.mp hq;rw [List.getElem_zip] at eq;have hl:i<zs.length/\i<ps.length:=by rw [List.length_zip] at hi;rfl'
  have e1:zs[i].2=(ps[i].1,V.int ps[i].2):=by
   have:=Yn (λ l=>l[i]?) e;simp only [Zg,Qb hl.1,Qb hl.2,Option.map_some] at this;exact Zx this
  rw [<- eq];have:=h2 _ (Zl hl.1);rw [e1] at this;exact this
section
variable {σ:St} {H:Hp} {Q:VK} {D:Ends} {K:W.Frag}
theorem v6 {td:TE} (h:td σ H λ x H1=> ∃ (a:Addr) (kvs:List (Str×V)),x= .ref a/\H1 a=some (.dK (kvs.map λ p=>(Sum.inr p.1,p.2)))/\kvs.length<64/\ ∀r (zs:List (Addr×Str×V)) (H2:Hp),(zs.map (·.2)).Perm kvs->(zs.map (·.2.1)).Pairwise gY->H1 r=none->Same H1 H2->H2 r=some (.lst (zs.map λ z=>V.ref z.1))->(∀z∈zs,H2 z.1=some (.tup [.str z.2.1,z.2.2]))->Q (.ref r) H2):rO td σ H Q:=h
theorem Q3 {a:Addr} {bs:List Bool} (e:SqL K H a (bs.map V.bl)) (h:Q (.bl (bs.any id)) H):Hr K [.ref a] H Q:=⟨a,bs,rfl,e,h⟩
theorem KR {a:Addr} {kvs:List (List Key×V)} (e:H a=some (.dT kvs)) (h:Q (.int kvs.length) H):Dq [.ref a] H Q:=⟨a,kvs,rfl,e,h⟩
theorem KY {a:Addr} {kvs:List (Key×V)} (e:Rd H a (.dK kvs)) (h:Q (.int kvs.length) H):Dm [.ref a] H Q:=⟨a,kvs,rfl,e,h⟩
theorem Ax {a:Addr} {ss:List Str} (e:SqL K H a (ss.map V.str)) (h64:ss.length<64) (h: ∀r (ns:List Str),ns.Nodup->(∀y,y∈ns↔y∈ss)->ns.Pairwise gY->H r=none->Q (.ref r) (upd H r (.lst (ns.map V.str)))):jO K [.ref a] H Q:=⟨a,ss,rfl,e,h64,h⟩
end
theorem v7 {α:Type} {f:α->Key} {g:α->V} {zs:List α} {k:Key} (h:k∉zs.map f):dh (zs.map λ z=>(f z,g z)) k=none:=by
 induction zs with
 | nil=>rfl
 | cons z r ih=>
  rw [Zz] at h ⊢;rw [fM (λ e=>h (by rw [<- e];exact Zy))];exact ih (λ m=>h (Zr _ m))
def TY (K:W.Frag) (H:Hp) (a:Addr) (ht:Nat) (ls:List (Str×List Nat)):Prop:= ∃ (l:Addr) (zs:List Lz),H a=some (.tup [.int (ht:Int), .ref l])/\zs.map (λ z:Lz=>(z.2.1,z.2.2.2))=ls/\H l=some (.tup (zs.map λ z:Lz=>V.ref z.1))/\ ∀z∈zs,H z.1=some (.tup [.str z.2.1, .ref z.2.2.1])/\H z.2.2.1=some (.tup (nv z.2.2.2))
def U0 (ht:Nat) (ls:List (Str×List Nat)):PyData:= .tuple [.int (ht:Int), .tuple (ls.map λ p=> .tuple [.str p.1, .tuple ((p.2.map λ i:Nat=>(i:Int)).map PyData.int)])]
def U3 (H:Hp) (p:Addr) (zs:List Lz):Prop:=H p=some (.lst (zs.map λ z:Lz=>V.ref z.1))/\ ∀z∈zs,H z.1=some (.tup [.str z.2.1, .ref z.2.2.1])/\H z.2.2.1=some (.lst (nv z.2.2.2))
def U4 (ls:List (Str×List Nat)):PyData:= .list (ls.map λ p=> .tuple [.str p.1, .list ((p.2.map λ i:Nat=>(i:Int)).map PyData.int)])
end L2
namespace Fo
open PySem L2
structure GoodL (ht:Nat) (zs:List Lz):Prop where
 pos:1<=zs.length
 le:zs.length<=40
 nd:(zs.map λ z:Lz=>z.2.1).Nodup
 sg: ∀z∈zs,Hs.Sg z.2.1
 c1: ∀z∈zs,1<=z.2.2.2.length/\z.2.2.2.length<=8
 cb: ∀z∈zs,∀x∈z.2.2.2,x<2^ht
def Of (zs:List Lz) (ls:List (Str×List Nat)):Prop:=ls.Perm (zs.map λ z:Lz=>(z.2.1,z.2.2.2))/\(ls.map (·.1)).Pairwise gY
end Fo
namespace L2
open PySem
abbrev Gz:=Addr×V×Addr×List V
def U5 (H:Hp) (p:Addr) (gs:List Gz):Prop:=H p=some (.lst (gs.map λ g:Gz=>V.ref g.1))/\ ∀g∈gs,H g.1=some (.tup [g.2.1, .ref g.2.2.1])/\H g.2.2.1=some (.lst g.2.2.2)/\Thing H g.2.1/\(∀v∈g.2.2.2,Thing H v)/\g.2.2.2.length<=1000
def U6 (z:Lz):Gz:=(z.1,V.str z.2.1,z.2.2.1,nv z.2.2.2)
theorem Et {H:Hp} {Q:VK} {c:Int} {n m:Nat} (h0:0<n) (e:c%(n:Int)=(m:Int)) (h:Q (.int (m:Int)) H):bZ (.int c) (.int (n:Int)) H Q:=⟨c,n,rfl,rfl,by rfl',by show Q (.int (c%(n:Int))) H;rw [e];exact h⟩
theorem wV {H:Hp} {Q:VK} {i j:Int} (h1: -1000000000000<i) (h2:i<1000000000000) (h:Q (.int (i*j)) H):jL (.int i) (.int j) H Q:=⟨i,j,rfl,rfl, .inl ⟨by rfl',by rfl'⟩,h⟩
section
variable {σ:St} {H:Hp} {Q:VK} {D:Ends} {K:W.Frag} {g:TG} {tb:TS} {κ:List (Option Nat)} {tc:TT} {te:TE}
def U7 (K:W.Frag) (R:It->Hp->Prop) (vs:List V) (H:Hp):Prop:= ∃a b xs ys,vs=[.ref a, .ref b]/\SqT K H a xs/\SqL K H b ys/\R (Ob K a b) H
def U8 (R:It->Hp->Prop) (vs:List V) (H:Hp):Prop:= ∃i j:Int,vs=[.int i, .int j, .int (-1)]/\(-(2^62)<=i/\i<2^62/\ -(2^62)<=j/\j<2^62)/\R (Oc i (i-j).toNat) H
def U9 (K:W.Frag) (R:It->Hp->Prop) (vs:List V) (H:Hp):Prop:= ∃a b xs ys,vs=[.ref a, .ref b]/\SqL K H a xs/\SqT K H b ys/\R (Oo K a b) H
def Ua (K:W.Frag) (R:It->Hp->Prop) (vs:List V) (H:Hp):Prop:= ∃a xs,vs=[.ref a]/\SqL K H a xs/\R (Og K a xs.length) H
def Ub (K:W.Frag) (R:It->Hp->Prop) (vs:List V) (H:Hp):Prop:= ∃a xs,vs=[.ref a]/\SqT K H a xs/\R (Oi K a xs.length) H
end
theorem ar1 {α:Type} {P:List α->Prop} (h: ∀a0:α,P [a0]): ∀us:List α,us.length=1->P us
 | [a0],_=>h a0
theorem ar2 {α:Type} {P:List α->Prop} (h: ∀a0 a1:α,P [a0,a1]): ∀us:List α,us.length=2->P us
 | [a0,a1],_=>h a0 a1
theorem Ny {α:Type} {P:List α->Prop} (h: ∀a0 a1 a2:α,P [a0,a1,a2]): ∀us:List α,us.length=3->P us
 | [a0,a1,a2],_=>h a0 a1 a2
theorem Tp {α:Type} {P:List α->Prop} (h: ∀a0 a1 a2 a3:α,P [a0,a1,a2,a3]): ∀us:List α,us.length=4->P us
 | [a0,a1,a2,a3],_=>h a0 a1 a2 a3
theorem Rm {α:Type} {P:List α->Prop} (h: ∀a0 a1 a2 a3 a4:α,P [a0,a1,a2,a3,a4]): ∀us:List α,us.length=5->P us
 | [a0,a1,a2,a3,a4],_=>h a0 a1 a2 a3 a4
theorem Ro {α:Type} {P:List α->Prop} (h: ∀a0 a1 a2 a3 a4 a5:α,P [a0,a1,a2,a3,a4,a5]): ∀us:List α,us.length=6->P us
 | [a0,a1,a2,a3,a4,a5],_=>h a0 a1 a2 a3 a4 a5
structure RefN (K:W.Frag) (C B D1 D2:Addr):Prop where
 ex:ExcK K C
 em:PySem.W.exmOne K (.ref C) (.ref C)=some true
 kb:PySem.W.kitOne K (.ref C) (.ref B)=some true
 kv:PySem.W.kitOne K (.ref C) (.type "ValueError")=some true
 k1:PySem.W.kitOne K (.ref C) (.ref D1)=some false
 k2:PySem.W.kitOne K (.ref C) (.ref D2)=some false
namespace Tn
def dv (cs:List Nat):Nat:=PySem.NumText.digitsVal cs
def Rp (c:Nat):List Nat->List (List Nat)
 | []=>[[]]
 | x::r=>if x=c then []::Rp c r else match Rp c r with
  | []=>[[x]]
  | p::ps=>(x::p)::ps
def Eu (c:Nat):List (List Nat)->List Nat
 | []=>[]
 | [p]=>p
 | p::q::r=>p++c::Eu c (q::r)
end Tn
theorem Q4 (cs:List Nat) (c:Nat):(Txt.find (tx cs) ⟨#[c]⟩= -1/\c∉cs)\/ ∃i:Nat,Txt.find (tx cs) ⟨#[c]⟩=(i:Int)/\cs[i]? =some c:=by
 unfold Txt.find
 cases h:PySem.Builtin.Str.occurrences (tx cs) ⟨#[c]⟩ 0 (tx cs).length 1 with
 | nil=>
  have h1:=StrLaws.found_one (tx cs) c;rw [h,p7] at h1;exact .inl ⟨rfl,of_decide_eq_false h1.symm⟩
 | cons i r=>
  have hs:=StrLaws.occ_spec (tx cs) ⟨#[c]⟩ 0 (tx cs).length 1 i (by rw [h];exact .head _);refine .inr ⟨i,rfl,?_⟩;have h2:(PySem.Builtin.Str.strSub (tx cs) i (i+1)).cps= #[c]:=eq_of_beq hs.2;have h3:i+1<=cs.length:=by rw [<- bw cs];exact hs.1
  have h4:=Yn (λ a:Array Nat=>a[0]?) h2;dsimp only [PySem.Builtin.Str.strSub] at h4;rw [Array.getElem?_extract] at h4;simp [tx,show i<cs.length by rfl'] at h4;rw [Qb (by rfl'),h4.2]
structure RefC (K:W.Frag) (C B D1 D2:Addr) (b1 b2:Bool):Prop where
 ex:ExcK K C
 em:PySem.W.exmOne K (.ref C) (.ref B)=some true
 kv:PySem.W.kitOne K (.ref C) (.type "ValueError")=some true
 k1:PySem.W.kitOne K (.ref C) (.ref D1)=some b1
 k2:PySem.W.kitOne K (.ref C) (.ref D2)=some b2
def Rq (R:It->Hp->Prop):V->Hp->Prop:=λ x H1=> ∃a kvs,x= .ref a/\((H1 a=some (.dK kvs)/\ ∀od,R (wg od a) (upd H1 a (.frz od (.dK kvs))))\/ ∃od,H1 a=some (.frz od (.dK kvs))/\R (wg od a) H1)
section
variable {σ:St} {H:Hp} {Q:VK} {D:Ends} {K:W.Frag} {g:TG} {κ:List (Option Nat)} {tc:TT} {te:TE}
theorem v8 {tl:TE} {R:It->Hp->Prop} (h:tl σ H (Rq R)):rT tl σ H R:=h
theorem HH {a:Addr} {kvs:List (Key×V)} (ea:Rd H a (.dK kvs)) (hn:kvs.length<=1000000)
  (hs: ∀ (z:Key×V) H',z∈kvs-> ∀ (A:VK),(∀p,H' p=none->A (.ref p) (upd H' p (.lst [])))->g (kV z.1) (cap κ σ) H' λ σ2 H2=>qp (cap κ σ) σ2/\te σ2 H2 A)
  (hd: ∀p od H1 H' (as:List Addr),Sb [a] H H1->H1 a=some (.frz od (.dK kvs))->Same H1 H'->H1 p=none->as.length=kvs.length->as.Nodup->p∉as->(∀b∈as,H1 b=none/\H' b=some (.lst []))->H' p=some (.lst (as.map V.ref))->Q (.ref p) H'):Rq (G7 κ g eY te σ Q) (.ref a) H:=by
 have key: ∀od H1,Sb [a] H H1->H1 a=some (.frz od (.dK kvs))->G7 κ g eY te σ Q (wg od a) H1:=by
  intro od H1 sb e1;refine ⟨λ i m ys H'=>m=kvs.length-i/\i<=kvs.length/\ ∃as:List Addr,ys=as.map V.ref/\as.length=i/\as.Nodup/\Same H1 H'/\ ∀b∈as,H1 b=none/\H' b=some (.lst []),⟨kvs.length,by simp,Yu _,[],rfl,rfl,List.nodup_nil,Same.refl _,by simp⟩,?_⟩;rintro i m ys H' ⟨rfl,hi,as,rfl,el,nd,sH,ha⟩;by_cases hlt:i<kvs.length
  ·have ez:kvs[i]? =some kvs[i]:=Qb hlt;refine .inr ⟨⟨kvs,sH.get e1,hlt⟩,Xa (show (as.map V.ref).length<=1000000 by rw [Qr];rfl') (by decide),λ zs' H''=> ∃as:List Addr,zs'=as.map V.ref/\as.length=i+1/\as.Nodup/\Same H1 H''/\ ∀b∈as,H1 b=none/\H'' b=some (.lst []),λ zs' H'' p'=>⟨kvs.length-(i+1),by rfl',rfl,hlt,p'⟩,λ v H'' y=> ?_⟩;obtain ⟨rfl,y2⟩:=y;obtain ⟨k,x,h1,rfl⟩:=y2 kvs (sH.get e1);have q:=hs (k,x) H'' (Zj h1) (λ y H4=> ∃as2:List Addr,as.map V.ref++[y]=as2.map V.ref/\as2.length=i+1/\as2.Nodup/\Same H1 H4/\ ∀a∈as2,H1 a=none/\H4 a=some (.lst [])) λ p hp=>by
    refine ⟨as++[p],by simp,by simp [el],?_,sH.new hp,λ a m=> ?_⟩
    ·rw [Yq];refine ⟨nd,by simp,λ a m b mb e=> ?_⟩;rw [Ze.mp mb] at e;subst e;rw [(ha a m).2] at hp;cases hp
    ·rcases Zv.mp m with m | m
     ·exact ⟨(ha a m).1,aO hp (ha a m).2⟩
     ·rw [Ze.mp m];exact ⟨sH.free hp,au⟩
   simpa only [eY,if_true] using q
  ·have ei:i=kvs.length:=by rfl'
   refine .inl ⟨⟨kvs,sH.get e1,by rfl'⟩,λ p hp=> ?_⟩;refine hd p od H1 _ as sb e1 (sH.new hp) (sH.free hp) (by rfl') nd (λ m=> ?_) (λ a m=>⟨(ha a m).1,aO hp (ha a m).2⟩) au;rw [(ha p m).2] at hp;cases hp
 rcases ea with e | ⟨od,e⟩
 ·refine ⟨a,kvs,rfl, .inl ⟨e,λ od=>key od _ ?_ au⟩⟩;intro b o nb q;rw [aD (by simpa using nb)];exact q
 ·exact ⟨a,kvs,rfl, .inr ⟨od,e,key od H (λ b o _ q=>q) e⟩⟩
theorem DGet.r {H:Hp} {a:Addr} {kvs:List (Key×V)} {k:Key} (e:Rd H a (.dK kvs)):DGet H a (kV k) (dh kvs k):= .inl ⟨kvs,k,e,rfl,rfl⟩
end
def kz (kvs:List Kz):List (Str×List Nat):=kvs.map λ p:Kz=>(p.1,p.2.2)
def Uc (H:Hp) (d:Addr) (ls:List (Str×List Nat)):Prop:= ∃kvs:List Kz,Rd H d (.dK (Tj kvs))/\(∀p∈kvs,H p.2.1=some (.tup (nv p.2.2)))/\(∀s,Fo.lk (kz kvs) s=Fo.lk ls s)
structure RefD (K:W.Frag) (C B D1 D2 D3:Addr) (b1 b2 b3:Bool) (ds es:List Addr):Prop where
 ex:ExcK K C
 em:PySem.W.exmOne K (.ref C) (.ref B)=some true
 k1:PySem.W.kitOne K (.ref C) (.ref D1)=some b1
 k2:PySem.W.kitOne K (.ref C) (.ref D2)=some b2
 k3:PySem.W.kitOne K (.ref C) (.ref D3)=some b3
 ka:PySem.W.kitAny K (.ref C) (ds.map Value.ref)=some false
 kb:PySem.W.kitAny K (.ref C) (es.map Value.ref)=some false
 kv:PySem.W.kitOne K (.ref C) (.type "ValueError")=some true
namespace Tn
structure GR (W:List Nat->Nat) (wide:Int) (ws rows:List (List Nat)):Prop where
 nil:rows=[]↔ws=[]
 eq:Eu 32 rows=Eu 32 ws
 ok: ∀r∈rows,r≠[]/\(W r:Int)<=wide
 mx: ∀k (h:k+1<rows.length),wide<(W (rows[k]++32::(Rp 32 rows[k+1]).headD []):Int)
end Tn
def KL (K:W.Frag) (C:Addr):List (Addr×Bool)->Prop
 | []=>True
 | p::r=>PySem.W.kitOne K (.ref C) (.ref p.1)=some p.2/\KL K C r
structure RefG (K:W.Frag) (C B:Addr) (ks:List (Addr×Bool)):Prop where
 ex:ExcK K C
 em:PySem.W.exmOne K (.ref C) (.ref B)=some true
 kv:PySem.W.kitOne K (.ref C) (.type "ValueError")=some true
 kl:KL K C ks
def KA (K:W.Frag) (C:Addr):List (List Addr)->Prop
 | []=>True
 | p::r=>PySem.W.kitAny K (.ref C) (p.map Value.ref)=some false/\KA K C r
structure RefH (K:W.Frag) (C B:Addr) (ks:List (Addr×Bool)) (ls:List (List Addr)):Prop where
 ex:ExcK K C
 em:PySem.W.exmOne K (.ref C) (.ref B)=some true
 kv:PySem.W.kitOne K (.ref C) (.type "ValueError")=some true
 kl:KL K C ks
 ka:KA K C ls
structure RefE (K:W.Frag) (C B D1 D2:Addr) (b1 b2:Bool) (ds:List Addr):Prop where
 ex:ExcK K C
 em:PySem.W.exmOne K (.ref C) (.ref B)=some true
 k1:PySem.W.kitOne K (.ref C) (.ref D1)=some b1
 k2:PySem.W.kitOne K (.ref C) (.ref D2)=some b2
 kv:PySem.W.kitOne K (.ref C) (.type "ValueError")=some true
 ka:PySem.W.kitAny K (.ref C) (ds.map Value.ref)=some false
def LL (H:Hp) (p:Addr) (rows:List (Addr×List Nat)):Prop:=H p=some (.lst (rows.map λ r:Addr×List Nat=>V.ref r.1))/\ ∀r∈rows,H r.1=some (.lst (nv r.2))
theorem KZ {H:Hp} {Q:VK} {c n:Nat} (h2:n<=1000) (h:Q (.str (tx (List.replicate n c))) H):lr (.str (tx [c])) (.int (n:Int)) H Q:=by
 have e:Txt.mul (tx [c]) (n:Int)=tx (List.replicate n c):=by
  have:=PyProof.Rows.mul_one_list c (n:Int);rw [Zi] at this;show _=tx _;rw [<- this];rfl
 refine ⟨_,_,rfl,rfl,?_,by rw [e];exact h⟩;refine ⟨?_,λ h3 _=> ?_,λ h3 _=> ?_⟩
 ·simp;rfl'
 ·rw [bw];have h5:(1000:Int)<=(2^63-1) / (n:Int):=(Int.le_ediv_iff_mul_le (by rfl')).mpr (by rfl');show ¬ (1:Int)>_;rfl'
 ·rw [bw,Zi];unfold Builtin.Str.tooLong;simp;have:(1000000:Nat)<=sizeLine:=by decide
  rfl'
section
variable {σ:St} {H:Hp} {Q:VK} {D:Ends} {K:W.Frag} {g:TG} {tb:TS}
def mdB (r:V->V->Hp->VK->Prop) (Q:VK) (vs ks:List V) (H:Hp):Prop:= ∃x y,vs=[x]/\ks=[y]/\r x y H Q
def Ud (K:W.Frag) (R:It->Hp->Prop) (vs ks:List V) (H:Hp):Prop:= ∃a xs o,vs=[.ref a]/\ks=[.int ((o:Nat):Int)]/\o<=1000000000/\SqL K H a xs/\R (RQ K a o) H
def SN (K:W.Frag) (R:It->Hp->Prop) (vs:List V) (H:Hp):Prop:= ∃a xs,vs=[.ref a]/\SqT K H a xs/\R (Kl K a) H
theorem Ew {ta:TA} {R:It->Hp->Prop} (h:ta σ H (SN K R)):rZ K ta σ H R:=h
theorem La {α:Type} (c:α->V) {a:Addr} {xs:List α} (hx:SqT K H a (xs.map c)) (Pv:Nat->St->Hp->Prop) (h0:Pv 0 σ H)
  (hk: ∀i σ H',Pv i σ H'->SqT K H' a (xs.map c))
  (hs: ∀ (i:Nat) x p σ H',xs[i]? =some x->Pv i σ H'->H' p=none->g (.ref p) σ (upd H' p (.tup [.int (i:Int),c x])) λ σ2 H2=>tb { D with nx:=Pv (i+1),ct:=Pv (i+1),bk:=D.nx } σ2 H2)
  (hd: ∀σ H',Pv xs.length σ H'->D.nx σ H'):SN K (pR g tb D σ) [.ref a] H:=by
 refine ⟨a,_,rfl,hx,λ i m σ H=>m=xs.length-i/\i<=xs.length/\Pv i σ H,⟨xs.length,by simp,Yu _,h0⟩,?_⟩;rintro i m σ H ⟨rfl,hi,p⟩;have q1:=hk i σ H p;by_cases hlt:i<xs.length
 ·have e1:(xs.map c)[i]? =some (c xs[i]):=by rw [Zg,Qb hlt];rfl
  refine .inr ⟨⟨_,_,q1,e1⟩,Pv (i+1),λ σ' H' p'=>⟨xs.length-(i+1),by rfl',rfl,hlt,p'⟩,λ v H' y=> ?_⟩;obtain ⟨r,x',hr,rfl,rfl,f1⟩:=y;have g1:=f1 _ q1;rw [e1] at g1
  cases g1;exact hs i _ r σ H (Qb hlt) p hr
 ·have e:i=xs.length:=by rfl'
  subst e;exact .inl ⟨⟨_,q1,by rw [Qr]⟩,hd σ H p⟩
def SQ (R:It->Hp->Prop) (vs ks:List V) (H:Hp):Prop:= ∃x o,vs=[.str x]/\ks=[.int ((o:Nat):Int)]/\o<=1000000000/\R (Kh x o) H
theorem Ex {ta tk:TA} {R:It->Hp->Prop} (h:ta σ H λ vs H1=>tk σ H1 λ ks H2=>SQ R vs ks H2):wz ta tk σ H R:=h
theorem Q5 {κ:List (Option Nat)} {tc:TT} {te:TE} {cs:List Nat} {o:Nat} (ho:o<=1000000000) (hn:cs.length<=1000000) (Pv:Nat->List V->Hp->Prop) (h0:Pv 0 [] H) (hz: ∀i ys H',Pv i ys H'->ys.length<=i)
  (hs: ∀ (i c:Nat) p ys H',cs[i]? =some c->Pv i ys H'->H' p=none->g (.ref p) (cap κ σ) (upd H' p (.tup [.int ((i+o:Nat):Int), .str (tx [c])])) λ σ2 H2=>qp (cap κ σ) σ2/\tc σ2 H2 λ b H3=>if b=true then te σ2 H3 λ y H4=>Pv (i+1) (ys++[y]) H4 else Pv (i+1) ys H3)
  (hd: ∀ys H',Pv cs.length ys H'-> ∀p,H' p=none->Q (.ref p) (upd H' p (.lst ys))):SQ (G7 κ g tc te σ Q) [.str (tx cs)] [.int ((o:Nat):Int)] H:=by
 refine ⟨tx cs,o,rfl,rfl,ho,λ i m ys H'=>m=cs.length-i/\i<=cs.length/\Pv i ys H',⟨cs.length,by simp,Yu _,h0⟩,?_⟩;rintro i m ys H' ⟨rfl,hi,p⟩;by_cases hlt:i<cs.length
 ·refine .inr ⟨hlt,?_,λ ys' H''=>Pv (i+1) ys' H'',λ ys' H'' p'=>⟨cs.length-(i+1),by rfl',rfl,hlt,p'⟩,λ x H'' y=> ?_⟩
  ·exact Xa (hz i ys H' p) (Zs hlt (Zw hn (by decide)))
  ·obtain ⟨r,c,hr,rfl,rfl,ec⟩:=y;exact hs i c r ys _ (by simpa [tx] using ec) p hr
 ·have e:i=cs.length:=by rfl'
  subst e;exact .inl ⟨rfl,λ p' hp=>hd ys H' p p' hp⟩
end
def Ue (H:Hp) (p:Addr) (rows:List (List Nat)):Prop:= ∃as:List Addr,as.length=rows.length/\H p=some (.lst (as.map V.ref))/\ ∀ (i:Nat) a r,as[i]? =some a->rows[i]? =some r->H a=some (.lst (nv r))
theorem Ey {H:Hp} {Q:VK} {a:Addr} {kvs:List (List Key×V)} (e:H a=some (.dT kvs)) (hn:kvs.length<=1000000) (h: ∀r (zs:List (Addr×List Key)),H r=none->zs.map (·.2)=kvs.map (·.1)->(∀z∈zs,H z.1=some (.tup (z.2.map kV)))->Q (.ref r) (upd H r (.lst (zs.map λ z=>V.ref z.1)))):sy [.ref a] H Q:=⟨a,kvs,rfl,e,hn,h⟩
theorem Ld {σ:St} {H:Hp} {D:Ends} {g:TG} {tb:TS} {a:Addr} {kvs:List (Key×V)} (ea:Rd H a (.dK kvs)) (Pv:PySem.Obj->Nat->St->Hp->Prop) (h0: ∀od H1,Sb [a] H H1->H1 a=some (.frz od (.dK kvs))->Pv od 0 σ H1) (hl: ∀od i σ H',Pv od i σ H'->H' a=some (.frz od (.dK kvs)))
  (hs: ∀od (i:Nat) z σ H',kvs[i]? =some z->Pv od i σ H'->g (kV z.1) σ H' λ σ2 H2=>tb { D with nx:=Pv od (i+1),ct:=Pv od (i+1),bk:=D.nx } σ2 H2) (hd: ∀od σ H',Pv od kvs.length σ H'->D.nx σ H'):Rq (pR g tb D σ) (.ref a) H:=by
 have key: ∀od H1,Sb [a] H H1->H1 a=some (.frz od (.dK kvs))->pR g tb D σ (wg od a) H1:=by
  intro od H1 sb e1;refine ⟨λ i m σ H=>m=kvs.length-i/\i<=kvs.length/\Pv od i σ H,⟨kvs.length,by simp,Yu _,h0 od H1 sb e1⟩,?_⟩;rintro i m σ H' ⟨rfl,hi,p⟩;have e:=hl od i σ H' p;by_cases hlt:i<kvs.length
  ·refine .inr ⟨⟨kvs,e,hlt⟩,Pv od (i+1),λ σ' H' p'=>⟨kvs.length-(i+1),by rfl',rfl,hlt,p'⟩,λ x H'' y=> ?_⟩;obtain ⟨rfl,y2⟩:=y;obtain ⟨k,x',h1,rfl⟩:=y2 kvs e;exact hs od i (k,x') σ _ h1 p
  ·have ei:i=kvs.length:=by rfl'
   subst ei;exact .inl ⟨⟨kvs,e,Zn _⟩,hd od σ H' p⟩
 rcases ea with e | ⟨od,e⟩
 ·refine ⟨a,kvs,rfl, .inl ⟨e,λ od=>key od _ ?_ au⟩⟩;intro b o nb q;rw [aD (by simpa using nb)];exact q
 ·exact ⟨a,kvs,rfl, .inr ⟨od,e,key od H (λ b o _ q=>q) e⟩⟩
section
variable {σ:St} {H:Hp} {Q:VK} {D:Ends} {K:W.Frag} {g:TG} {κ:List (Option Nat)} {tc:TT} {te:TE}
def Ug (K:W.Frag) (R:It->Hp->Prop) (vs:List V) (H:Hp):Prop:= ∃a b xs ys,vs=[.ref a, .ref b]/\SqT K H a xs/\SqT K H b ys/\R (Oj K a b) H
end
section
variable {σ:St} {H:Hp} {Q:VK} {D:Ends} {K:W.Frag} {g:TG} {tb:TS}
theorem Le {α:Type} (c:α->V) {a:Addr} {xs:List α} (hx:SqL K H a (xs.map c)) (Pv:Nat->St->Hp->Prop) (h0:Pv 0 σ H)
  (hk: ∀i σ H',Pv i σ H'->SqL K H' a (xs.map c))
  (hs: ∀ (i:Nat) x p σ H',xs[i]? =some x->Pv i σ H'->H' p=none->g (.ref p) σ (upd H' p (.tup [.int (i:Int),c x])) λ σ2 H2=>tb { D with nx:=Pv (i+1),ct:=Pv (i+1),bk:=D.nx } σ2 H2)
  (hd: ∀σ H',Pv xs.length σ H'->D.nx σ H'):iE K (pR g tb D σ) [.ref a] H:=by
 refine ⟨a,_,rfl,hx,λ i m σ H=>m=xs.length-i/\i<=xs.length/\Pv i σ H,⟨xs.length,by simp,Yu _,h0⟩,?_⟩;rintro i m σ H ⟨rfl,hi,p⟩;have q1:=hk i σ H p;by_cases hlt:i<xs.length
 ·have e1:(xs.map c)[i]? =some (c xs[i]):=by rw [Zg,Qb hlt];rfl
  refine .inr ⟨⟨_,_,q1,e1⟩,Pv (i+1),λ σ' H' p'=>⟨xs.length-(i+1),by rfl',rfl,hlt,p'⟩,λ v H' y=> ?_⟩;obtain ⟨r,x',hr,rfl,rfl,f1⟩:=y;have g1:=f1 _ q1;rw [e1] at g1
  cases g1;exact hs i _ r σ H (Qb hlt) p hr
 ·have e:i=xs.length:=by rfl'
  subst e;exact .inl ⟨⟨_,q1,by rw [Qr];exact Zn _⟩,hd σ H p⟩
end
theorem Ez {σ:St} {H:Hp} {D:Ends} {c:TT} {tb:TS} (Pv:Nat->St->Hp->Prop) (m0:Nat) (h0:Pv m0 σ H)
  (hs: ∀m σ H (N:St->Hp->Prop),Pv m σ H->(∀m' σ' H',m'<m->Pv m' σ' H'->N σ' H')->c σ H λ b H1=>if b=true then tb { D with nx:=N,ct:=N,bk:=D.nx } σ H1 else D.nx σ H1)
  (mono: ∀σ H Q Q',(∀b H1,Q b H1->Q' b H1)->c σ H Q->c σ H Q'):jl c tb D σ H:=by
 classical
 have least: ∀ (P:Nat->Prop),(∃m,P m)-> ∃m,P m/\ ∀k,P k->m<=k:=λ P ⟨m,hm⟩=>by
  induction m using Nat.strongRecOn with
  | ind m ih=>
   by_cases h: ∃k,k<m/\P k
   ·obtain ⟨k,hk,pk⟩:=h;exact ih k hk pk
   ·exact ⟨m,hm,λ k pk=>Nat.le_of_not_lt λ hk=>h ⟨k,hk,pk⟩⟩
 refine sE (λ σ H=> ∃m,Pv m σ H) (λ σ H=>if h: ∃m,Pv m σ H then (least (λ m=>Pv m σ H) h).choose else 0) ⟨m0,h0⟩ ?_ mono;intro σ H h;obtain ⟨p1,p2⟩:=(least (λ m=>Pv m σ H) h).choose_spec;refine hs _ σ H _ p1 λ m' σ' H' hm hp=>⟨⟨m',hp⟩,?_⟩
 rw [dif_pos h,dif_pos ⟨m',hp⟩];exact Xa ((least (λ m=>Pv m σ' H') ⟨m',hp⟩).choose_spec.2 m' hp) hm
end L2
namespace Mm
section
variable {α:Type}
inductive Rch (bs:List α) (nx:α->List α):α->Prop
 | base {x:α} (h:x∈bs):Rch bs nx x
 | step {x y:α} (h:Rch bs nx x) (m:y∈nx x):Rch bs nx y
structure Clo (bs:List α) (nx:α->List α) (F W:List α):Prop where
 nd:F.Nodup
 rF: ∀x∈F,Rch bs nx x
 rW: ∀x∈W,Rch bs nx x
 b: ∀x∈bs,x∈F\/x∈W
 c: ∀x∈F,∀y∈nx x,y∈F\/y∈W
end
end Mm
end
set_option Elab.async false
set_option linter.all false
set_option maxRecDepth 100000
open L2
local macro_rules | `(tactic| walk_at "si") => `(tactic| first | assumption | (with_reducible exact Mm.big_pos) | (with_reducible exact Int.pow_pos (by decide)) | rfl' | (dsimp only; rfl') | exact ⟨by rfl', by rfl'⟩ | exact Or.inr ⟨by rfl', by rfl'⟩ | exact Or.inl ⟨by rfl', by rfl'⟩ | exact ⟨by rfl', by rfl', by rfl'⟩ | exact ⟨by rfl', by rfl', by decide⟩ | (dsimp only; decide) | exact Mm.shl_pos _ | exact Mm.big_pos | exact Int.pow_pos (by decide))
local macro_rules | `(tactic| walk_at "gp") => `(tactic| repeat (first | walk_at "st" | (with_reducible (refine s_lenA (xs := ?xs) ?e ?_; case e => assumption))))
local macro_rules | `(tactic| symm) => `(tactic| repeat walk_at "st")
local macro_rules | `(tactic| walk_at "st") => `(tactic| with_reducible first
 | refine s_bitlen ?_ | refine Pa ?_ | refine J1 ?_ | refine J2 ?_ | refine Ds ?_ | refine J3 ?_ | refine Pb ?_ | (refine J4 (v:= ?v) ?e ?_;case e=>with_unfolding_all exact rfl) | refine SJ ?_ | refine yV ?_
 | refine s_call ?_ | refine yU ?_ | refine Du ?_ | refine J5 ?_ | refine Jb ?_ | (refine Pr ?_ ?_;(with_unfolding_all walk_at "si")) | refine Jc ?_ | refine Jd ?_
 | refine Dv ?_ | refine PX ?_ | refine Jp ?_ | refine s_revS ?_ | refine v6 ?_ | refine s_sortItB ?_ | refine Ek ?_ | refine Jq ?_ | refine s_sin ?_ | refine s_snotin ?_ | refine s_sget ?_ | refine s_snew ?_ | refine s_cnew ?_ | refine v5 ?_ | refine Pk ?_ | refine J8 ?_ | refine J6 ?_ | refine J7 ?_ | refine s_tint ?_ | (refine s_andtp (b:= ?b) (c:= ?c) ?h1 ?h2 ?_;(case h1=>(intro R h;(with_unfolding_all walk_at "gp");exact h));(case h2=>(intro R h;(with_unfolding_all walk_at "gp");exact h))) | refine J9 ?_ | (refine Ed (b:= ?b) (c:= ?c) ?h1 ?h2 ?_;(case h1=>(intro R h;(with_unfolding_all walk_at "gp");exact h));(case h2=>(intro R h;(with_unfolding_all walk_at "gp");exact h))) | refine Pn ?_ | (refine Ec (b:= ?b) (c:= ?c) ?h1 ?h2 ?_;(case h1=>(intro R h;(with_unfolding_all walk_at "gp");exact h));(case h2=>(intro R h;(with_unfolding_all walk_at "gp");exact h))) | refine Dw ?_ | (refine s_orp (b:= ?b) (c:= ?c) ?h1 ?h2 ?_;(case h1=>(intro R h;(with_unfolding_all walk_at "gp");exact h));(case h2=>(intro R h;(with_unfolding_all walk_at "gp");exact h))) | refine s_orv ?_ | refine Dy ?_ | refine Pq ?_ | refine Ja ?_
 | refine zW ?_ | refine vP ?_ | refine Iz ?_ | refine IK ?_ | refine IW ?_ | refine Dr ?_
 | refine Pj ?_ | refine Ph ?_ | refine Pu ?_ | (refine uZ (b:= ?b) (c:= ?c) (x:= ?x) (y:= ?y) (z:= ?z) ?h1 ?h2 ?h3 ?h4 ?h5 ?_;(case h1=>(intro R h;(with_unfolding_all walk_at "gp");exact h));(case h2=>(intro R h;(with_unfolding_all walk_at "gp");exact h));(case h3=>(intro R h;(with_unfolding_all walk_at "gp");exact h));(case h4=>(intro R h;(with_unfolding_all walk_at "gp");exact h));(case h5=>(intro R h;(with_unfolding_all walk_at "gp");exact h))) | refine s_chain ?_ | refine Dt ?_ | refine s_beh ?_ | refine zc ?_ | refine s_retN ?_ | refine s_cont ?_ | refine yS ?_
 | refine yW ?_ | refine DG ?_ | refine DK ?_ | (refine s_aug (x:= ?v) ?e ?_;case e=>with_unfolding_all exact rfl) | refine s_ip ?_
 | refine s_eqb ?_ | refine Jk ?_ | refine s_nes ?_
 | (refine s_eq ?_ ?_;with_unfolding_all exact rfl) | (refine Px ?_ ?_;with_unfolding_all exact rfl)
 | refine Jl ?_ | refine s_gts ?_ | refine s_ges ?_ | refine s_min ?_ | refine s_max ?_ | refine z7 ?_ | refine zb ?_ | refine z8 ?_ | refine z9 ?_ | refine s_dget1 ?_ | refine s_dget2 ?_
 | refine Je ?_ | refine Jf ?_ | (refine Jh ?_ ?_;(with_unfolding_all first | decide | (simp;rfl') | simp)) | refine Py ?_ | refine uX ?_ | refine DN ?_ | refine DP ?_
 | refine PB ?_ | refine s_bm0 ?_ | refine s_tyi ?_ | refine Ji ?_
 | refine Jj ?_ | refine PJ ?_ | refine yX ?_ | refine DQ ?_ | refine yZ ?_ | refine z6 ?_ | refine s_irng3 ?_ | refine DR ?_ | refine s_izip ?_ | refine s_izipT ?_ | refine s_izipU ?_ | refine s_izipL ?_ | refine s_tupR ?_ | refine s_irngD ?_ | refine s_irevL ?_ | refine s_irevT ?_ | refine zf ?_ | refine s_ienF ?_ | refine Ex ?_ | refine Ew ?_ | refine s_md ?_ | refine s_augS ?_ | refine s_ikeys ?_ | refine v8 ?_ | refine s_jr ?_ | refine Eg ?_ | refine s_sput ?_ | refine s_cput ?_ | refine Ei ?_ | refine s_dget2 ?_
 | (refine Jg ?_ ?_;(with_unfolding_all first | exact P0 | exact ext2 | exact ext3)))
local macro_rules | `(tactic| walk_at "sj") => `(tactic| with_reducible first
 | refine s_bitlen ?_ | refine KQ ?_ | refine s_seqF ?_ | refine s_seqD ?_ | refine s_seqP ?_ | refine s_seqS ?_ | refine s_seqC ?_ | refine s_seqU ?_ | refine J1 ?_ | refine J2 ?_ | refine Ds ?_ | refine J3 ?_ | refine Pb ?_ | (refine J4 (v:= ?v) ?e ?_;case e=>with_unfolding_all exact rfl) | refine SJ ?_ | refine yV ?_
 | refine s_call ?_ | refine yU ?_ | refine Du ?_ | refine J5 ?_ | refine Jb ?_ | (refine Pr ?_ ?_;(with_unfolding_all walk_at "si")) | refine Jc ?_ | refine Jd ?_
 | refine Dv ?_ | refine PX ?_ | refine Jp ?_ | refine s_revS ?_ | refine v6 ?_ | refine s_sortItB ?_ | refine Ek ?_ | refine Jq ?_ | refine s_sin ?_ | refine s_snotin ?_ | refine s_sget ?_ | refine s_snew ?_ | refine s_cnew ?_ | refine v5 ?_ | refine Pk ?_ | refine J8 ?_ | refine J6 ?_ | refine J7 ?_ | refine s_tint ?_ | (refine s_andtp (b:= ?b) (c:= ?c) ?h1 ?h2 ?_;(case h1=>(intro R h;(with_unfolding_all walk_at "gp");exact h));(case h2=>(intro R h;(with_unfolding_all walk_at "gp");exact h))) | refine J9 ?_ | (refine Ed (b:= ?b) (c:= ?c) ?h1 ?h2 ?_;(case h1=>(intro R h;(with_unfolding_all walk_at "gp");exact h));(case h2=>(intro R h;(with_unfolding_all walk_at "gp");exact h))) | refine Pn ?_ | (refine Ec (b:= ?b) (c:= ?c) ?h1 ?h2 ?_;(case h1=>(intro R h;(with_unfolding_all walk_at "gp");exact h));(case h2=>(intro R h;(with_unfolding_all walk_at "gp");exact h))) | refine Dw ?_ | (refine s_orp (b:= ?b) (c:= ?c) ?h1 ?h2 ?_;(case h1=>(intro R h;(with_unfolding_all walk_at "gp");exact h));(case h2=>(intro R h;(with_unfolding_all walk_at "gp");exact h))) | refine s_orv ?_ | refine Dy ?_ | refine Pq ?_ | refine Ja ?_
 | refine zW ?_ | refine vP ?_ | refine Iz ?_ | refine IK ?_ | refine IW ?_ | refine Dr ?_
 | refine Pj ?_ | refine Ph ?_ | refine Pu ?_ | (refine uZ (b:= ?b) (c:= ?c) (x:= ?x) (y:= ?y) (z:= ?z) ?h1 ?h2 ?h3 ?h4 ?h5 ?_;(case h1=>(intro R h;(with_unfolding_all walk_at "gp");exact h));(case h2=>(intro R h;(with_unfolding_all walk_at "gp");exact h));(case h3=>(intro R h;(with_unfolding_all walk_at "gp");exact h));(case h4=>(intro R h;(with_unfolding_all walk_at "gp");exact h));(case h5=>(intro R h;(with_unfolding_all walk_at "gp");exact h))) | refine s_chain ?_ | refine Dt ?_ | refine s_beh ?_ | refine zc ?_ | refine s_retN ?_ | refine s_cont ?_ | refine yS ?_
 | refine yW ?_ | refine DG ?_ | refine DK ?_ | (refine s_aug (x:= ?v) ?e ?_;case e=>with_unfolding_all exact rfl) | refine s_ip ?_
 | refine s_eqb ?_ | refine Jk ?_ | refine s_nes ?_
 | (refine s_eq ?_ ?_;with_unfolding_all exact rfl) | (refine Px ?_ ?_;with_unfolding_all exact rfl)
 | refine Jl ?_ | refine s_gts ?_ | refine s_ges ?_ | refine s_min ?_ | refine s_max ?_ | refine z7 ?_ | refine zb ?_ | refine z8 ?_ | refine z9 ?_ | refine s_dget1 ?_ | refine s_dget2 ?_
 | refine Je ?_ | refine Jf ?_ | (refine Jh ?_ ?_;(with_unfolding_all first | decide | (simp;rfl') | simp)) | refine Py ?_ | refine uX ?_ | refine DN ?_ | refine DP ?_
 | refine PB ?_ | refine s_bm0 ?_ | refine s_tyi ?_ | refine Ji ?_
 | refine Jj ?_ | refine PJ ?_ | refine yX ?_ | refine DQ ?_ | refine yZ ?_ | refine z6 ?_ | refine s_irng3 ?_ | refine DR ?_ | refine s_izip ?_ | refine s_izipT ?_ | refine s_izipU ?_ | refine s_izipL ?_ | refine s_tupR ?_ | refine s_irngD ?_ | refine s_irevL ?_ | refine s_irevT ?_ | refine zf ?_ | refine s_ienF ?_ | refine Ex ?_ | refine Ew ?_ | refine s_md ?_ | refine s_augS ?_ | refine s_ikeys ?_ | refine v8 ?_ | refine s_jr ?_ | refine Eg ?_ | refine s_sput ?_ | refine s_cput ?_ | refine Ei ?_ | refine s_dget2 ?_
 | (refine Jg ?_ ?_;(with_unfolding_all first | exact P0 | exact ext2 | exact ext3)))
local macro_rules | `(tactic| walk_at "gj") => `(tactic| repeat walk_at "sj")
local macro_rules | `(tactic| walk_at "hp") => `(tactic| first
 | assumption
 | exact au
 | (refine SqL.of ?_;walk_at "hp")
 | (refine SqT.of ?_;walk_at "hp")
 | (refine nH (by assumption) ?_;walk_at "hp")
 | (refine yR (by assumption) ?_;walk_at "hp")
 | (refine aO (by assumption) ?_;walk_at "hp")
 | (refine Same.seq (by assumption) ?_;walk_at "hp")
 | (refine Same.tup (by assumption) ?_;walk_at "hp")
 | (refine Same.get (by assumption) ?_;walk_at "hp"))
local macro_rules | `(tactic| walk_at "sm") => `(tactic| first
 | assumption
 | exact Same.refl _
 | (refine Same.new ?_ (by assumption);walk_at "sm")
 | (refine Same.trans ?_ (by assumption);walk_at "sm"))
local macro_rules | `(tactic| walk_at "ns") => `(tactic| try dsimp only [L2.start, List.map, List.length, Nat.reduceAdd, Nat.reduceSub, List.reduceReplicate, List.cons_append, List.nil_append, List.set])
namespace Pg
open PySem L2
def SX:Addr:=38
def n6:Addr:=51
def bY:Addr:=127
variable {K:W.Frag} {vs:List V} {H:Hp} {Q:VK} {E:XK}
def iV (K:W.Frag):Sp:=λ vs H Q _=> ∃x:V,vs=[x]/\Thing H x/\Q (.bl (isI x)) H
def wW (K:W.Frag) (E:XK) (Eh:XK):TS:=
  (bV (jH (d7 (gf K) (ak (aj 0) (ak (tC (V.ty "int")) aF))) (Bg (d7 (gf K) (ak (aj 0) (ak (tC (V.ty "bool")) aF))))))
theorem Lf (h:iV K vs H Q E): ∃Eh,wW K E Eh { nx:=λ _ H'=>Q .non H',rt:=Q } (start ["thing"] vs) H:=by
 unfold iV at h;obtain ⟨x,rfl,hx,q⟩:=h;refine ⟨E0,?_⟩;unfold wW;symm;rcases hx.ty (K:=K) with ⟨b,rfl⟩ | ⟨i,rfl⟩ | ⟨s,rfl,_⟩ | ⟨n,ty,hn,e,_⟩
 ·refine eG (.bl b) (b:=true) rfl ?_;symm;refine eG (.bl b) (b:=true) rfl ?_;symm;exact q
 ·refine eG (.int i) (b:=true) rfl ?_;symm;refine eG (.int i) (b:=false) rfl ?_;symm;exact q
 ·refine eG (.str s) (b:=false) rfl ?_;symm;exact q
 ·rw [e] at q;refine eG ty (b:=false) (by rcases hn with rfl | rfl | rfl | rfl<;>rfl) ?_;symm;exact q
theorem Lg (h:iV K vs H Q E):vs.length=1:=by
 unfold iV at h;obtain ⟨_,rfl,_⟩:=h;rfl
def sgn:V->Bool
 | .str s=>decide (s.length=1)&&(!decide (s.cps.toList<(Str.ofString " ").cps.toList)&&(!decide ((Str.ofString "~").cps.toList<s.cps.toList)&& !decide (((s.cps.getD 0 0:Nat):Int)=37)))
 | _=>false
theorem EY {s:Str} (h:Hs.Sg s):sgn (.str s)=true:=by
 obtain ⟨n,rfl⟩:=h;have: ∀c∈Hs.Bd.cps.toList,sgn (.str (tx [c]))=true:=by ac_nf
 have hl:Hs.Bd.cps.toList.length=94:=by ac_nf
 have h0:0<=n%94:=Wp _ (by decide);have h1:n%94<94:=Wh _ (by decide);refine this _ ?_;unfold Hs.El;rw [Zb,Qb (by rfl')];exact Zl _
def jx (K:W.Frag):Sp:=λ vs H Q _=> ∃x:V,vs=[x]/\Thing H x/\Q (.bl (sgn x)) H
def wX (K:W.Frag) (E:XK) (Eh:XK):TS:=
  (aN (cu (Gf (mU (kY K (d7 (gf K) (ak (aj 0) (ak (tC (V.ty "str")) aF))))) (bh (aW Nv (d7 (cB K) (ak (aj 0) aF)) (tC (V.int 1))))) (bV (tC (V.bl false))) bD)
  (bV (jH (jm oG oG (tC (V.str (Str.ofString " "))) (aj 0) (tC (V.str (Str.ofString "~")))) (aW Nv (d7 Ir (ak (aj 0) aF)) (tC (V.int 37))))))
theorem Lh (h:jx K vs H Q E): ∃Eh,wX K E Eh { nx:=λ _ H'=>Q .non H',rt:=Q } (start ["thing"] vs) H:=by
 unfold jx at h;obtain ⟨x,rfl,hx,q⟩:=h;refine ⟨E0,?_⟩;unfold wX;symm;rcases hx.ty (K:=K) with ⟨b,rfl⟩ | ⟨i,rfl⟩ | ⟨s,rfl,hl⟩ | ⟨n,ty,hn,_,e⟩
 ·refine eG (.bl b) (b:=false) rfl ?_;symm;exact q
 ·refine eG (.int i) (b:=false) rfl ?_;symm;exact q
 ·refine eG (.str s) (b:=true) rfl ?_;symm;refine gD (by rfl') ?_;symm;refine uW (λ c=> ?_) λ c=> ?_
  ·have e:sgn (.str s)=false:=by
    show (decide (s.length=1)&&_)=false;rw [Yo (by rfl'),Bool.false_and]
   rw [e] at q;symm;exact q
  ·have c1:s.length=1:=by rfl'
   have e:sgn (.str s)=(!decide (s.cps.toList<(Str.ofString " ").cps.toList)&&(!decide ((Str.ofString "~").cps.toList<s.cps.toList)&& !decide (((s.cps.getD 0 0:Nat):Int)=37))):=by
    show (decide (s.length=1)&&_)=_;rw [Yh c1,Bool.true_and]
   rw [e,<- Bool.and_assoc] at q;symm;refine Hu (λ d=> ?_) λ d=> ?_
   ·rw [d,Bool.true_and] at q;symm;refine PP c1 ?_;symm;exact q
   ·rw [d,Bool.false_and] at q;symm;exact q
 ·have e':sgn x=false:=by
   cases x with
   | str s=>exact absurd rfl (e s)
   | _=>rfl
  rw [e'] at q;refine eG ty (b:=false) (by rcases hn with rfl | rfl | rfl | rfl<;>rfl) ?_;symm;exact q
theorem Li (h:jx K vs H Q E):vs.length=1:=by
 unfold jx at h;obtain ⟨_,rfl,_⟩:=h;rfl
abbrev Pz:=Addr×V×V
def ofD (z:Dz):Pz:=(z.1, .str z.2.1, .int z.2.2)
theorem sJ {z1 z2:Dz} (e:ofD z1=ofD z2):z1=z2:=by
 obtain ⟨a1,b1,c1⟩:=z1;obtain ⟨a2,b2,c2⟩:=z2;unfold ofD at e;simp only [Prod.mk.injEq,V.str.injEq,V.int.injEq] at e;obtain ⟨e1,e2,e3⟩:=e;rw [e1,e2,e3]
def RowG (n:Nat) (zs:List Dz):Prop:=(zs.map (·.2.1)).Nodup/\ ∀z∈zs,Hs.Sg z.2.1/\0<=z.2.2/\z.2.2<n
def sO (n:Nat) (is:List Int):Prop:=is.Nodup/\ ∀i∈is,0<=i/\i<n
theorem RowG.take {n k:Nat} {zs:List Dz} (h:RowG n zs):RowG n (zs.take k):=⟨List.Nodup.sublist ((List.take_sublist _ _).map _) h.1,λ z m=>h.2 z (List.mem_of_mem_take m)⟩
theorem v9 {α:Type} {f:α->Key} {g:α->V} {l:List α} {k:Key} (h:k∈l.map f): ∃v,dh (l.map λ z=>(f z,g z)) k=some v:=by
 have hb:((l.map λ z=>(f z,g z)).any λ kv=>decide (kv.1=k))=true:=by
  obtain ⟨z,mz,e⟩:=Zc.mp h;exact List.any_eq_true.mpr ⟨(f z,g z),Zc.mpr ⟨z,mz,rfl⟩,Yh e⟩
 rw [gM] at hb;exact Option.isSome_iff_exists.mp hb
def zj (r:Addr×List Dz):Addr×List Pz:=(r.1,r.2.map ofD)
def mL (K:W.Frag):Sp:=λ vs H Q E=> ∃n:Int,vs=[.int n]/\(1<=n->n<=40->Q .non H)/\(¬ (1<=n/\n<=40)->E (.ref n6) none H)
def Fb (K:W.Frag) (E:XK) (Eh:XK):TS:=
  (cu (mU (bh (jm Cp Cp (tC (V.int 1)) (aj 0) (tC (V.int 40))))) (fj E n6 (ak (tC (V.str (Str.ofString "there are no rooms, or there are too many"))) aF)) bD)
theorem Q6 (h:mL K vs H Q E): ∃Eh,Fb K E Eh { nx:=λ _ H'=>Q .non H',rt:=Q } (start ["rooms"] vs) H:=by
 unfold mL at h;obtain ⟨n,rfl,q,qe⟩:=h;refine ⟨E0,?_⟩;unfold Fb;symm;by_cases c1:1<=n
 ·by_cases c2:n<=40
  ·rw [Yh c1,Yh c2];symm;exact q c1 c2
  ·rw [Yh c1,Yo c2,Bool.and_false];symm;exact qe λ h=>c2 h.2
 ·rw [Yo c1,Bool.false_and];symm;exact qe λ h=>c1 h.1
theorem Q7 (h:mL K vs H Q E):vs.length=1:=by
 unfold mL at h;obtain ⟨_,rfl,_⟩:=h;rfl
def ph (K:W.Frag):Sp:=λ vs H Q E=> ∃ (x:V) (n:Nat),vs=[x, .int n]/\Thing H x/\(∀r:Int,x= .int r->0<=r->r<n->Q .non H)/\((∀r:Int,x= .int r->0<=r->r<n->False)->E (.ref n6) none H)
def Fd (K:W.Frag) (E:XK) (Eh:XK):TS:=
  (cu (mU (jk (kY K (aX (iV K) [] E0 (ak (aj 0) aF))) (bh (jm Cp Ke (tC (V.int 0)) (aj 0) (aj 1))))) (fj E n6 (ak (tC (V.str (Str.ofString "a room that is named is not there"))) aF)) bD)
theorem Q8 (h:ph K vs H Q E): ∃Eh,Fd K E Eh { nx:=λ _ H'=>Q .non H',rt:=Q } (start ["room","rooms"] vs) H:=by
 unfold ph at h;obtain ⟨x,n,rfl,hx,q,qe⟩:=h;refine ⟨E0,?_⟩;unfold Fd;symm;refine ⟨_,rfl,hx,?_⟩
 cases x with
 | int i=>
  symm;show if true=true then _ else _
  symm;by_cases c1:0<=i
  ·by_cases c2:i<n
   ·rw [Yh c1,Yh c2];symm;exact q i rfl c1 c2
   ·rw [Yh c1,Yo c2,Bool.and_false];symm;exact qe λ r e _ h2=>c2 (by cases e;exact h2)
  ·rw [Yo c1,Bool.false_and];symm;exact qe λ r e h1 _=>c1 (by cases e;exact h1)
 | _=>
  symm;show if false=true then _ else _
  symm;exact qe λ r e _ _=>by cases e
theorem Q9 (h:ph K vs H Q E):vs.length=2:=by
 unfold ph at h;obtain ⟨_,_,rfl,_⟩:=h;rfl
theorem Fe {x:V} (h:sgn x=true): ∃s,x= .str s/\Hs.Sg s:=by
 cases x with
 | str s=>
  have h:(decide (s.length=1)&&(!decide (s.cps.toList<(Str.ofString " ").cps.toList)&&(!decide ((Str.ofString "~").cps.toList<s.cps.toList)&& !decide (((s.cps.getD 0 0:Nat):Int)=37))))=true:=h;simp only [Xw,decide_eq_true_eq,Bool.not_eq_true',decide_eq_false_iff_not] at h;obtain ⟨h1,h2,h3,h4⟩:=h;obtain ⟨cps⟩:=s;obtain ⟨l⟩:=cps
  match l,h1,h2,h3,h4 with
  | [c],_,h2,h3,h4=>
   have a1:32<=c:=by
    rcases Wl c 32 with q | q
    ·exact absurd (List.Lex.rel q) h2
    ·exact q
   have a2:c<=126:=by
    rcases Wl 126 c with q | q
    ·exact absurd (List.Lex.rel q) h3
    ·exact q
   have a3:c≠37:=λ e=>h4 (by subst e;rfl)
   have key: ∀c<127,32<=c->c≠37-> ∃k<94,Hs.Bd.cps.toList.getD k 0=c:=by ac_nf
   obtain ⟨k,hk,ek⟩:=key c (by rfl') a1 a3;refine ⟨_,rfl,(k:Int),?_⟩;unfold Hs.El;rw [show ((k:Int)%94).toNat=k by rfl',ek];rfl
 | _=>cases h
def lB (K:W.Frag):Sp:=λ vs H Q E=> ∃ (a:Addr) (gs:List Pz) (n:Nat),vs=[.ref a, .int n]/\SqL K H a (gs.map λ g:Pz=>V.ref g.1)/\(∀g∈gs,SqT K H g.1 [g.2.1,g.2.2]/\Thing H g.2.1/\Thing H g.2.2)/\gs.length<64/\(∀zs:List Dz,gs=zs.map ofD->RowG n zs-> ∀r H' ps,Same H H'->DrT K H' r ps->ps.Perm (zs.map (·.2))->(ps.map (·.1)).Pairwise gY->Q (.ref r) H')/\((∀zs:List Dz,gs=zs.map ofD->RowG n zs->False)-> ∀H',Same H H'->E (.ref n6) none H')
def wY (K:W.Frag) (E:XK) (Eh:XK):TS:=
  (aN (b7 oA (aB 2))
  (aN (dG (dF K (aj 0)) (km K 2 (cN (aB 3) (cN (aB 4) mV))) (aN (cu (mU (kY K (aX (jx K) [] E0 (ak (aj 3) aF)))) (fj E n6 (ak (tC (V.str (Str.ofString "a door's sign is none"))) aF)) bD)
  (aN (cu (tB (Gy (aj 3) (aj 2))) (fj E n6 (ak (tC (V.str (Str.ofString "a sign comes twice in one room"))) aF)) bD)
  (aN (eV (aX (ph K) [] E (ak (aj 4) (ak (aj 1) aF))))
  (je (aj 2) (aj 3) (aj 4))))))
  (bV (d7 (dN K) (ak (rO (aj 2)) aF)))))
theorem Lj (h:lB K vs H Q E): ∃Eh,wY K E Eh { nx:=λ _ H'=>Q .non H',rt:=Q } (start ["pairs","rooms","made","sign","room"] vs) H:=by
 unfold lB at h;obtain ⟨a,gs,n,rfl,hS,hg,h64,q,qe⟩:=h;refine ⟨E0,?_⟩;unfold wY;symm;intro m hm;symm;have hfr: ∀p'∈[m],H p'=none:=λ p' hp'=>by rw [Ze.mp hp'];exact hm
 refine jQ (λ g:Pz=>V.ref g.1) (zs:=gs) (nH hm hS) (λ i σ H'=> ∃zs:List Dz,gs.take i=zs.map ofD/\RowG n zs/\Sb [m] H H'/\H' m=some (.dK (zs.map λ z:Dz=>((Sum.inr z.2.1:Key),V.int z.2.2)))/\ ∃o1 o2,σ=[some (.ref a),some (.int (n:Nat)),some (.ref m),o1,o2]) ⟨[],rfl,⟨by simp,by simp⟩,Sb.of (aH hm _),au,none,none,rfl⟩ ?_ ?_ ?_
 ·rintro i σ H' ⟨zs,_,_,sb,_⟩;exact sb.seq hfr hS
 ·rintro i ⟨b,x,y⟩ σ H' hi ⟨zs,ez,gz,sb,em,o1,o2,rfl⟩;have hil:i<gs.length:=(Zf.mp hi).1;obtain ⟨tz,tx1,tx2⟩:=hg _ (Zj hi);dsimp only at tz tx1 tx2;have S:=sb.off hfr;have full: ∀zs2:List Dz,gs=zs2.map ofD-> ∃z2∈zs2,(b,x,y)=ofD z2/\zs2.take i=zs/\zs2.take (i+1)=zs++[z2]:=λ zs2 e2=>by
   rw [e2,Zg] at hi;obtain ⟨z2,ez2,e3⟩:=Yd.mp hi;have et:zs2.take i=zs:=(Xg (λ _ _ e=>sJ e)).mp (by rw [List.map_take,<- e2,ez]);exact ⟨z2,Zj ez2,e3.symm,et,by rw [Yj,ez2,et];rfl⟩
  refine gw (S.tup tz) rfl ?_;symm;refine ⟨x,rfl,tx1.same S,?_⟩;symm;by_cases hsx:sgn x=true
  case neg=>
   rw [Bool.not_eq_true] at hsx;rw [hsx];symm;refine qe (λ zs2 e2 g=> ?_) _ S;obtain ⟨z2,m2,e3,_,_⟩:=full zs2 e2;have:x=V.str z2.2.1:=Yn (λ g:Pz=>g.2.1) e3;rw [this,EY (g.2 z2 m2).1] at hsx
   cases hsx
  rw [hsx];obtain ⟨s,rfl,sg⟩:=Fe hsx;symm;refine ⟨m,_,rfl,DGet.k (k:=Sum.inr s) em,?_⟩;by_cases hin:s∈zs.map λ z:Dz=>z.2.1
  case pos=>
   obtain ⟨v,ev⟩: ∃v,dh (zs.map λ z:Dz=>((Sum.inr z.2.1:Key),V.int z.2.2)) (Sum.inr s)=some v:=v9 (by
    obtain ⟨z,mz,e⟩:=Zc.mp hin;exact Zc.mpr ⟨z,mz,by rw [e]⟩)
   rw [ev];symm;show if true=true then _ else _
   symm;refine qe (λ zs2 e2 g=> ?_) _ S;obtain ⟨z2,m2,e3,_,e5⟩:=full zs2 e2;have e6:s=z2.2.1:=by have:=Yn (λ g:Pz=>g.2.1) e3;exact V.str.inj this
   have hnd2:=(g.take (k:=i+1)).1;rw [e5,Zq,Yq] at hnd2;exact hnd2.2.2 s hin z2.2.1 (by simp) e6
  have hnew:(Sum.inr s:Key)∉zs.map (λ z:Dz=>(Sum.inr z.2.1:Key)):=by
   intro z;obtain ⟨y,my,ey⟩:=Zc.mp z;exact hin (Zc.mpr ⟨y,my,Sum.inr.inj ey⟩)
  have hv:=v7 (f:=λ z:Dz=>(Sum.inr z.2.1:Key)) (g:=λ z:Dz=>V.int z.2.2) hnew;rw [hv];symm;show if false=true then _ else _
  symm;refine ⟨y,n,rfl,tx2.same S,λ r er r0 r1=> ?_,λ ne=>qe (λ zs2 e2 g=> ?_) _ S⟩
  ·subst er;have hzl:zs.length<=64:=by
    have h2:=Yn List.length ez;rw [Ys,Qr] at h2;rfl'
   symm;refine ⟨m,_,rfl,DPut.k (k:=Sum.inr s) em (Xa (by rw [Qr];exact hzl:_<=64) (by decide)),?_⟩;rw [gO _ hv];symm;refine ⟨zs++[(b,s,r)],?_,⟨?_,?_⟩,sb.set (by simp),by rw [au,Zq];rfl,_,_,rfl⟩
   ·rw [Yj,hi,ez,Zq];rfl
   ·rw [Zq,Yq];refine ⟨gz.1,by simp,λ u mu w mw e=>hin ?_⟩;rw [Zz,List.map_nil,Ze] at mw;have mw':w=s:=mw;rw [<- mw',<- e];exact mu
   ·intro z mz;rcases Zv.mp mz with mz | mz
    ·exact gz.2 z mz
    ·rw [Ze.mp mz];exact ⟨sg,r0,r1⟩
  ·obtain ⟨z2,m2,e3,_,_⟩:=full zs2 e2;have e6:y= .int z2.2.2:=Yn (λ g:Pz=>g.2.2) e3;exact ne _ e6 (g.2 z2 m2).2.1 (g.2 z2 m2).2.2
 ·rintro σ H' ⟨zs,ez,gz,sb,em,o1,o2,rfl⟩;rw [Yy] at ez;have S:=sb.off hfr;have hzl:zs.length<64:=by rw [ez,Qr] at h64;exact h64
  symm;refine ⟨m,zs.map λ z:Dz=>(z.2.1,V.int z.2.2),rfl,by rw [Zk];exact em,by rw [Qr];exact hzl,λ r ws H2 hp hs hr s2 e2 hw=> ?_⟩;symm;refine iz (SqL.of e2) λ t ht=> ?_
  have hp':(ws.map (·.2)).Perm ((zs.map (·.2)).map λ p:Str×Int=>(p.1,V.int p.2)):=by rw [Zk];exact hp
  obtain ⟨ps,pp,ep⟩:=mK hp';refine q zs ez gz t _ ps ((S.trans s2).new ht) (DrT.of au (λ z mz=>aO ht (hw z mz)) ep) pp ?_;have:(ws.map (·.2.1))=ps.map (·.1):=by
   rw [show ws.map (·.2.1)=(ws.map (·.2)).map (·.1) by rw [Zk];rfl,ep,Zk];rfl
  rw [<- this];exact hs
theorem Lk (h:lB K vs H Q E):vs.length=2:=by
 unfold lB at h;obtain ⟨_,_,_,rfl,_⟩:=h;rfl
def lC (K:W.Frag):Sp:=λ vs H Q E=> ∃ (a:Addr) (xs:List V) (n:Nat),vs=[.ref a, .int n]/\SqL K H a xs/\(∀x∈xs,Thing H x)/\xs.length<64/\(∀is:List Int,xs=is.map V.int->sO n is-> ∀r H' (es:List Int),Same H H'->H' r=some (.tup (es.map V.int))->es.Perm is->es.Pairwise (· < ·)->Q (.ref r) H')/\((∀is:List Int,xs=is.map V.int->sO n is->False)-> ∀H',Same H H'->E (.ref n6) none H')
def wZ (K:W.Frag) (E:XK) (Eh:XK):TS:=
  (aN (b7 oA (aB 2))
  (aN (dG (dF K (aj 0)) (aB 3) (aN (eV (aX (ph K) [] E (ak (aj 3) (ak (aj 1) aF))))
  (aN (cu (tB (Gy (aj 3) (aj 2))) (fj E n6 (ak (tC (V.str (Str.ofString "an end comes twice"))) aF)) bD)
  (je (aj 2) (aj 3) (tC (V.bl true))))))
  (bV (d7 (dN K) (ak (d7 rN (ak (aj 2) aF)) aF)))))
theorem Ln (h:lC K vs H Q E): ∃Eh,wZ K E Eh { nx:=λ _ H'=>Q .non H',rt:=Q } (start ["ends","rooms","made","end"] vs) H:=by
 unfold lC at h;obtain ⟨a,xs,n,rfl,hS,hx,h64,q,qe⟩:=h;refine ⟨E0,?_⟩;unfold wZ;symm;intro m hm;symm;have hfr: ∀p'∈[m],H p'=none:=λ p' hp'=>by rw [Ze.mp hp'];exact hm
 have hS': ∀ {H':Hp},Same H H'->SqL K H' a (xs.map λ v:V=>v):=λ s=>by rw [List.map_id'];exact s.seq hS
 refine jQ (λ v:V=>v) (zs:=xs) (hS' (aH hm _)) (λ i σ H'=> ∃is:List Int,xs.take i=is.map V.int/\sO n is/\Sb [m] H H'/\H' m=some (.dK (is.map λ z:Int=>((Sum.inl z:Key),V.bl true)))/\ ∃o1,σ=[some (.ref a),some (.int (n:Nat)),some (.ref m),o1]) ⟨[],rfl,⟨by simp,by simp⟩,Sb.of (aH hm _),au,none,rfl⟩ ?_ ?_ ?_
 ·rintro i σ H' ⟨is,_,_,sb,_⟩;exact hS' (sb.off hfr)
 ·rintro i x σ H' hi ⟨is,ei,gi,sb,em,o1,rfl⟩;have hil:i<xs.length:=(Zf.mp hi).1;have S:=sb.off hfr;have full: ∀is2:List Int,xs=is2.map V.int-> ∃r∈is2,x=V.int r/\is2.take (i+1)=is++[r]:=λ is2 e2=>by
   rw [e2,Zg] at hi;obtain ⟨r,er,e3⟩:=Yd.mp hi;have et:is2.take i=is:=(Xg (λ _ _ e=>V.int.inj e)).mp (by rw [List.map_take,<- e2,ei]);exact ⟨r,Zj er,e3.symm,by rw [Yj,er,et];rfl⟩
  symm;refine ⟨x,n,rfl,(hx x (Zj hi)).same S,λ r er r0 r1=> ?_,λ ne=>qe (λ is2 e2 g=> ?_) _ S⟩
  ·subst er;symm;refine ⟨m,_,rfl,DGet.k (k:=Sum.inl r) em,?_⟩;by_cases hin:r∈is
   ·obtain ⟨v,ev⟩: ∃v,dh (is.map λ z:Int=>((Sum.inl z:Key),V.bl true)) (Sum.inl r)=some v:=v9 (f:=λ z:Int=>(Sum.inl z:Key)) (Zc.mpr ⟨r,hin,rfl⟩);rw [ev];symm;show if true=true then _ else _
    symm;refine qe (λ is2 e2 g=> ?_) _ S;obtain ⟨r2,m2,e3,e5⟩:=full is2 e2;have hnd2:(is2.take (i+1)).Nodup:=List.Nodup.sublist (List.take_sublist _ _) g.1;rw [e5,Yq] at hnd2;exact hnd2.2.2 r hin r2 (by simp) (V.int.inj e3)
   ·have hnew:(Sum.inl r:Key)∉is.map λ z:Int=>(Sum.inl z:Key):=by
     intro z;obtain ⟨y,my,ey⟩:=Zc.mp z;exact hin (Sum.inl.inj ey▸my)
    have hv:=v7 (f:=λ z:Int=>(Sum.inl z:Key)) (g:=λ _:Int=>V.bl true) hnew;rw [hv];symm;show if false=true then _ else _
    symm;refine ⟨m,_,rfl,DPut.k (k:=Sum.inl r) em (Xa (by rw [Qr];have h2:=Yn List.length ei;rw [Ys,Qr] at h2;rfl':_<=64) (by decide)),?_⟩;rw [gO _ hv];symm;refine ⟨is++[r],by rw [Yj,hi,ei,Zq];rfl,⟨?_,?_⟩,sb.set (by simp),by rw [au,Zq];rfl,_,rfl⟩
    ·rw [Yq];refine ⟨gi.1,by simp,λ u mu w mw e=>hin ?_⟩;rw [Ze.mp mw] at e;rw [<- e];exact mu
    ·intro z mz;rcases Zv.mp mz with mz | mz
     ·exact gi.2 z mz
     ·rw [Ze.mp mz];exact ⟨r0,r1⟩
  ·obtain ⟨r2,m2,e3,_⟩:=full is2 e2;exact ne _ e3 (g.2 r2 m2).1 (g.2 r2 m2).2
 ·rintro σ H' ⟨is,ei,gi,sb,em,o1,rfl⟩;rw [Yy] at ei;have S:=sb.off hfr;symm;refine En (kvs:=is.map λ z:Int=>(z,V.bl true)) (by rw [Zk];exact em) (by rw [Qr];rw [ei,Qr] at h64;exact h64) λ r es hp hs hr=> ?_
  rw [Zk] at hp;symm;refine iz (SqL.of au) λ t ht=> ?_
  exact q is ei gi t _ es ((S.new hr).new ht) au (by simpa [Function.comp_def] using hp) hs
theorem Lp (h:lC K vs H Q E):vs.length=2:=by
 unfold lC at h;obtain ⟨_,_,_,rfl,_⟩:=h;rfl
def jj (K:W.Frag):Sp:=λ vs H Q E=> ∃ (d e:Addr) (rows:List (Addr×List Pz)) (xs:List V),vs=[.ref d, .ref e]/\SqL K H d (rows.map λ r:Addr×List Pz=>V.ref r.1)/\rows.length<=100000/\(rows.length<=40->(∀row∈rows,SqL K H row.1 (row.2.map λ g:Pz=>V.ref g.1)/\(∀g∈row.2,SqT K H g.1 [g.2.1,g.2.2]/\Thing H g.2.1/\Thing H g.2.2)/\row.2.length<64)/\SqL K H e xs/\(∀x∈xs,Thing H x)/\xs.length<64)/\(∀ (rs:List (Addr×List Dz)) (is:List Int),rows=rs.map zj->xs=is.map V.int->1<=rs.length->rs.length<=40->(∀r∈rs,RowG rs.length r.2)->sO rs.length is-> ∀r H' ds es,Same H H'->HsT K H' r ds es->Hs.Srt rs ds->es.Perm is->es.Pairwise (· < ·)->Q (.ref r) H')/\((∀ (rs:List (Addr×List Dz)) (is:List Int),rows=rs.map zj->xs=is.map V.int->1<=rs.length->rs.length<=40->(∀r∈rs,RowG rs.length r.2)->sO rs.length is->False)-> ∀H',Same H H'->E (.ref n6) none H')
def Ff (K:W.Frag) (E:XK) (Eh:XK):TS:=
  (aN (b7 (d7 (cB K) (ak (aj 0) aF)) (aB 2))
  (aN (eV (aX (mL K) [] E (ak (aj 2) aF)))
  (bV (ie (ak (d7 (dN K) (ak (qt [none,some 2] (dF K (aj 0)) (aB 0) eY (aX (lB K) [] E (ak (aj 0) (ak (aj 1) aF)))) aF)) (ak (aX (lC K) [] E (ak (aj 1) (ak (aj 2) aF))) aF))))))
theorem Qa (h:jj K vs H Q E): ∃Eh,Ff K E Eh { nx:=λ _ H'=>Q .non H',rt:=Q } (start ["doors","ends","rooms"] vs) H:=by
 unfold jj at h;obtain ⟨d,e,rows,xs,rfl,hD,hrl,hall,q,qe⟩:=h;refine ⟨E0,?_⟩;unfold Ff;symm;refine fP hD ?_;rw [Qr];symm;refine ⟨(rows.length:Nat),rfl,λ hr1 hr2=> ?_,λ hn=>qe (λ rs is e1 _ g1 g2 _ _=>hn ?_) _ (Same.refl _)⟩
 rotate_left
 ·rw [e1,Qr];exact ⟨by rfl',by rfl'⟩
 obtain ⟨hrow,hE,hx,hxl⟩:=hall (by rfl');symm;refine DY (λ r:Addr×List Pz=>V.ref r.1) (zs:=rows) hD (by rfl') (λ k ys H'=> ∃ (ts:List (Addr×L1S)) (rs:List (Addr×List Dz)),ys=ts.map (λ t=>V.ref t.1)/\ts.length=k/\Same H H'/\rows.take k=rs.map zj/\(∀r∈rs,RowG rows.length r.2)/\ ∀ (j:Nat) t,ts[j]? =some t->DrT K H' t.1 t.2/\ ∀row,rs[j]? =some row->t.2.Perm (row.2.map (·.2))/\(t.2.map (·.1)).Pairwise gY) ⟨[],[],rfl,rfl,Same.refl _,rfl,by simp,by simp⟩ ?_ ?_ ?_ ?_
 ·rintro k ys H' ⟨ts,rs,rfl,_,s',_⟩;exact s'.seq hD
 ·rintro k ys H' ⟨ts,rs,rfl,rfl,_⟩;simp
 ·rintro k row ys H' hk' ⟨ts,rs,rfl,hk,s',ers,hrs,ht⟩;obtain ⟨g1,g2,g3⟩:=hrow row (Zj hk');have hkl:k<rows.length:=(Zf.mp hk').1;have hrsl:rs.length=k:=by
   have:=Yn List.length ers;rw [Ys,Qr] at this;rfl'
  symm;refine ⟨row.1,row.2,rows.length,rfl,s'.seq g1,λ z m=>⟨s'.tup (g2 z m).1,(g2 z m).2.1.same s',(g2 z m).2.2.same s'⟩,g3,λ zs ez gz r H2 ps s2 hdr hp hs=> ?_,λ ne H2 s2=>qe (λ rs2 is e1 _ h1 h2 h3 _=> ?_) _ (s'.trans s2)⟩
  ·refine ⟨ts++[(r,ps)],rs++[(row.1,zs)],by simp,by simp [hk],s'.trans s2,?_,?_,λ j t hj=> ?_⟩
   ·rw [Yj,hk',ers,Zq];show _++[row]=_++[(row.1,zs.map ofD)];rw [<- ez]
   ·intro r mr;rcases Zv.mp mr with mr | mr
    ·exact hrs r mr
    ·rw [Ze.mp mr];exact gz
   rcases Wl j ts.length with w | w
   ·rw [Ye w] at hj;refine ⟨(ht j t hj).1.same s2,λ row' hr'=>(ht j t hj).2 row' ?_⟩;rwa [Ye (by rfl')] at hr'
   ·rw [Yp w] at hj;have e0:j-ts.length=0:=by
     have:=(Zf.mp hj).1;simp at this;rfl'
    rw [e0] at hj
    cases hj;have ej:j=k:=by rfl'
    subst ej;refine ⟨hdr,λ row' hrow'=> ?_⟩;rw [Yp (by rfl'),show j-rs.length=0 by rfl'] at hrow'
    cases hrow';exact ⟨hp,hs⟩
  ·rw [e1,Zg] at hk';obtain ⟨r2,er2,e3⟩:=Yd.mp hk';have hl:rs2.length=rows.length:=by rw [e1,Qr]
   refine ne r2.2 (by rw [<- e3];rfl) ?_;rw [<- hl];exact h3 r2 (Zj er2)
 rintro ys H3 ⟨ts,rs,rfl,hk,s3,ers,hrs,ht⟩ p hp;rw [Yy] at ers;have hl:rs.length=rows.length:=by rw [ers,Qr]
 symm;refine iz (SqL.of au) λ td htd=> ?_
 symm;have sp2:Same H3 (upd (upd H3 p (.lst (ts.map λ t=>V.ref t.1))) td (.tup (ts.map λ t=>V.ref t.1))):=(aH hp _).new htd;refine ⟨e,xs,rows.length,rfl,nH htd (nH hp (s3.seq hE)),λ x mx=>((hx x mx).same s3).same sp2,hxl,λ is exs gi te H5 es s5 e5 pe se=> ?_,λ ne H5 s5=>qe (λ rs2 is e1 e2 _ _ _ h6=> ?_) _ ((s3.trans sp2).trans s5)⟩
 ·symm;intro h hh;have sx:Same H3 H5:=sp2.trans s5;refine q rs is ers exs (by rfl') (by rfl') (λ r mr=>by rw [hl];exact hrs r mr) (by rw [hl];exact gi) h _ (ts.map (·.2)) es (s3.trans (sx.new hh)) ⟨td,te,ts,au,rfl,aO hh (s5.get au),λ t m=> ?_,aO hh e5⟩ ⟨by rw [Qr,hk,hl],λ j ps row hj hrow'=> ?_⟩ pe se
  ·obtain ⟨j,hj,ej⟩:=Zu.mp m;exact (ht j t (by rw [Qb hj,ej])).1.same (sx.new hh)
  ·rw [Zg] at hj;obtain ⟨t,et,rfl⟩:=Yd.mp hj;exact (ht j t et).2 row hrow'
 ·refine ne is e2 ?_;have hl2:rs2.length=rows.length:=by rw [e1,Qr]
  rw [<- hl2];exact h6
theorem Qc (h:jj K vs H Q E):vs.length=2:=by
 unfold jj at h;obtain ⟨_,_,_,_,rfl,_⟩:=h;rfl
def mO (K:W.Frag):Sp:=λ vs H Q _=> ∃ (a:Addr) (ps:L1S) (s:Str),vs=[.ref a, .str s]/\DrT K H a ps/\Q (ov (Hs.dr ps s)) H
def Fg (K:W.Frag) (E:XK) (Eh:XK):TS:=
  (aN (dG (mW K (aj 0)) (km K 2 (cN (aB 2) (cN (aB 3) mV))) (cu (bh (aW pJ (aj 2) (aj 1))) (bV (aj 3)) bD))
  (bV (tC V.non)))
theorem Qd (h:mO K vs H Q E): ∃Eh,Fg K E Eh { nx:=λ _ H'=>Q .non H',rt:=Q } (start ["doors","sign","letter","room"] vs) H:=by
 unfold mO at h;obtain ⟨a,ps,s,rfl,hdr,q⟩:=h;obtain ⟨zs,rfl,hT,hz⟩:=hdr.sq;refine ⟨E0,?_⟩;unfold Fg;symm;refine p6 (λ z:Addr×Str×Int=>V.ref z.1) hT (λ i σ H'=>H=H'/\Hs.dr (zs.map (·.2)) s=Hs.dr ((zs.map (·.2)).drop i) s/\ ∃o1 o2,σ=[some (.ref a),some (.str s),o1,o2]) ⟨rfl,rfl,none,none,rfl⟩ ?_ ?_ ?_
 ·rintro i σ _ ⟨rfl,_⟩;exact hT
 ·rintro i ⟨b,l,r⟩ σ _ hi ⟨rfl,e,o1,o2,rfl⟩;have tz:=hz _ (Zj hi);dsimp only at tz;have hl:i<zs.length:=(Zf.mp hi).1;have hdrop:(zs.map (·.2)).drop i=(l,r)::(zs.map (·.2)).drop (i+1):=by
   rw [Wt (by simpa using hl),Xf,(Zf.mp hi).2]
  rw [hdrop,Hs.fJ] at e;symm;refine gw tz rfl ?_;symm;refine fG (λ c=> ?_) λ c=> ?_
  ·symm;rw [e,if_pos c] at q;exact q
  ·symm;exact ⟨rfl,by rw [e,if_neg c],_,_,rfl⟩
 ·rintro σ _ ⟨rfl,e,o1,o2,rfl⟩;symm;rw [e,<- Qr (f:=(·.2)),List.drop_length] at q;exact q
theorem Qe (h:mO K vs H Q E):vs.length=2:=by
 unfold mO at h;obtain ⟨_,_,_,rfl,_⟩:=h;rfl
def jy (K:W.Frag):Sp:=λ vs H Q _=> ∃ (a:Addr) (ds:L2S) (es:List Int) (cs:List Nat),vs=[.ref a, .str (tx cs)]/\HsT K H a ds es/\Hs.Wf ds/\Q (ov (Hs.go ds cs)) H
def xf (K:W.Frag) (E:XK) (Eh:XK):TS:=
  (aN (b7 (tC (V.int 0)) (aB 2))
  (aN (dG (Kc (aj 1)) (aB 3) (aN (b7 (aX (mO K) [] E0 (ak (aW (bu K) (aW (bu K) (aj 0) (tC (V.int 0))) (aj 2)) (ak (aj 3) aF))) (aB 2))
  (cu (bh (aW gP (aj 2) (tC V.non))) (bV (tC V.non)) bD)))
  (bV (aj 2))))
theorem Lq (h:jy K vs H Q E): ∃Eh,xf K E Eh { nx:=λ _ H'=>Q .non H',rt:=Q } (start ["house","text","room","sign"] vs) H:=by
 unfold jy at h;obtain ⟨a,ds,es,cs,rfl,hH,wf,q⟩:=h;refine ⟨E0,?_⟩;unfold xf;obtain ⟨d,e,h1,h2,rs,h3,hlr,h4⟩:=hH.at;symm;refine PN (λ i σ H'=>H=H'/\ ∃r o,Hs.go ds (cs.take i)=some r/\σ=[some (.ref a),some (.str (tx cs)),some (.int r),o]) ⟨rfl,0,none,rfl,rfl⟩ ?_ ?_
 ·rintro i c σ _ hc ⟨rfl,r,o,er,rfl⟩;have hc':cs[i]? =some c:=by simpa [tx] using hc
  have et:cs.take (i+1)=cs.take i++[c]:=by rw [Yj,hc'];rfl
  obtain ⟨g0,g1⟩:=Hs.mJ wf er;obtain ⟨b,hb,hd⟩:=h4 g0 g1;have step:Hs.go ds (cs.take (i+1))=Hs.dr (ds.getD r.toNat []) (tx [c]):=by rw [et,Hs.cD,er];rfl
  symm;refine bj h1 (aJ (j:=0) (v:= .ref d) rfl) ?_;symm;refine bj h3 hb ?_;symm;refine ⟨b,_,tx [c],rfl,hd,?_⟩;rw [<- step];clear step;generalize er2:Hs.go ds (cs.take (i+1))=go2
  cases go2 with
  | none=>
   symm;refine IV rfl ?_;symm;have:=Hs.nJ (ys:=cs.drop (i+1)) er2;rw [List.take_append_drop] at this;rw [this] at q;exact q
  | some r2=>
   symm;refine mG (by intro h;cases h) ?_;symm;exact ⟨rfl,r2,_,rfl,rfl⟩
 ·rintro σ _ ⟨rfl,r,o,er,rfl⟩;rw [show (tx cs).cps.size=cs.length from rfl,Yy] at er;rw [er] at q;symm;exact q
theorem Lr (h:jy K vs H Q E):vs.length=2:=by
 unfold jy at h;obtain ⟨_,_,_,_,rfl,_⟩:=h;rfl
def jz (K:W.Frag):Sp:=λ vs H Q _=> ∃ (a:Addr) (ds:L2S) (es:List Int) (cs:List Nat),vs=[.ref a, .str (tx cs)]/\HsT K H a ds es/\Hs.Wf ds/\Q (.bl (inV (ov (Hs.go ds cs)) (es.map V.int))) H
def xg (K:W.Frag) (E:XK) (Eh:XK):TS:=
  (bV (aW (vN K false) (aX (jy K) [] E0 (ak (aj 0) (ak (aj 1) aF))) (aW (bu K) (aj 0) (tC (V.int 1)))))
theorem Ls (h:jz K vs H Q E): ∃Eh,xg K E Eh { nx:=λ _ H'=>Q .non H',rt:=Q } (start ["house","text"] vs) H:=by
 unfold jz at h;obtain ⟨a,ds,es,cs,rfl,hH,wf,q⟩:=h;refine ⟨E0,?_⟩;unfold xg;obtain ⟨d,e,h1,h2,rs,h3,hlr,h4⟩:=hH.at;symm;refine ⟨a,ds,es,cs,rfl,hH,wf,?_⟩;symm;refine bj h1 (aJ (j:=1) (v:= .ref e) rfl) ?_;symm;exact wR (.inr h2) (HB _) (eZ _) q
theorem Lw (h:jz K vs H Q E):vs.length=2:=by
 unfold jz at h;obtain ⟨_,_,_,_,rfl,_⟩:=h;rfl
theorem gU {α:Type} [DecidableEq α]: ∀ {l m:List α},l.Nodup->(∀x∈l,x∈m)->l.length<=m.length
 | [],m,_,_=>Yu _
 | x::l,m,hn,hs=>by
  have hx:=hs x Zy;obtain ⟨n1,n2⟩:=Xv.mp hn;have:=gU (l:=l) (m:=m.erase x) n2 λ y my=>(List.mem_erase_of_ne (λ (e:y=x)=>n1 (by rw [<- e];exact my))).mpr (hs y (Zr _ my))
  rw [List.length_erase_of_mem hx] at this;have:=Wr hx;rw [Xx];rfl'
def qJ (ds:L2S) (a:List (Option Int)) (r:Nat) (d:Int):Prop:= ∃p∈ds.getD r [],a.getD p.2.toNat none=some d
structure Dep (ds:L2S) (es:List Int) (a:List (Option Int)) (D:Int):Prop where
 len:a.length=ds.length
 z: ∀r:Nat,r<ds.length->(a.getD r none=some 0↔(r:Int)∈es)
 up: ∀ (r:Nat) d,a.getD r none=some d->0<=d/\d<=D
 st: ∀ (r:Nat) d,a.getD r none=some d->1<=d->qJ ds a r (d-1)/\ ∀d'<d-1,¬qJ ds a r d'
 no: ∀r:Nat,r<ds.length->a.getD r none=none-> ∀d<D,¬qJ ds a r d
def tZ (ds:L2S) (a:List (Option Int)) (D:Int) (r:Nat):Option Int:=open Classical in if a.getD r none=none/\qJ ds a r D then some (D+1) else a.getD r none
def dj (ds:L2S) (a:List (Option Int)) (D:Int):List (Option Int):=(List.range ds.length).map (tZ ds a D)
theorem dC {ds:L2S} {a:List (Option Int)} {D:Int} (hl:a.length=ds.length) (r:Nat):(dj ds a D).getD r none=if r<ds.length then tZ ds a D r else none:=by
 unfold dj;rw [Zb,Zg];by_cases h:r<ds.length
 ·rw [List.getElem?_range h,if_pos h];rfl
 ·rw [Yb (by rw [Yv];rfl'),if_neg h];rfl
theorem eN {ds:L2S} {es:List Int} {a:List (Option Int)} {D:Int} (h:Dep ds es a D) (r:Nat) (d:Int) (hd:d<=D):(dj ds a D).getD r none=some d↔a.getD r none=some d:=by
 rw [dC h.len];by_cases hr:r<ds.length
 ·rw [if_pos hr];unfold tZ;by_cases c:a.getD r none=none/\qJ ds a r D
  ·rw [if_pos c,c.1];refine ⟨λ e=> ?_,λ e=>nomatch e⟩;have:=Zx e;rfl'
  ·rw [if_neg c]
 ·rw [if_neg hr,Zb,Yb (by rw [h.len];rfl')];rfl
theorem jR {ds:L2S} {es:List Int} {a:List (Option Int)} {D:Int} (h:Dep ds es a D) (r:Nat) (d:Int) (hd:d<=D):qJ ds (dj ds a D) r d↔qJ ds a r d:=by
 unfold qJ;constructor
 ·rintro ⟨p,mp,e⟩;exact ⟨p,mp,(eN h _ d hd).mp e⟩
 ·rintro ⟨p,mp,e⟩;exact ⟨p,mp,(eN h _ d hd).mpr e⟩
theorem Dep.next {ds:L2S} {es:List Int} {a:List (Option Int)} {D:Int} (h:Dep ds es a D) (hD:0<=D):Dep ds es (dj ds a D) (D+1) where
 len:=by unfold dj;simp
 z:=λ r hr=>by rw [eN h r 0 hD];exact h.z r hr
 up := λ r d e => by
  by_cases hd:d<=D
  ·have:=h.up r d ((eN h r d hd).mp e);rfl'
  ·rw [dC h.len] at e;split at e
   ·unfold tZ at e;split at e
    ·have:=Zx e;rfl'
    ·have:=h.up r d e;rfl'
   ·cases e
 st := λ r d e h1 => by
  by_cases hd:d<=D
  ·obtain ⟨g1,g2⟩:=h.st r d ((eN h r d hd).mp e) h1;exact ⟨(jR h r _ (by rfl')).mpr g1,λ d' hd' hh=>g2 d' hd' ((jR h r d' (by rfl')).mp hh)⟩
  ·rw [dC h.len] at e;split at e
   ·rename_i hr;unfold tZ at e;split at e
    ·rename_i c;have ed:=Zx e;have e2:d-1=D:=by rfl'
     rw [e2];exact ⟨(jR h r D (Int.le_refl _)).mpr c.2,λ d' hd' hh=>h.no r hr c.1 d' hd' ((jR h r d' (by rfl')).mp hh)⟩
    ·have:=h.up r d e;rfl'
   ·cases e
 no := λ r hr e d hd hh => by
  have hh':=(jR h r d (by rfl')).mp hh;rw [dC h.len,if_pos hr] at e;unfold tZ at e;split at e
  ·cases e
  ·rename_i c;by_cases hdD:d=D
   ·subst hdD;exact c ⟨e,hh'⟩
   ·exact h.no r hr e d (by rfl') hh'
theorem Dep.down {ds:L2S} {es:List Int} {a:List (Option Int)} {D:Int} (h:Dep ds es a D) (hn:1<=ds.length): ∀ (k:Nat) (r:Nat),a.getD r none=some (k:Int)-> ∀j:Nat,j<=k->(some (j:Int))∈a:=by
 have mem: ∀ (r:Nat) (d:Int),a.getD r none=some d->some d∈a:=λ r d e=>by
  rw [Zb] at e
  cases e2:a[r]? with
  | none=>rw [e2] at e;cases e
  | some v=>
   rw [e2] at e;have:v=some d:=e;rw [<- this];exact Zj e2
 intro k;induction k with
 | zero=>intro r e j hj;rw [show j=0 by rfl'];exact mem r _ e
 | succ k ih=>
  intro r e j hj;by_cases c:j=k+1
  ·subst c;exact mem r _ e
  ·obtain ⟨⟨p,_,ep⟩,_⟩:=h.st r _ e (by rfl');rw [show ((k+1:Nat):Int)-1=(k:Int) by rfl'] at ep;exact ih p.2.toNat ep j (by rfl')
def bR (ds:L2S) (es:List Int):Nat->List (Option Int)
 | 0=>(List.range ds.length).map λ r:Nat=>if (r:Int)∈es then some 0 else none
 | k+1=>dj ds (bR ds es k) (k:Int)
theorem fQ (ds:L2S) (es:List Int) (k:Nat):(bR ds es k).length=ds.length:=by
 cases k with
 | zero=>unfold bR;simp
 | succ k=>unfold bR dj;simp
theorem vd (ds:L2S) (es:List Int): ∀k:Nat,Dep ds es (bR ds es k) (k:Int)
 | 0=>by
  have g: ∀r:Nat,(bR ds es 0).getD r none=if r<ds.length then (if (r:Int)∈es then some 0 else none) else none:=λ r=>by
   unfold bR;rw [Zb,Zg];by_cases h:r<ds.length
   ·rw [List.getElem?_range h,if_pos h];rfl
   ·rw [Yb (by rw [Yv];rfl'),if_neg h];rfl
  have g2: ∀ (r:Nat) (d:Int),(bR ds es 0).getD r none=some d->d=0:=λ r d e=>by
   rw [g] at e;split at e
   ·split at e
    ·exact (Zx e).symm
    ·cases e
   ·cases e
  refine ⟨fQ _ _ _,λ r hr=> ?_,λ r d e=>by have:=g2 r d e;rfl',λ r d e h1=>by have:=g2 r d e;rfl',λ r hr e d hd hh=> ?_⟩
  ·rw [g,if_pos hr];by_cases c:(r:Int)∈es
   ·rw [if_pos c];exact ⟨λ _=>c,λ _=>rfl⟩
   ·rw [if_neg c];exact ⟨λ e=>(by cases e),λ e=>absurd e c⟩
  ·obtain ⟨p,_,ep⟩:=hh;have:=g2 _ _ ep;rfl'
 | k+1=>by
  have:=(vd ds es k).next (by rfl');rw [show ((k+1:Nat):Int)=(k:Int)+1 by rfl'];exact this
def gW (ds:L2S) (es:List Int):List (Option Int):=bR ds es (ds.length-1)
theorem Jr {ds:L2S} (es:List Int) (h:0<ds.length):Dep ds es (gW ds es) ((ds.length-1:Nat):Int):=vd ds es _
inductive TailR (ds:L2S) (a:List (Option Int)):Int->Int->List Nat->Prop
 | nil {r:Int}:a.getD r.toNat none=some 0->TailR ds a r 0 []
 | cons {r d r':Int} {c:Nat} {us:List Nat}:a.getD r.toNat none=some (d+1)->0<=d->(ds.getD r.toNat []).find? (λ p=>decide (a.getD p.2.toNat none=some d))=some (tx [c],r')->TailR ds a r' d us->TailR ds a r (d+1) (c::us)
theorem TailR.len {ds:L2S} {a:List (Option Int)} {r d:Int} {us:List Nat} (h:TailR ds a r d us):(us.length:Int)=d:=by
 induction h with
 | nil _=>rfl
 | cons _ _ _ _ ih=>rw [Xx];rfl'
def pq (K:W.Frag):Sp:=λ vs H Q _=> ∃ (t f:Addr) (ps:L1S) (a:List (Option Int)) (d:Int),vs=[.ref t, .ref f, .int d]/\DrT K H t ps/\SqL K H f (a.map ov)/\(∀p∈ps,0<=p.2/\p.2<a.length)/\(∀ (z:Addr) (p:Str×Int),H z=some (.tup [.str p.1, .int p.2])->ps.find? (λ p=>decide (a.getD p.2.toNat none=some d))=some p->Q (.ref z) H)/\(ps.find? (λ p=>decide (a.getD p.2.toNat none=some d))=none->Q .non H)
def Fi (K:W.Frag) (E:XK) (Eh:XK):TS:=
  (aN (dG (mW K (aj 0)) (aB 3) (cu (bh (aW pJ (aW (gJ K) (aj 1) (aW (bu K) (aj 3) (tC (V.int 1)))) (aj 2))) (bV (aj 3)) bD))
  (bV (tC V.non)))
theorem Qf (h:pq K vs H Q E): ∃Eh,Fi K E Eh { nx:=λ _ H'=>Q .non H',rt:=Q } (start ["doors","found","depth","door"] vs) H:=by
 unfold pq at h;obtain ⟨t,f,ps,a,d,rfl,hT,hF,hr,q,qn⟩:=h;refine ⟨E0,?_⟩;unfold Fi;obtain ⟨zs,rfl,hz1,hz2⟩:=hT;symm;refine p6 (λ z:Addr×Str×Int=>V.ref z.1) (SqT.of hz1) (λ i σ H'=>H'=H/\ ∃o,(∀z∈zs.take i,a.getD z.2.2.toNat none≠some d)/\σ=[some (.ref t),some (.ref f),some (.int d),o]) ⟨rfl,none,by simp,rfl⟩ ?_ ?_ ?_
 ·rintro i σ _ ⟨rfl,_⟩;exact SqT.of hz1
 ·rintro i z σ _ hi ⟨rfl,o,hno,rfl⟩;have mz:=Zj hi;have hil:i<zs.length:=(Zf.mp hi).1;obtain ⟨b0,b1⟩:=hr z.2 (Zc.mpr ⟨z,mz,rfl⟩);have hj:z.2.2.toNat<a.length:=by rfl'
  symm;refine bj (SqT.of (hz2 z mz)) (aJ (j:=1) (v:= .int z.2.2) rfl) ?_;refine gh hF (v:=ov a[z.2.2.toNat]) (by rw [wN b0 (by rw [Qr];exact hj),Xf]) ?_;symm;have eg:a.getD z.2.2.toNat none=a[z.2.2.toNat]:=by rw [Zb,Qb hj];rfl
  have key:decide (ov a[z.2.2.toNat]= .int d)=decide (a[z.2.2.toNat]=some d):=by
   cases a[z.2.2.toNat] with
   | none=>simp [ov]
   | some e=>simp [ov]
  refine s_eq (x:=ov a[z.2.2.toNat]) (y:= .int d) (by cases a[z.2.2.toNat]<;>rfl) ?_;rw [key];symm;refine fG (λ c=> ?_) λ c=> ?_
  ·symm;refine q z.1 z.2 (hz2 z mz) ?_;have e1:zs=zs.take i++z::zs.drop (i+1):=by
    rw [<- (Zf.mp hi).2,<- Wt hil,List.take_append_drop]
   rw [e1,Zq,Zz,List.find?_append,List.find?_eq_none.mpr (λ x mx=> ?_),Wo,eg,c]
   ·simp
   ·obtain ⟨y,my,rfl⟩:=Zc.mp mx;simpa using hno y my
  ·symm;refine ⟨rfl,_,λ y my=> ?_,rfl⟩;rw [Yj,hi] at my;rcases Zv.mp my with my | my
   ·exact hno y my
   ·have:y=z:=by simpa using my
    rw [this,eg];exact c
 ·rintro σ _ ⟨rfl,o,hno,rfl⟩;rw [Yy] at hno;symm;refine qn (List.find?_eq_none.mpr λ x mx=> ?_);obtain ⟨y,my,rfl⟩:=Zc.mp mx;simpa using hno y my
theorem Qg (h:pq K vs H Q E):vs.length=3:=by
 unfold pq at h;obtain ⟨_,_,_,_,_,rfl,_⟩:=h;rfl
def lD (K:W.Frag):Sp:=λ vs H Q _=> ∃ (h:Addr) (ds:L2S) (es:List Int),vs=[.ref h]/\HsT K H h ds es/\Hs.Wf ds/\ds.length<=40/\ ∀ (p:Addr) (H':Hp),H p=none->Same H H'->H' p=some (.lst ((gW ds es).map ov))->Q (.ref p) H'
def xj (K:W.Frag) (E:XK) (Eh:XK):TS:=
  (aN (b7 (qt [none,some 0] (iG (ak (d7 (cB K) (ak (aW (bu K) (aj 0) (tC (V.int 0))) aF)) aF)) (aB 0) eY (QD (bh (aW (vN K false) (aj 0) (aW (bu K) (aj 1) (tC (V.int 1))))) (tC (V.int 0)) (tC V.non))) (aB 1))
  (aN (dG (ym (ak (tC (V.int 1)) (ak (d7 (cB K) (ak (aW (bu K) (aj 0) (tC (V.int 0))) aF)) aF))) (aB 2) (dG (rZ K (ak (aW (bu K) (aj 0) (tC (V.int 0))) aF)) (km K 2 (cN (aB 3) (cN (aB 4) mV))) (cu (jk (bh (aW gP (aW (gJ K) (aj 1) (aj 3)) (tC V.non))) (bh (aW ir (aX (pq K) [] E0 (ak (aj 4) (ak (aj 1) (ak (aW Cm (aj 2) (tC (V.int 1))) aF)))) (tC V.non)))) (b7 (aj 2) (JQ (aj 1) (aj 3) BP)) bD)))
  (bV (aj 1))))
theorem Lx (h:lD K vs H Q E): ∃Eh,xj K E Eh { nx:=λ _ H'=>Q .non H',rt:=Q } (start ["house","answer","depth","room","doors"] vs) H:=by
 unfold lD at h;obtain ⟨h,ds,es,rfl,hH,wf,hl,q⟩:=h;refine ⟨E0,?_⟩;unfold xj;obtain ⟨d,e,rs,h1,ers,h3,h4,h5⟩:=hH;have hrl:rs.length=ds.length:=by rw [<- ers,Qr]
 have hn0:=wf.pos;have i0: ∀ {H':Hp} {Q:VK},Same H H'->Q (.ref d) H'->bu K (.ref h) (.int 0) H' Q:=λ s h=>bj (SqT.of (s.get h1)) (aJ (j:=0) (v:= .ref d) rfl) h
 have i1: ∀ {H':Hp} {Q:VK},Same H H'->Q (.ref e) H'->bu K (.ref h) (.int 1) H' Q:=λ s h=>bj (SqT.of (s.get h1)) (aJ (j:=1) (v:= .ref e) rfl) h
 symm;refine i0 (Same.refl _) ?_;symm;refine gA (SqT.of h3) ?_;rw [Qr,hrl];refine DX ds.length (Zi _) (by rfl') (by rfl') (λ r=>ov (if (r:Int)∈es then some 0 else none)) (λ r hr A kA=> ?_) λ p hp=> ?_
 ·symm;refine i1 (Same.refl _) ?_;refine wR (xs:=es.map V.int) (.inr (SqT.of h5)) rfl (eZ _) ?_;rw [fH];symm;refine fG (λ c=> ?_) λ c=> ?_
  ·rw [if_pos c] at kA;symm;exact kA
  ·rw [if_neg c] at kA;symm;exact kA
 symm;have s1:Same H (upd H p (.lst ((List.range ds.length).map λ r:Nat=>ov (if (r:Int)∈es then some 0 else none)))):=aH hp _;refine i0 s1 ?_;symm;refine gA (SqT.of (s1.get h3)) ?_;rw [Qr,hrl];refine DW (ds.length-1) (by rfl') (by rfl') (by rfl') (by decide) (by decide) (λ i σ H'=>Same H H'/\H' p=some (.lst ((bR ds es i).map ov))/\ ∃o3 o4 o5:Option V,σ=[some (.ref h),some (.ref p),o3,o4,o5]) ⟨s1,by rw [au];unfold bR;rw [Zk];rfl,none,none,none,rfl⟩ ?_ ?_
 ·rintro i σ H1 hi ⟨S1,hp1,o3,o4,o5,rfl⟩;have hD:=vd ds es i;symm;refine i0 S1 ?_;refine La (λ r:Addr×L1S=>V.ref r.1) (xs:=rs) (SqT.of (S1.get h3)) (λ j σ H'=>Same H H'/\(∃xs:List (Option Int),H' p=some (.lst (xs.map ov))/\xs.length=ds.length/\ ∀r:Nat,r<ds.length->xs.getD r none=if r<j then tZ ds (bR ds es i) (i:Int) r else (bR ds es i).getD r none)/\ ∃o4 o5:Option V,σ=[some (.ref h),some (.ref p),some (.int (1+(i:Int))),o4,o5]) ⟨S1,⟨_,hp1,fQ _ _ _,λ r hr=>by rw [if_neg (by rfl')]⟩,o4,o5,rfl⟩ ?_ ?_ ?_
  ·rintro j σ H' ⟨s',_⟩;exact SqT.of (s'.get h3)
  ·rintro j row t σ H' hj ⟨s',⟨xs,hp',hxl,hxs⟩,o4,o5,rfl⟩ ht;have hjl:j<ds.length:=by have:=(Zf.mp hj).1;rfl'
   have hds:ds[j]? =some row.2:=by rw [<- ers,Zg,hj];rfl
   have edg:ds.getD j []=row.2:=by rw [Zb,hds];rfl
   have eD: ∀r:Nat,xs.getD r none=some (i:Int)↔(bR ds es i).getD r none=some (i:Int):=λ r=>by
    by_cases hr:r<ds.length
    ·rw [hxs r hr];by_cases c:r<j
     ·rw [if_pos c];have:=eN hD r (i:Int) (Int.le_refl _);rw [dC hD.len,if_pos hr] at this;exact this
     ·rw [if_neg c]
    ·rw [Zb,Yb (by rfl'),Zb,Yb (by rw [fQ];rfl')]
   have ej:xs.getD j none=(bR ds es i).getD j none:=by rw [hxs j hjl,if_neg (Wd _)]
   have ejx:xs[j]? =some ((bR ds es i).getD j none):=by
    rw [<- ej,Zb,Qb (by rfl')];rfl
   have hpt:p≠t:=aU hp' ht;have hp2:upd H' t (.tup [.int (j:Int), .ref row.1]) p=some (.lst (xs.map ov)):=aO ht hp';have S2:Same H (upd H' t (.tup [.int (j:Int), .ref row.1])):=s'.new ht;refine gw (SqT.of au) rfl ?_;symm;refine gh (SqL.of hp2) (v:=ov ((bR ds es i).getD j none)) (aJ (by rw [Zg,ejx];rfl)) ?_;symm;have keep:(tZ ds (bR ds es i) (i:Int) j=(bR ds es i).getD j none)-> ∀r:Nat,r<ds.length->xs.getD r none=if r<j+1 then tZ ds (bR ds es i) (i:Int) r else (bR ds es i).getD r none:=λ hk r hr=>by
    rw [hxs r hr];by_cases c:r=j
    ·subst c;rw [if_neg (Wd _),if_pos (Nat.lt_succ_self _),hk]
    ·by_cases c2:r<j
     ·rw [if_pos c2,if_pos (by rfl')]
     ·rw [if_neg c2,if_neg (by rfl')]
   cases eo:(bR ds es i).getD j none with
   | some v=>
    refine mG (λ z=>nomatch z) ?_;symm;refine ⟨S2,⟨xs,hp2,hxl,keep ?_⟩,_,_,rfl⟩;unfold tZ;rw [if_neg (λ c=>by rw [eo] at c;cases c.1)]
   | none=>
    show if decide (V.non=V.non)=true then _ else _
    symm;have hwf: ∀q∈row.2,0<=q.2/\q.2<xs.length:=λ q mq=>by
     have:=wf.rm row.2 (Zj hds) q mq;rw [hxl];exact this
    rw [show (1:Int)+(i:Int)-1=(i:Int) by rfl'];refine ⟨row.1,p,row.2,xs,(i:Int),rfl,(h4 _ (Zj hj)).same S2,SqL.of hp2,hwf,λ z q hz hq=> ?_,λ hq=> ?_⟩
    ·have hh:qJ ds (bR ds es i) j (i:Int):=⟨q,by rw [edg];exact List.mem_of_find?_eq_some hq,(eD _).mp (by have:=List.find?_some hq;simpa using this)⟩;symm;refine gr (λ z=>nomatch z) ?_;symm;refine Kv j hp2 rfl (by rw [Qr];rfl') ?_;symm;refine ⟨λ b u hb=> ?_,⟨xs.set j (some (1+(i:Int))),?_,by rw [List.length_set];exact hxl,λ r hr=> ?_⟩,_,_,rfl⟩
     ·rw [aD (λ z=>by rw [z,hp] at hb;cases hb)];exact S2 b u hb
     ·rw [au,List.map_set];rfl
     ·by_cases c:r=j
      ·subst c;rw [if_pos (Nat.lt_succ_self _),Zb,List.getElem?_set_self (by rfl')];unfold tZ;rw [if_pos ⟨eo,hh⟩,Int.add_comm];rfl
      ·rw [Zb,List.getElem?_set_ne (λ z=>c z.symm),<- Zb,hxs r hr];by_cases c2:r<j
       ·rw [if_pos c2,if_pos (by rfl')]
       ·rw [if_neg c2,if_neg (by rfl')]
    ·symm;refine ⟨S2,⟨xs,hp2,hxl,keep ?_⟩,_,_,rfl⟩;unfold tZ;rw [if_neg];rintro ⟨_,q,mq,eq⟩;rw [edg] at mq;have:=List.find?_eq_none.mp hq q mq;exact this (Yh ((eD _).mpr eq))
  ·rintro σ H' ⟨s',⟨xs,hp',hxl,hxs⟩,o4,o5,rfl⟩;symm;refine ⟨s',?_,_,_,_,rfl⟩;rw [hp'];congr 2;congr 1;refine List.ext_getElem (by rw [hxl,fQ]) λ r g1 g2=> ?_
   have hr:r<ds.length:=by rfl'
   have a1:=hxs r hr;rw [if_pos (by rfl'),Zb,Qb g1] at a1;have a2:=dC (D:=(i:Int)) hD.len r;rw [if_pos hr,Zb] at a2;have g3:r<(dj ds (bR ds es i) (i:Int)).length:=g2;rw [Qb g3] at a2;show xs[r]=(dj ds (bR ds es i) (i:Int))[r];exact (show xs[r]=_ from a1).trans (show (dj ds (bR ds es i) (i:Int))[r]=_ from a2).symm
 ·rintro σ H' ⟨s',hp',o3,o4,o5,rfl⟩;symm;exact q p H' hp s' hp'
theorem Ly (h:lD K vs H Q E):vs.length=1:=by
 unfold lD at h;obtain ⟨_,_,_,rfl,_⟩:=h;rfl
def jA (K:W.Frag):Sp:=λ vs H Q _=> ∃ (h:Addr) (ds:L2S) (es:List Int) (ts:List Nat),vs=[.ref h, .str (tx ts)]/\HsT K H h ds es/\Hs.Wf ds/\(∀ps∈ds,∀p∈ps,Hs.Sg p.1)/\ds.length<=40/\((∀r,Hs.go ds ts=some r->(gW ds es).getD r.toNat none=none)-> ∀H',Same H H'->Q .non H')/\ ∀r d us,Hs.go ds ts=some r->(gW ds es).getD r.toNat none=some d->TailR ds (gW ds es) r d us-> ∀H',Same H H'->Q (.str (tx us)) H'
def xm (K:W.Frag) (E:XK) (Eh:XK):TS:=
  (aN (b7 (aX (jy K) [] E0 (ak (aj 0) (ak (aj 1) aF))) (aB 2))
  (aN (b7 (aX (lD K) [] E0 (ak (aj 0) aF)) (aB 3))
  (aN (cu (Gf (bh (aW gP (aj 2) (tC V.non))) (bh (aW gP (aW (gJ K) (aj 3) (aj 2)) (tC V.non)))) (bV (tC V.non)) bD)
  (aN (b7 (ig aF) (aB 4))
  (aN (jl (bh (aW Cq (aW (gJ K) (aj 3) (aj 2)) (tC (V.int 0)))) (aN (b7 (aX (pq K) [] E0 (ak (aW (bu K) (aW (bu K) (aj 0) (tC (V.int 0))) (aj 2)) (ak (aj 3) (ak (aW Cm (aW (gJ K) (aj 3) (aj 2)) (tC (V.int 1))) aF)))) (aB 5))
  (aN (eV (vO K "list" eQ (aj 4) (ak (aW (bu K) (aj 5) (tC (V.int 0))) aF)))
  (b7 (aW (bu K) (aj 5) (tC (V.int 1))) (aB 2)))))
  (bV (vO K "str" (rJoin K) (tC (V.str (Str.ofString ""))) (ak (aj 4) aF))))))))
theorem LC (h:jA K vs H Q E): ∃Eh,xm K E Eh { nx:=λ _ H'=>Q .non H',rt:=Q } (start ["house","text","room","found","signs","door"] vs) H:=by
 unfold jA at h;obtain ⟨h,ds,es,ts,rfl,hH,wf,hsg,hl,qn,q⟩:=h;refine ⟨E0,?_⟩;unfold xm;obtain ⟨dd,ee,h1,h2,rs,h3,hlr,h4⟩:=hH.at;have hn0:=wf.pos;have hdl:(gW ds es).length=ds.length:=fQ _ _ _;have hD:=Jr es hn0;symm;refine ⟨h,ds,es,ts,rfl,hH,wf,?_⟩;symm;refine ⟨h,ds,es,rfl,hH,wf,hl,λ f H1 hf s1 ef=> ?_⟩;have at_: ∀ {r:Int} {H':Hp} {R:VK},Same H1 H'->0<=r->r<ds.length->R (ov ((gW ds es).getD r.toNat none)) H'->gJ K (.ref f) (.int r) H' R:=λ {r H' R} s g0 g1 k=>by
  have hj:r.toNat<(gW ds es).length:=by rfl'
  refine gh (SqL.of (s.get ef)) (v:=ov ((gW ds es).getD r.toNat none)) ?_ k;rw [wN g0 (by rw [Qr];exact hj),Xf,Zb,Qb hj];rfl
 symm
 cases eg:Hs.go ds ts with
 | none=>
  show if decide (V.non=V.non)=true then _ else _
  symm;exact qn (λ r e=>by rw [eg] at e;cases e) _ s1
 | some r0=>
  obtain ⟨g0,g1⟩:=Hs.mJ wf eg;refine mG (λ z=>nomatch z) ?_;symm;refine at_ (Same.refl _) g0 g1 ?_
  cases er:(gW ds es).getD r0.toNat none with
  | none=>
   symm;show if decide (V.non=V.non)=true then _ else _
   symm;exact qn (λ r e=>by rw [eg] at e;cases e;exact er) _ s1
  | some d0=>
   symm;refine mG (λ z=>nomatch z) ?_;symm;intro sl hsl;symm;walk_at "ns";have hd0:=hD.up _ _ er;refine sE (λ σ H'=> ∃ (cs:List Nat) (r d:Int) (o6:Option V),Same H1 H'/\H' sl=some (.lst (cs.map λ c=>V.str (tx [c])))/\0<=r/\r<ds.length/\(gW ds es).getD r.toNat none=some d/\0<=d/\(cs.length:Int)+d=d0/\(∀us,TailR ds (gW ds es) r d us->TailR ds (gW ds es) r0 d0 (cs++us))/\σ=[some (.ref h),some (.str (tx ts)),some (.int r),some (.ref f),some (.ref sl),o6]) (λ σ _=>match σ with | [_,_,some (.int r),_,_,_]=>(((gW ds es).getD r.toNat none).getD 0).toNat | _=>0) ⟨[],r0,d0,none,aH hsl _,au,g0,g1,er,hd0.1,by simp,λ us h=>h,rfl⟩ ?_ ?_
   ·rintro σ H2 ⟨cs,r,d,o6,s2,esl,g0,g1,ed,hd,hcd,ht,rfl⟩;symm;refine at_ s2 g0 g1 ?_;rw [ed];symm;show Cq (.int d) (.int 0) _ _;symm;refine fG (λ c=> ?_) λ c=> ?_
    ·obtain ⟨b,eb,hT⟩:=h4 g0 g1;have S2:=s1.trans s2;have e9:=Hs.getD_at (xs:=ds) (d:=[]) g0 g1;have hrow: ∀p∈ds.getD r.toNat [],(0<=p.2/\p.2<ds.length)/\Hs.Sg p.1:=λ p mp=>by
      rw [e9] at mp;exact ⟨wf.rm _ (Zl _) p mp,hsg _ (Zl _) p mp⟩
     symm;refine bj (S2.tup h1) (aJ (j:=0) (v:= .ref dd) rfl) ?_;symm;refine bj (S2.tup h3) eb ?_;symm;refine at_ s2 g0 g1 ?_;rw [ed];symm;show Cm (.int d) (.int 1) _ _;symm;refine ⟨b,f,_,gW ds es,d-1,rfl,hT.same S2,SqL.of (s2.get ef),λ p mp=>by rw [hdl];exact (hrow p mp).1,λ z p hz hp=> ?_,λ hp=> ?_⟩
     ·have mp:=List.mem_of_find?_eq_some hp;obtain ⟨⟨w0,w1⟩,k,ek⟩:=hrow p mp;have ep:(gW ds es).getD p.2.toNat none=some (d-1):=by have:=List.find?_some hp;simpa using this
      symm;walk_at "ns";refine jP (SqL.of esl) ?_;symm;refine bj (SqT.of hz) (aJ (j:=0) (v:= .str p.1) rfl) ?_;symm;refine mH esl (by rw [Qr];rfl') ?_;symm;have hzs:z≠sl:=λ e=>by rw [e,esl] at hz;cases hz
      refine bj (SqT.of (by rw [aD hzs];exact hz)) (aJ (j:=1) (v:= .int p.2) rfl) ?_;symm;refine ⟨⟨cs++[Hs.El k],p.2,d-1,_,λ b u hb=> ?_,by rw [au,Zq,ek];rfl,w0,w1,ep,by rfl',by rw [Yl];show ((cs.length+1:Nat):Int)+(d-1)=d0;rfl',λ us hu=> ?_,rfl⟩,?_⟩
      ·rw [aD (λ e=>by rw [e,hsl] at hb;cases hb)];exact s2 b u hb
      ·rw [Wx];refine ht _ ?_;have:=TailR.cons (r:=r) (c:=Hs.El k) (r':=p.2) (d:=d-1) (by rw [ed];congr 1;rfl') (by rfl') (by rw [hp];congr 1;exact Prod.ext ek rfl) hu;rw [show d-1+1=d by rfl'] at this;exact this
      ·show (((gW ds es).getD p.2.toNat none).getD 0).toNat<(((gW ds es).getD r.toNat none).getD 0).toNat;rw [ep,ed];show (d-1).toNat<d.toNat;rfl'
     ·obtain ⟨⟨p,mp,ep⟩,_⟩:=hD.st _ _ ed (by rfl');exact absurd (Yh ep) (List.find?_eq_none.mp hp p mp)
    ·have e0:d=0:=by rfl'
     subst e0;symm;refine Kw (ys:=cs.map λ c=>tx [c]) (by rw [Zk];exact SqL.of esl) ?_ ?_
     ·rw [Zk,show (λ c=>tx [c])=λ c:Nat=>tx [c] from rfl];have: ∀l:List Nat,(l.map ((λ x:Str=>x.length)∘λ c=>tx [c])).sum=l.length:=λ l=>by
       induction l with
       | nil=>rfl
       | cons c l ih=>rw [Zz,List.sum_cons,ih,Xx];show 1+_=_;rfl'
      rw [this,Qr];show cs.length+cs.length*0<=_;rfl'
     ·rw [join_ones];refine q r0 d0 cs eg er ?_ _ (s1.trans s2);have:=ht [] (.nil ed);rw [Xd] at this;exact this
   ·rintro σ H Q Q' hq ⟨v,hv,w,hw,p,xs,i,u,e1,e2,e3,e4,i',j',e5,e6,k,e7,z⟩;exact ⟨v,hv,w,hw,p,xs,i,u,e1,e2,e3,e4,i',j',e5,e6,k,e7,hq _ _ z⟩
theorem LK (h:jA K vs H Q E):vs.length=2:=by
 unfold jA at h;obtain ⟨_,_,_,_,rfl,_⟩:=h;rfl
def zm (us:List Str):List (Key×V):=us.map λ s=>(Sum.inr s,V.bl true)
theorem xn (s:Str): ∀us:List Str,dh (zm us) (Sum.inr s)=if s∈us then some (.bl true) else none
 | []=>rfl
 | u::r=>by
  by_cases h:u=s
  ·subst h;rw [if_pos Zy];exact gK rfl
  ·have:dh (zm (u::r)) (Sum.inr s)=dh (zm r) (Sum.inr s):=fM (λ e=>h (Sum.inr.inj e));rw [this,xn s r];by_cases m:s∈r
   ·rw [if_pos m,if_pos (Zr _ m)]
   ·rw [if_neg m,if_neg (λ z=>(Zp.mp z).elim (λ e=>h e.symm) m)]
theorem LQ (s:Str) (us:List Str):putK (zm us) (Sum.inr s) (.bl true)=zm (if s∈us then us else us++[s]):=by
 by_cases h:s∈us
 ·rw [if_pos h];unfold putK;rw [gM,xn,if_pos h,if_pos (show (some (V.bl true)).isSome=true from rfl)];unfold zm;rw [Zk];apply Xu;intro t _;show (if (Sum.inr t:Key)=Sum.inr s then ((Sum.inr t:Key),V.bl true) else (Sum.inr t,V.bl true))=_;split<;>rfl
 ·rw [if_neg h,gO _ (by rw [xn,if_neg h])];unfold zm;rw [Zq];rfl
def T3 (ws:List (List Nat)) (y:List Nat):Prop:=y=[]\/ ∃w∈ws,y<+:w
structure StS (ws bs:List (List Nat)):Prop where
 up:bs.Pairwise (· < ·)
 mem: ∀y,y∈bs↔T3 ws y
theorem Fj {α:Type} [DecidableEq α]: ∀ {l m:List α},l.Nodup->(∀x∈l,x∈m)->l.length<=m.length
 | [],m,_,_=>Yu _
 | x::l,m,hn,hs=>by
  have hx:=hs x Zy;obtain ⟨n1,n2⟩:=Xv.mp hn;have:=Fj (l:=l) (m:=m.erase x) n2 λ y my=>(List.mem_erase_of_ne (λ (e:y=x)=>n1 (by rw [<- e];exact my))).mpr (hs y (Zr _ my))
  rw [List.length_erase_of_mem hx] at this;have:=Wr hx;rw [Xx];rfl'
theorem jU {a b:List Nat} (h:tx a=tx b):a=b:=by
 have:=Yn (λ s:Str=>s.cps.toList) h;exact this
structure FdS (ws:List (List Nat)) (us:List Str) (w:List Nat) (k:Nat):Prop where
 nd:us.Nodup
 mem: ∀y,tx y∈us↔T3 ws y\/ ∃j,j<=k/\y=w.take j
 le:us.length<=1+(ws.map List.length).sum+k
theorem FdS.put {ws:List (List Nat)} {us:List Str} {w:List Nat} {k:Nat} (h:FdS ws us w k):FdS ws (if tx (w.take (k+1))∈us then us else us++[tx (w.take (k+1))]) w (k+1):=by
 by_cases m:tx (w.take (k+1))∈us
 ·rw [if_pos m];refine ⟨h.nd,λ y=>⟨λ z=> ?_,λ z=> ?_⟩,by have:=h.le;rfl'⟩
  ·rcases (h.mem y).mp z with z | ⟨j,hj,e⟩
   ·exact .inl z
   ·exact .inr ⟨j,by rfl',e⟩
  ·rcases z with z | ⟨j,hj,e⟩
   ·exact (h.mem y).mpr (.inl z)
   ·by_cases c:j<=k
    ·exact (h.mem y).mpr (.inr ⟨j,c,e⟩)
    ·rw [e,show j=k+1 by rfl'];exact m
 ·rw [if_neg m];refine ⟨List.nodup_append.mpr ⟨h.nd,by simp,λ a ha b hb e=>m (by rw [Ze.mp hb] at e;rw [<- e];exact ha)⟩,λ y=> ?_,by rw [Yl];have:=h.le;simp;rfl'⟩;rw [Zv,h.mem,Ze];constructor
  ·rintro ((z | ⟨j,hj,e⟩) | e)
   ·exact .inl z
   ·exact .inr ⟨j,by rfl',e⟩
   ·exact .inr ⟨k+1,Zn _,jU e⟩
  ·rintro (z | ⟨j,hj,e⟩)
   ·exact .inl (.inl z)
   ·by_cases c:j<=k
    ·exact .inl (.inr ⟨j,c,e⟩)
    ·exact .inr (by rw [e,show j=k+1 by rfl'])
theorem FdS.next {ws:List (List Nat)} {us:List Str} {w:List Nat} (h:FdS ws us w w.length) (w2:List Nat):FdS (ws++[w]) us w2 0:=by
 refine ⟨h.nd,λ y=> ?_,by rw [Zq,List.sum_append];have:=h.le;simp;rfl'⟩;rw [h.mem];constructor
 ·rintro ((e | ⟨v,mv,p⟩) | ⟨j,hj,e⟩)
  ·exact .inl (.inl e)
  ·exact .inl (.inr ⟨v,Xo _ mv,p⟩)
  ·exact .inl (.inr ⟨w,Yg _ (by simp),by rw [e];exact List.take_prefix _ _⟩)
 ·rintro ((e | ⟨v,mv,p⟩) | ⟨j,hj,e⟩)
  ·exact .inl (.inl e)
  ·rcases Zv.mp mv with mv | mv
   ·exact .inl (.inr ⟨v,mv,p⟩)
   ·rw [Ze.mp mv] at p;exact .inr ⟨y.length,p.length_le,(List.prefix_iff_eq_take.mp p)⟩
  ·rw [show j=0 by rfl',List.take_zero] at e;exact .inl (.inl e)
theorem FdS.zero (w:List Nat):FdS [] [tx []] w 0:=
 ⟨by simp,λ y=>⟨λ z=> .inl (.inl (jU (Ze.mp z))),λ z=>by
  rcases z with (e | ⟨v,mv,_⟩) | ⟨j,hj,e⟩
  ·rw [e];simp
  ·cases mv
  ·rw [show j=0 by rfl',List.take_zero] at e;rw [e];simp⟩,by simp⟩
theorem FdS.start {ws:List (List Nat)} {us:List Str} {v:List Nat} (h:FdS ws us v 0) (w:List Nat):FdS ws us w 0:=
 ⟨h.nd,λ y=>by
  rw [h.mem];constructor
  ·rintro (z | ⟨j,hj,e⟩)
   ·exact .inl z
   ·rw [show j=0 by rfl',List.take_zero] at e;exact .inl (.inl e)
  ·rintro (z | ⟨j,hj,e⟩)
   ·exact .inl z
   ·rw [show j=0 by rfl',List.take_zero] at e;exact .inl (.inl e),h.le⟩
theorem vf: ∀ (l:List (List Nat)) (i:Nat),((l.take i).map List.length).sum<=(l.map List.length).sum
 | [],i=>by rw [List.take_nil];exact Zn _
 | x::l,0=>Yu _
 | x::l,i+1=>by
  rw [List.take_succ_cons,Zz,Zz,List.sum_cons,List.sum_cons];exact Nat.add_le_add_left (vf l i) _
theorem FdS.sort {ws:List (List Nat)} {us ns:List Str} (h:FdS ws us [] 0) (hp:ns.Perm us) (hu:ns.Pairwise gY): ∃bs,ns=bs.map tx/\StS ws bs:=by
 refine ⟨ns.map λ s:Str=>s.cps.toList,by rw [Zk];exact (List.map_id ns).symm,Xl.mpr hu,λ y=> ?_⟩;constructor
 ·intro m;obtain ⟨s,ms,rfl⟩:=Zc.mp m;rcases (h.mem s.cps.toList).mp (hp.mem_iff.mp ms) with z | ⟨j,_,e⟩
  ·exact z
  ·rw [List.take_nil] at e;exact .inl e
 ·intro z;exact Zc.mpr ⟨tx y,hp.mem_iff.mpr ((h.mem y).mpr (.inl z)),rfl⟩
def vz (bs:List (List Nat)):List (Key×V):=bs.zipIdx.map λ p=>(Sum.inr (tx p.1),V.int (p.2:Int))
theorem HJ (bs:List (List Nat)) (b:List Nat):vz (bs++[b])=vz bs++[(Sum.inr (tx b),V.int (bs.length:Int))]:=by
 unfold vz;rw [List.zipIdx_append,Zq];simp
theorem pA (bs:List (List Nat)):(vz bs).length=bs.length:=by unfold vz;rw [Qr,List.length_zipIdx]
theorem HN {bs:List (List Nat)} {b:List Nat} (h:b∉bs):dh (vz bs) (Sum.inr (tx b))=none:=by
 unfold dh;rw [Option.map_eq_none_iff,List.find?_eq_none];intro x hx;unfold vz at hx;obtain ⟨⟨c,j⟩,mc,rfl⟩:=Zc.mp hx;simp only [decide_eq_true_eq];intro e;have:=jU (Sum.inr.inj e);exact h (this▸(List.mem_zipIdx mc).2.2▸Zl _)
theorem sS {bs:List (List Nat)} (hn:bs.Nodup) {j:Nat} {b:List Nat} (h:bs[j]? =some b):dh (vz bs) (Sum.inr (tx b))=some (V.int (j:Int)):=by
 have hj:j<bs.length:=(Zf.mp h).1;have hb:bs[j]=b:=(Zf.mp h).2;unfold dh;have hf:(vz bs).find? (λ kv=>decide (kv.1=(Sum.inr (tx b):Key)))=some (Sum.inr (tx b),V.int (j:Int)):=by
  rw [List.find?_eq_some_iff_getElem];refine ⟨by simp,j,by rw [pA];exact hj,by unfold vz;simp [hb],λ k hk=> ?_⟩;unfold vz;simp only [Xf,List.getElem_zipIdx,Bool.not_eq_true',decide_eq_false_iff_not];intro e;have e2:bs[k]=bs[j]:=by rw [hb];exact jU (Sum.inr.inj e)
  have:=(List.getElem_inj hn).mp e2;rfl'
 rw [hf];rfl
def kids (bs:List (List Nat)) (i:Nat) (b:List Nat):L1S:=((bs.take i).zipIdx.filter λ p=>decide (p.1≠[]/\p.1.dropLast=b)).map λ p=>(tx [p.1.getLastD 0],(p.2:Int))
theorem lE {bs:List (List Nat)} {i:Nat} {c:List Nat} (h:bs[i]? =some c) (b:List Nat):kids bs (i+1) b=kids bs i b++(if c≠[]/\c.dropLast=b then [(tx [c.getLastD 0],(i:Int))] else []):=by
 have hi:i<bs.length:=(Zf.mp h).1;unfold kids;rw [Yj,h,Option.toList_some,List.zipIdx_append,List.filter_append,Zq];congr 1;rw [Ys,Nat.min_eq_left (Xh hi)];by_cases hc:c≠[]/\c.dropLast=b
 ·rw [if_pos hc];simp [hc]
 ·rw [if_neg hc];simp only [List.zipIdx_singleton,List.filter_cons,Yo hc];simp
theorem sU {b c:List Nat} (h:c≠[]/\c.dropLast=b):c=b++[c.getLastD 0]:=by
 obtain ⟨h1,rfl⟩:=h;have:=(List.dropLast_concat_getLast h1).symm;rw [List.getLastD_eq_getLast?,List.getLast?_eq_some_getLast h1];exact this
theorem jV {bs:List (List Nat)} {i:Nat} {b:List Nat} {s:Str} {k:Int} (h:(s,k)∈kids bs i b): ∃ (m c:Nat),k=(m:Int)/\m<i/\s=tx [c]/\bs[m]? =some (b++[c]):=by
 unfold kids at h;obtain ⟨⟨c,m⟩,mc,e⟩:=Zc.mp h;obtain ⟨m1,m2⟩:=List.mem_filter.mp mc;have m3:=Ww m2;obtain ⟨_,h2,h3⟩:=List.mem_zipIdx m1
 cases e;dsimp only at m3;rw [Nat.zero_add,Ys] at h2;refine ⟨m,c.getLastD 0,rfl,by rfl',rfl,?_⟩;rw [<- sU m3];have:=h3;simp only [Nat.sub_zero,List.getElem_take] at this;rw [this];exact Qb (by rfl')
theorem sV {bs:List (List Nat)} (hn:bs.Nodup) (b:List Nat): ∀ {i:Nat},i<=bs.length->((kids bs i b).map (·.1)).Nodup
 | 0,_=>by simp [kids]
 | i+1,h=>by
  have e:bs[i]? =some bs[i]:=Qb h;rw [lE e,Zq];have ih:=sV hn b (i:=i) (Xh h);by_cases hc:bs[i]≠[]/\bs[i].dropLast=b
  ·rw [if_pos hc];refine Yq.mpr ⟨ih,by simp,λ x mx y my e2=> ?_⟩;obtain ⟨⟨s,k⟩,mk,rfl⟩:=Zc.mp mx;obtain ⟨m,c,_,hm,rfl,e3⟩:=jV mk;rw [List.map_singleton,Ze] at my;subst my;have ec:c=bs[i].getLastD 0:=by have:=jU e2;simpa using this
   rw [ec,<- sU hc] at e3;have h1:m<bs.length:=by rfl'
   rw [Qb h1] at e3;have:=(List.getElem_inj hn).mp (Zx e3);rfl'
  ·rw [if_neg hc,List.map_nil,Xd];exact ih
theorem StS.nd {ws bs:List (List Nat)} (h:StS ws bs):bs.Nodup:=List.Pairwise.imp (λ {a b} (z:a<b) (e:a=b)=>by rw [e] at z;exact List.lt_irrefl _ z) h.up
theorem StS.init {ws bs:List (List Nat)} (h:StS ws bs) {b:List Nat} (m:b∈bs):b.dropLast∈bs:=by
 refine (h.mem _).mpr ?_;rcases (h.mem _).mp m with e | ⟨w,mw,p⟩
 ·rw [e];exact .inl rfl
 ·exact .inr ⟨w,mw,(List.dropLast_prefix b).trans p⟩
structure BkD (ws bs:List (List Nat)) (ds:L2S) (es:List Int):Prop where
 len:ds.length=bs.length
 row: ∀ (j:Nat) b ps,bs[j]? =some b->ds[j]? =some ps->ps.Perm (kids bs bs.length b)/\(ps.map (·.1)).Pairwise gY
 up:es.Pairwise (· < ·)
 mem: ∀i:Int,i∈es↔ ∃ (k:Nat) (b:List Nat),i=(k:Int)/\bs[k]? =some b/\b∈ws
theorem zp: ∀ {ws:List (List Nat)} {w:List Nat},w∈ws->w.length<=(ws.map List.length).sum
 | v::ws,w,h=>by
  rw [Zz,List.sum_cons];rcases Zp.mp h with rfl | h
  ·exact Nat.le_add_right _ _
  ·exact Zw (zp h) (Nat.le_add_left _ _)
theorem pB (bs:List (List Nat)) (i:Nat) (b:List Nat):(kids bs i b).length<=i:=by
 unfold kids;rw [Qr];exact Zw (List.length_filter_le _ _) (by rw [List.length_zipIdx,Ys];exact Nat.min_le_left _ _)
theorem iB {bs:List (List Nat)} {y:List Nat} (m:y∈bs):bs[bs.idxOf y]? =some y:=by
 rw [Qb (Yr m),List.getElem_idxOf]
theorem StS.short {ws bs:List (List Nat)} (h:StS ws bs) (hs:(ws.map List.length).sum<=61) {b:List Nat} (m:b∈bs):b.length<=61:=by
 rcases (h.mem _).mp m with e | ⟨w,mw,p⟩
 ·rw [e];exact Yu _
 ·have h1:=p.length_le;have h2:w.length<=(ws.map List.length).sum:=zp mw;rfl'
theorem xq {l:List (List Nat)} (hn:l.Nodup) {i j:Nat} {x:List Nat} (h1:l[i]? =some x) (h2:l[j]? =some x):i=j:=by
 obtain ⟨a1,b1⟩:=Zf.mp h1;obtain ⟨a2,b2⟩:=Zf.mp h2;exact (List.getElem_inj hn).mp (b1.trans b2.symm)
theorem zq {b:List Nat}:Txt.slice (tx b) none (some (-1))=tx b.dropLast:=by
 by_cases h:b=[]
 ·rw [h];rfl
 ·have hl:0<b.length:=List.length_pos_iff.mpr h;have:=beq_iff_eq.mp (PyProof.Rows.slice_closes_to_neg (x:=tx b) (j:= -1) (k:= -1+(b.length:Int)) (by decide) (by show-((b.length:Nat):Int)<= -1;rfl') rfl);rw [this,List.dropLast_eq_take,p7,show (-1+(b.length:Int)-0).toNat=b.length-1 by rfl'];rfl
theorem Js {s:Str} {r:Int}: ∀ {ps:L1S},(ps.map (·.1)).Nodup->(s,r)∈ps->Hs.dr ps s=some r
 | p::ps,nd,m=>by
  rw [Zz] at nd;obtain ⟨n1,n2⟩:=Xv.mp nd;rw [Hs.fJ];rcases Zp.mp m with e | m
  ·rw [<- e,if_pos rfl]
  ·rw [if_neg (λ e=>n1 (by rw [e];exact Zc.mpr ⟨_,m,rfl⟩))];exact Js n2 m
theorem HQ {bs:List (List Nat)} {m c:Nat} {b:List Nat} (h:bs[m]? =some (b++[c])):(tx [c],(m:Int))∈kids bs bs.length b:=by
 unfold kids;refine Zc.mpr ⟨(b++[c],m),List.mem_filter.mpr ⟨?_,Yh ⟨by simp,by simp⟩⟩,by simp⟩;rw [Yy];obtain ⟨h1,h2⟩:=Zf.mp h;exact List.mem_zipIdx_iff_getElem?.mpr h
theorem StS.first {ws bs:List (List Nat)} (h:StS ws bs):bs[0]? =some []:=by
 have m:=(h.mem []).mpr (.inl rfl);have hu:=h.up
 cases bs with
 | nil=>cases m
 | cons x r=>
  rcases Zp.mp m with e | m
  ·rw [<- e];rfl
  ·exact absurd ((List.pairwise_cons.mp hu).1 [] m) (List.not_lt_nil _)
theorem BkD.go {ws bs:List (List Nat)} {ds:L2S} {es:List Int} (h:BkD ws bs ds es) (hb:StS ws bs): ∀y:List Nat,(∀m:Nat,bs[m]? =some y->Hs.go ds y=some (m:Int))/\(y∉bs->Hs.go ds y=none):=by
 intro y;generalize hn:y.length=n;induction n generalizing y with
 | zero=>
  have e:=We hn;subst e;refine ⟨λ m hm=> ?_,λ hm=>absurd ((hb.mem []).mpr (.inl rfl)) hm⟩;rw [xq hb.nd hm hb.first];rfl
 | succ n ih=>
  obtain ⟨x,c,rfl⟩: ∃x c,y=x++[c]:=by
   have hne:y≠[]:=λ e=>by rw [e] at hn;cases hn
   exact ⟨_,_,(List.dropLast_concat_getLast hne).symm⟩
  have hx:x.length=n:=by simpa using hn
  obtain ⟨i1,i2⟩:=ih x hx;by_cases mx:x∈bs
  ·obtain ⟨j,hj⟩:=List.mem_iff_getElem?.mp mx;have hjl:j<ds.length:=by rw [h.len];exact (Zf.mp hj).1
   have hps:ds[j]? =some ds[j]:=Qb hjl;obtain ⟨hp,hu⟩:=h.row j x _ hj hps;have eg:Hs.go ds (x++[c])=Hs.dr ds[j] (tx [c]):=by
    rw [Hs.cD,i1 j hj];show Hs.dr (ds.getD (j:Int).toNat []) (tx [c])=_;rw [Zi,Zb,hps];rfl
   rw [eg];refine ⟨λ m hm=> ?_,λ hm=> ?_⟩
   ·exact Js (by
     have:=sV hb.nd x (Zn _);exact ((hp.map _).nodup_iff).mpr this) (hp.mem_iff.mpr (HQ hm))
   ·cases e:Hs.dr ds[j] (tx [c]) with
    | none=>rfl
    | some r=>
     obtain ⟨m,c',_,_,e3,e4⟩:=jV (hp.mem_iff.mp (Hs.gF e));have:c=c':=by have:=jU e3;simpa using this
     rw [<- this] at e4;exact absurd (Zj e4) hm
  ·have e0:=i2 mx;have eg:Hs.go ds (x++[c])=none:=Hs.nJ e0;refine ⟨λ m hm=>absurd ?_ mx,λ _=>eg⟩;have:=hb.init (Zj hm);simpa using this
theorem BkD.wf {ws bs:List (List Nat)} {ds:L2S} {es:List Int} (h:BkD ws bs ds es) (hb:StS ws bs):Hs.Wf ds:=by
 refine ⟨by rw [h.len];exact Wr ((hb.mem []).mpr (.inl rfl)),λ ps mp p mq=> ?_⟩;obtain ⟨j,hj⟩:=List.mem_iff_getElem?.mp mp;have hjl:j<bs.length:=by rw [<- h.len];exact (Zf.mp hj).1
 obtain ⟨hp,_⟩:=h.row j _ ps (Qb hjl) hj;obtain ⟨m,c,e,hm,_,_⟩:=jV (s:=p.1) (k:=p.2) (hp.mem_iff.mp mq);rw [h.len];rfl'
theorem BkD.tk {ws bs:List (List Nat)} {ds:L2S} {es:List Int} (h:BkD ws bs ds es) (hb:StS ws bs) (y:List Nat):inV (ov (Hs.go ds y)) (es.map V.int)=decide (y∈ws):=by
 obtain ⟨g1,g2⟩:=h.go hb y;by_cases m:y∈bs
 ·obtain ⟨k,hk⟩:=List.mem_iff_getElem?.mp m;rw [g1 k hk];show inV (.int (k:Int)) (es.map V.int)=_;rw [fH];by_cases mw:y∈ws
  ·rw [Yh mw,Yh ((h.mem _).mpr ⟨k,y,rfl,hk,mw⟩)]
  ·rw [Yo mw,Yo λ z=>mw ?_];obtain ⟨k2,b,e,hb2,mb⟩:=(h.mem _).mp z;rw [show k2=k by rfl',hk] at hb2;rw [Zx hb2];exact mb
 ·rw [g2 m,Yo λ mw=>m ((hb.mem y).mpr (.inr ⟨y,mw,List.prefix_refl y⟩))];exact KD es
def lF (K:W.Frag):Sp:=λ vs H Q E=> ∃ (a:Addr) (ws:List (List Nat)),vs=[.ref a]/\SqL K H a (ws.map λ w=>V.str (tx w))/\(ws.map List.length).sum<=61/\ws.length<=61/\(∀r H' bs,Same H H'->H' r=some (.lst (bs.map λ b=>V.str (tx b)))->StS ws bs->bs.length<=40->Q (.ref r) H')/\((∀bs,StS ws bs->40<bs.length)-> ∀H',Same H H'->E (.ref n6) none H')
def xr (K:W.Frag) (E:XK) (Eh:XK):TS:=
  (aN (b7 (Cg [((tC (V.str (Str.ofString ""))),(tC (V.bl true)))]) (aB 1))
  (aN (dG (dF K (aj 0)) (aB 2) (dG (ym (ak (tC (V.int 1)) (ak (aW dO (d7 (cB K) (ak (aj 2) aF)) (tC (V.int 1))) aF))) (aB 3) (aN (je (aj 1) (BL rH (aj 2) fB (gH (aj 3))) (tC (V.bl true)))
  (eV (aX (mL K) [] E (ak (d7 Dm (ak (aj 1) aF)) aF))))))
  (bV (d7 rM (ak (aj 1) aF)))))
theorem LR (h:lF K vs H Q E): ∃Eh,xr K E Eh { nx:=λ _ H'=>Q .non H',rt:=Q } (start ["words","found","word","length"] vs) H:=by
 unfold lF at h;obtain ⟨a,ws,rfl,hA,hs,hl,q,qe⟩:=h;refine ⟨E0,?_⟩;unfold xr;symm;intro d hd;refine ⟨au,[(Sum.inr (tx []),V.bl true)],rfl,by decide,?_⟩;rw [Ga];symm;refine jQ (λ w:List Nat=>V.str (tx w)) ((aH hd _).seq hA) (λ i σ H'=> ∃us o1 o2,H' d=some (.dK (zm us))/\FdS (ws.take i) us [] 0/\us.length<=40/\Same H H'/\σ=[some (.ref a),some (.ref d),o1,o2]) ⟨[tx []],none,none,au,FdS.zero [],by decide,aH hd _,rfl⟩ ?_ ?_ ?_
 ·rintro i σ H' ⟨us,o1,o2,ed,hF,h40,S,rfl⟩;exact S.seq hA
 ·rintro i w σ H' hw ⟨us,o1,o2,ed,hF,h40,S,rfl⟩;have hlt:i<ws.length:=(Zf.mp hw).1;have et:ws.take (i+1)=ws.take i++[w]:=by rw [Yj,hw];rfl
  have hsum:((ws.take (i+1)).map List.length).sum<=61:=Zw (vf _ _) hs;rw [et,Zq,List.sum_append,List.map_singleton,List.sum_singleton] at hsum;symm;refine gD (show (tx w).length<=1000000 from Zw (show w.length<=61 by rfl') (by decide)) ?_;symm;refine DW w.length (by show (((tx w).length:Int)+1-1).toNat=w.length;rw [show (tx w).length=w.length from rfl];rfl') (by show ((w.length:Nat):Int)+1<=_;rfl') (by show _<=((w.length:Nat):Int)+1;rfl') (by decide) (by decide) (λ k σ H2=> ∃us o2,H2 d=some (.dK (zm us))/\FdS (ws.take i) us w k/\us.length<=40/\Same H H2/\σ=[some (.ref a),some (.ref d),some (.str (tx w)),o2]) ⟨us,o2,ed,hF.start w,h40,S,rfl⟩ ?_ ?_
  ·rintro k σ H2 hk ⟨us2,o3,ed2,hF2,h402,S2,rfl⟩;symm;refine p8 (show (tx w).length<=1000000 from Zw (show w.length<=61 by rfl') (by decide)) ?_;rw [show ((1:Int)+(k:Int))=((k+1:Nat):Int) by rfl',v4 (by rfl')];symm;refine ⟨d,_,rfl,DPut.k (k:=Sum.inr (tx (w.take (k+1)))) ed2 (by unfold zm;rw [Qr];exact Zs (show _<200 by rfl') (by decide)),?_⟩;have S3:Same H (upd H2 d (HO.dK (putK (zm us2) (Sum.inr (tx (w.take (k+1)))) (V.bl true)))):=λ x o e=>by
    rw [aD λ z=>by rw [z,hd] at e;cases e];exact S2 x o e
   have hF3:=hF2.put;rw [LQ] at S3 ⊢;generalize (if tx (w.take (k+1))∈us2 then us2 else us2++[tx (w.take (k+1))])=us3 at hF3 S3 ⊢;symm;refine KY (Rd.of au) ?_;have hul:(zm us3).length=us3.length:=by unfold zm;rw [Qr]
   rw [hul];symm;refine ⟨_,rfl,λ _ h2=> ?_,λ h2=> ?_⟩
   ·symm;exact ⟨us3,_,au,hF3,by rfl',S3,rfl⟩
   ·refine qe (λ bs hb=> ?_) _ S3;have h1:1<=us3.length:=Wr ((hF3.mem []).mpr (.inl (.inl rfl)));have:us3.length<=(bs.map tx).length:=Fj hF3.nd λ x mx=> ?_
    ·rw [Qr] at this;rfl'
    ·refine Zc.mpr ⟨x.cps.toList,(hb.mem _).mpr ?_,rfl⟩;rcases (hF3.mem x.cps.toList).mp mx with (e | ⟨v,mv,p⟩) | ⟨j,hj,e⟩
     ·exact .inl e
     ·exact .inr ⟨v,List.mem_of_mem_take mv,p⟩
     ·exact .inr ⟨w,Zj hw,by rw [e];exact List.take_prefix _ _⟩
  ·rintro σ H2 ⟨us2,o3,ed2,hF2,h402,S2,rfl⟩;symm;exact ⟨us2,_,_,ed2,by rw [et];exact hF2.next [],h402,S2,rfl⟩
 ·rintro σ H' ⟨us,o1,o2,ed,hF,h40,S,rfl⟩;rw [Yy] at hF;symm;refine Em (kvs:=us.map λ s=>(s,V.bl true)) (by rw [ed];unfold zm;rw [Zk];rfl) (by rw [Qr];rfl') λ r ns hp hu hr=> ?_
  rw [Zk,show (((λ x:Str×V=>x.1)∘λ s:Str=>(s,V.bl true))=id) from rfl,List.map_id] at hp;obtain ⟨bs,rfl,hb⟩:=hF.sort hp hu;symm;refine q r _ bs (S.new hr) (by rw [au,Zk];rfl) hb (by have:=hp.length_eq;rw [Qr] at this;rfl')
theorem M3 (h:lF K vs H Q E):vs.length=1:=by
 unfold lF at h;obtain ⟨_,_,rfl,_⟩:=h;rfl
def lG (K:W.Frag):Sp:=λ vs H Q _=> ∃ (a:Addr) (bs:List (List Nat)),vs=[.ref a]/\SqL K H a (bs.map λ w=>V.str (tx w))/\bs.length<=40/\bs.Nodup/\ ∀r H',Same H H'->H r=none->H' r=some (.dK (vz bs))->Q (.ref r) H'
def xu (K:W.Frag) (E:XK) (Eh:XK):TS:=
  (aN (b7 oA (aB 1))
  (aN (dG (yF K (ak (aj 0) aF)) (km K 2 (cN (aB 2) (cN (aB 3) mV))) (je (aj 1) (aj 3) (aj 2)))
  (bV (aj 1))))
theorem M4 (h:lG K vs H Q E): ∃Eh,xu K E Eh { nx:=λ _ H'=>Q .non H',rt:=Q } (start ["things","numbers","number","thing"] vs) H:=by
 unfold lG at h;obtain ⟨a,bs,rfl,hA,hl,hn,q⟩:=h;refine ⟨E0,?_⟩;unfold xu;symm;intro d hd;symm;refine Le (λ w:List Nat=>V.str (tx w)) ((aH hd _).seq hA) (λ i σ H'=> ∃o1 o2,H' d=some (.dK (vz (bs.take i)))/\Same H H'/\σ=[some (.ref a),some (.ref d),o1,o2]) ⟨none,none,au,aH hd _,rfl⟩ ?_ ?_ ?_
 ·rintro i σ H' ⟨o1,o2,ed,S,rfl⟩;exact S.seq hA
 ·rintro i b p σ H' hb ⟨o1,o2,ed,S,rfl⟩ hp;refine gw (SqT.of au) rfl ?_;symm;have hlt:i<bs.length:=(Zf.mp hb).1;have et:bs.take (i+1)=bs.take i++[b]:=by rw [Yj,hb];rfl
  have hni:b∉bs.take i:=λ m=>by
   have:=hn;rw [<- List.take_append_drop (i+1) bs,et] at this;have:=(Yq.mp (Yq.mp this).1).2.2 b m b (by simp);exact this rfl
  have ed':upd H' p (HO.tup [V.int (i:Int),V.str (tx b)]) d=some (.dK (vz (bs.take i))):=aO hp ed;refine ⟨d,_,rfl,DPut.k (k:=Sum.inr (tx b)) ed' (by rw [pA,Ys];exact Zs (show _<100 by rfl') (by decide)),?_⟩;refine ⟨_,_,by rw [au,gO _ (HN hni),et,HJ,Ys,Nat.min_eq_left (Xh hlt)],λ x o e=> ?_,rfl⟩;have nx:x≠d:=λ z=>by rw [z,hd] at e;cases e
  rw [aD nx,aD (λ z:x=p=>by rw [<- z,S x o e] at hp;cases hp)];exact S x o e
 ·rintro σ H' ⟨o1,o2,ed,S,rfl⟩;symm;rw [Yy] at ed;exact q d H' S hd ed
theorem M5 (h:lG K vs H Q E):vs.length=1:=by
 unfold lG at h;obtain ⟨_,_,rfl,_⟩:=h;rfl
theorem M6 {K:W.Frag} {vs:List V} {H:Hp} {Q:VK} {E:XK} (h: ∃ (d e:Addr) (rows:List (Addr×List Pz)) (xs:List V),vs=[.ref d, .ref e]/\SqL K H d (rows.map λ r:Addr×List Pz=>V.ref r.1)/\rows.length<=1000/\(∀row∈rows,SqL K H row.1 (row.2.map λ g:Pz=>V.ref g.1)/\(∀g∈row.2,SqT K H g.1 [g.2.1,g.2.2]/\Thing H g.2.1/\Thing H g.2.2)/\row.2.length<64)/\SqL K H e xs/\(∀x∈xs,Thing H x)/\xs.length<64/\(∀ (rs:List (Addr×List Dz)) (is:List Int),rows=rs.map zj->xs=is.map V.int->1<=rs.length->rs.length<=40->(∀r∈rs,RowG rs.length r.2)->sO rs.length is-> ∀r H' ds es,Same H H'->HsT K H' r ds es->Hs.Srt rs ds->es.Perm is->es.Pairwise (· < ·)->Q (.ref r) H')/\((∀ (rs:List (Addr×List Dz)) (is:List Int),rows=rs.map zj->xs=is.map V.int->1<=rs.length->rs.length<=40->(∀r∈rs,RowG rs.length r.2)->sO rs.length is->False)-> ∀H',Same H H'->E (.ref n6) none H')):jj K vs H Q E:=by
 obtain ⟨d,e,rows,xs,h0,h1,h2,h3,h4,h5,h6,h7,h8⟩:=h;exact ⟨d,e,rows,xs,h0,h1,Zw h2 (by decide),λ _=>⟨h3,h4,h5,h6⟩,h7,h8⟩
theorem HR {x y:Addr×List Dz} (e:zj x=zj y):x=y:=by
 obtain ⟨a,r⟩:=x;obtain ⟨b,s⟩:=y;have e1:a=b:=Yn (·.1) e;have e2:r.map ofD=s.map ofD:=Yn (·.2) e;rw [e1,(Xg (λ _ _=>sJ)).mp e2]
def lH (K:W.Frag):Sp:=λ vs H Q E=> ∃ (a:Addr) (ws:List (List Nat)),vs=[.ref a]/\SqL K H a (ws.map λ w=>V.str (tx w))/\(ws.map List.length).sum<=61/\ws.length<=61/\(∀w∈ws,∀c∈w,∃k,c=Hs.El k)/\(∀r H' bs ds es,Same H H'->StS ws bs->bs.length<=40->HsT K H' r ds es->BkD ws bs ds es->Q (.ref r) H')/\((∀bs,StS ws bs->40<bs.length)-> ∀H',Same H H'->E (.ref n6) none H')
abbrev M7 (K:W.Frag):Sp:=λ vs H Q _=>lH K vs H Q E0
def xx (K:W.Frag) (E:XK) (Eh:XK):TS:=
  (aN (b7 (aX (lG K) [] E0 (ak (aX (lF K) [] E (ak (aj 0) aF)) aF)) (aB 1))
  (aN (b7 (qt [none] (rT (aj 1)) (aB 0) eY (ig aF)) (aB 2))
  (aN (dG (rT (aj 1)) (aB 3) (cu (bh (aW Nv (aj 3) (tC (V.str (Str.ofString ""))))) (eV (vO K "list" eQ (aW (gJ K) (aj 2) (g8 (aj 1) (BL rH (aj 3) fB (gH (Nu yE (tC (V.int 1))))))) (ak (ie (ak (aW pK (aj 3) (Nu yE (tC (V.int 1)))) (ak (g8 (aj 1) (aj 3)) aF))) aF))) bD))
  (bV (aX (jj K) [] E (ak (aj 2) (ak (qt [none,some 1] (dF K (d7 (jO K) (ak (aj 0) aF))) (aB 0) eY (g8 (aj 1) (aj 0))) aF)))))))
theorem M8 (h:lH K vs H Q E): ∃Eh,xx K E Eh { nx:=λ _ H'=>Q .non H',rt:=Q } (start ["words","numbers","doors","beginning"] vs) H:=by
 unfold lH at h;obtain ⟨a,ws,rfl,hA,hs,hl,hsg,q,qe⟩:=h;refine ⟨E0,?_⟩;unfold xx;symm;refine ⟨a,ws,rfl,hA,hs,hl,?_,?_⟩
 ·intro rb H1 bs S1 eb hb hbl;symm;refine ⟨rb,bs,rfl,SqL.of eb,hbl,hb.nd,λ nd H2 S2 hnd1 en=> ?_⟩;symm;refine HH (.inl en) (by rw [pA];rfl') (λ z H' mz A kA=> ?_) λ dl od H3 H4 as sb3 ef3 S34 hdl0 hal hand hda hae edl=> ?_
  ·symm;intro p hp;exact kA p hp
  symm;rw [pA] at hal;have efn:=S34.get ef3;have hndas:nd∉as:=λ m=>by rw [(hae nd m).1] at ef3;cases ef3
  have hdln:dl≠nd:=λ e=>by rw [e,ef3] at hdl0;cases hdl0
  have S02:Same H H2:=S1.trans S2;have hnd0:H nd=none:=S1.free hnd1;have S03:Same H H3:=λ x o e=>sb3 x o (by simp;exact λ z=>by rw [z,hnd0] at e;cases e) (S02 x o e)
  have S04:Same H H4:=S03.trans S34;have hfr: ∀p∈nd::dl::as,H p=none:=by
   intro p hp;rcases Zp.mp hp with rfl | hp
   ·exact hnd0
   rcases Zp.mp hp with rfl | hp
   ·exact S03.free hdl0
   ·exact S03.free (hae p hp).1
  refine Ld (.inr ⟨od,efn⟩) (λ od' i σ H'=> ∃ (rows:List (Addr×List Dz)) (o:Option V),Rws H' rows/\rows.map (·.1)=as/\(∀ (j:Nat) row b,rows[j]? =some row->bs[j]? =some b->row.2.map (·.2)=kids bs i b)/\Sb (nd::dl::as) H H'/\H' dl=some (.lst (as.map V.ref))/\H' nd=some (.frz od' (.dK (vz bs)))/\σ=[some (.ref a),some (.ref nd),some (.ref dl),o]) ?_ ?_ ?_ ?_
  ·intro od' H5 sb5 ef5;refine ⟨as.map λ b=>(b,[]),none,⟨by rw [Zk];simpa [Function.comp_def] using hand,λ row hr=> ?_⟩,by rw [Zk];simp [Function.comp_def],λ j row b hr _=> ?_,?_,?_,ef5,rfl⟩
   ·obtain ⟨b,hb,rfl⟩:=Zc.mp hr;exact ⟨sb5 b _ (by simp;exact λ e=>hndas (e▸hb)) (hae b hb).2,by simp⟩
   ·rw [Zg] at hr;obtain ⟨b',_,rfl⟩:=Yd.mp hr;simp [kids]
   ·exact λ x o nx e=>sb5 x o (by simp at nx ⊢;exact nx.1) (S04 x o e)
   ·exact sb5 dl _ (by simpa using hdln) edl
  ·rintro od' i σ H' ⟨rows,o,_,_,_,_,_,e,_⟩;exact e
  ·rintro od' i z σ H' hz ⟨rows,o,hR,e1,hk,sb,ed,en',rfl⟩;obtain ⟨b,hbi,rfl⟩: ∃b,bs[i]? =some b/\z=(Sum.inr (tx b),V.int (i:Int)):=by
    unfold vz at hz;rw [Zg,List.getElem?_zipIdx] at hz;obtain ⟨p,hp,rfl⟩:=Yd.mp hz;obtain ⟨b,hb',rfl⟩:=Yd.mp hp;exact ⟨b,hb',by simp⟩
   symm;by_cases hb0:b=[]
   ·subst hb0;refine iw rfl ?_;symm;refine ⟨rows,_,hR,e1,λ j row c hr hc=> ?_,sb,ed,en',rfl⟩;rw [lE hbi,if_neg (λ z=>z.1 rfl),Xd];exact hk j row c hr hc
   ·refine gr (λ z=>hb0 (jU (V.str.inj z))) ?_;symm;have hbm:=Zj hbi;have hbl':b.length<=61:=hb.short hs hbm;obtain ⟨j,hj⟩:=List.mem_iff_getElem?.mp (hb.init hbm);have hjl:j<bs.length:=(Zf.mp hj).1;have hrl:rows.length=bs.length:=by rw [<- hal,<- e1,Qr]
    have hjr:j<rows.length:=by rfl'
    have hjm:rows[j]∈rows:=Zl hjr;have haj:qW (as.map V.ref) (j:Int)=some (.ref rows[j].1):=by
     refine aJ ?_;rw [<- e1,Zk,Zg,Qb hjr];rfl
    refine p8 (show (tx b).length<=1000000 from Zw hbl' (by decide)) ?_;rw [zq];refine ⟨nd,V.int (j:Int),rfl,by rw [<- sS hb.nd hj];exact DGet.r (k:=Sum.inr (tx b.dropLast)) (.inr ⟨od',en'⟩),?_⟩;refine gh (SqL.of ed) haj ?_;have hrow:=hR.2 _ hjm;refine jP (SqL.of hrow.1) ?_;symm;refine qH (c:=b.getLastD 0) (show (tx b).length<=1000000 from Zw hbl' (by decide)) ?_ ?_
    ·show qW b (-1)=_;rw [sU ⟨hb0,rfl⟩];simpa using uo b.dropLast (b.getLastD 0)
    symm;refine ⟨nd,V.int (i:Int),rfl,by rw [<- sS hb.nd hbi];exact DGet.r (k:=Sum.inr (tx b)) (.inr ⟨od',en'⟩),?_⟩;symm;intro t ht;symm;have hrlen:rows[j].2.length<=40:=by
     have h1:=Yn List.length (hk j _ _ (Qb hjr) hj);rw [Qr] at h1;have h2:=pB bs i b.dropLast;have h3:=(Zf.mp hbi).1;rfl'
    refine mH (aO ht hrow.1) (by rw [Qr];rfl') ?_;symm;have hR2:=(hR.same (aH ht (HO.tup [V.str (tx [b.getLastD 0]),V.int (i:Int)]))).app (t:=t) hjr au;have ndj:dl≠rows[j].1:=λ z=>hda (by rw [z,<- e1];exact Zc.mpr ⟨_,hjm,rfl⟩)
    have nej:nd≠rows[j].1:=λ z=>hndas (by rw [z,<- e1];exact Zc.mpr ⟨_,hjm,rfl⟩)
    refine ⟨rows.set j (rows[j].1,rows[j].2++[(t,tx [b.getLastD 0],(i:Int))]),_,?_,(nM hjr _).trans e1,λ k row c hr hc=> ?_,(sb.new ht).set (Zr _ (Zr _ (by rw [<- e1];exact Zc.mpr ⟨_,hjm,rfl⟩))),?_,?_,rfl⟩
    ·rw [Zq] at hR2;exact hR2
    ·rw [lE hbi];by_cases ck:k=j
     ·subst ck;rw [List.getElem?_set_self hjr] at hr
      cases hr;rw [hj] at hc
      cases hc;rw [if_pos ⟨hb0,rfl⟩,Zq,hk k _ _ (Qb hjr) hj];rfl
     ·rw [List.getElem?_set_ne (λ z=>ck z.symm)] at hr;rw [if_neg,Xd]
      ·exact hk k row c hr hc
      ·rintro ⟨_,e⟩;rw [<- e] at hc;exact ck (xq hb.nd hc hj)
    ·rw [aD ndj];exact aO ht ed
    ·rw [aD nej];exact aO ht en'
  ·rintro od' σ H' ⟨rows,o,hR,e1,hk,sb,ed,en',rfl⟩;rw [pA] at hk;symm;have hA':=sb.seq hfr hA;refine Ax (ss:=ws.map tx) (by rw [Zk];exact hA') (by rw [Qr];rfl') λ rs ns hnn hnm hnu hrs=> ?_
   obtain ⟨ys,rfl⟩: ∃ys:List (List Nat),ns=ys.map tx:=⟨ns.map λ s:Str=>s.cps.toList,by rw [Zk];exact (List.map_id ns).symm⟩;have hyw: ∀y,y∈ys↔y∈ws:=λ y=>by
    have:=hnm (tx y);rw [Zc,Zc] at this;constructor
    ·intro m;obtain ⟨w,mw,e⟩:=this.mp ⟨y,m,rfl⟩;rw [<- jU e];exact mw
    ·intro m;obtain ⟨w,mw,e⟩:=this.mpr ⟨y,m,rfl⟩;rw [<- jU e];exact mw
   have hyb: ∀y∈ys,y∈bs:=λ y my=>(hb.mem y).mpr (.inr ⟨y,(hyw y).mp my,List.prefix_refl y⟩)
   have hynd:ys.Nodup:=List.Pairwise.imp (λ {a b} z e=>z (by rw [e])) (Xl.mp hnn);have hyl:ys.length<=40:=Zw (Fj hynd hyb) hbl;refine Ea (λ y:List Nat=>V.str (tx y)) (zs:=ys) (SqL.of (by rw [au,Zk];rfl)) (by rfl') (λ y=>V.int ((bs.idxOf y:Nat):Int)) (λ k y hy A kA=> ?_) λ p hp=> ?_
   ·symm;have hyi:bs[bs.idxOf y]? =some y:=iB (hyb y (Zj hy));refine ⟨nd,V.int ((bs.idxOf y:Nat):Int),rfl,by rw [<- sS hb.nd hyi];exact DGet.r (k:=Sum.inr (tx y)) (.inr ⟨od',aO hrs en'⟩),?_⟩;exact kA
   symm;have hrl:rows.length=bs.length:=by rw [<- hal,<- e1,Qr]
   have S6:Same H' (upd (upd H' rs (HO.lst (List.map V.str (List.map tx ys)))) p (HO.lst (List.map (λ y=>V.int ((bs.idxOf y:Nat):Int)) ys))):=(aH hrs _).trans (aH hp _);have hrk: ∀row∈rows,∃ (j:Nat) (b:List Nat),rows[j]? =some row/\bs[j]? =some b/\row.2.map (·.2)=kids bs bs.length b:=λ row mr=>by
    obtain ⟨j,hj⟩:=List.mem_iff_getElem?.mp mr;have hjl:j<bs.length:=by rw [<- hrl];exact (Zf.mp hj).1
    exact ⟨j,bs[j],hj,Qb hjl,hk j row _ hj (Qb hjl)⟩
   have hG: ∀row∈rows,RowG rows.length row.2:=λ row mr=>by
    obtain ⟨j,b,_,hbj,ek⟩:=hrk row mr;refine ⟨?_,λ z mz=> ?_⟩
    ·have:=sV hb.nd b (Zn _);rw [<- ek,Zk] at this;exact this
    ·have mz':(z.2.1,z.2.2)∈kids bs bs.length b:=by rw [<- ek];exact Zc.mpr ⟨z,mz,rfl⟩
     obtain ⟨m,c,e2,hm,e3,hbm⟩:=jV mz';refine ⟨?_,by rfl',by rw [hrl];rfl'⟩;rw [e3];rcases (hb.mem _).mp (Zj hbm) with e | ⟨w,mw,pw⟩
     ·exact absurd e (by simp)
     ·obtain ⟨k,rfl⟩:=hsg w mw c (pw.subset (by simp));exact ⟨k,rfl⟩
   have hE:sO rows.length (ys.map λ y=>((bs.idxOf y:Nat):Int)):=by
    refine ⟨?_,λ i mi=> ?_⟩
    ·refine Xl.mpr (List.Pairwise.imp_of_mem (λ {x y} mx my ne e=>ne ?_) hynd);have e2:=iB (hyb x mx);rw [show bs.idxOf x=bs.idxOf y by rfl',iB (hyb y my)] at e2;exact (Zx e2).symm
    ·obtain ⟨y,my,rfl⟩:=Zc.mp mi;have:=Yr (hyb y my);exact ⟨by rfl',by rfl'⟩
   refine M6 ⟨dl,p,rows.map zj,(ys.map λ y=>((bs.idxOf y:Nat):Int)).map V.int,rfl,SqL.of (by rw [S6.get ed,<- e1,Zk,Zk];rfl),by rw [Qr];rfl',λ row mr=> ?_,SqL.of (by rw [au,Zk];rfl),λ x mx=> ?_,by rw [Qr,Qr];rfl',λ rs2 is er ei _ _ _ _ r7 H7 ds es S7 hH hsrt hpe hpu=> ?_,λ hno=> ?_⟩
   ·obtain ⟨row,mr',rfl⟩:=Zc.mp mr;have hrow:=hR.2 row mr';refine ⟨SqL.of ((S6.get hrow.1).trans (by show _=some (HO.lst ((row.2.map ofD).map λ g:Pz=>V.ref g.1));rw [Zk];rfl)),λ g mg=> ?_,?_⟩
    ·obtain ⟨z,mz,rfl⟩:=Zc.mp mg;refine ⟨SqT.of (S6.get (hrow.2 z mz)),?_,trivial⟩;obtain ⟨⟨k,ek⟩,_⟩:=(hG row mr').2 z mz;show z.2.1.length<=100000;rw [ek];show 1<=100000;decide
    ·obtain ⟨j,b,_,hbj,ek⟩:=hrk row mr';have h1:=Yn List.length ek;rw [Qr] at h1;have h2:=pB bs bs.length b;show (row.2.map ofD).length<64;rw [Qr];rfl'
   ·obtain ⟨i,_,rfl⟩:=Zc.mp mx;trivial
   ·have er2:rs2=rows:=(Xg (λ _ _=>HR)).mp er.symm;have ei2:is=ys.map λ y=>((bs.idxOf y:Nat):Int):=(Xg (λ _ _ e=>V.int.inj e)).mp ei.symm
    subst er2 ei2;refine q r7 H7 bs ds es ((sb.off hfr).trans (S6.trans S7)) hb hbl hH ⟨hsrt.1.trans hrl,λ j b ps hbj hps=> ?_,hpu,λ i=> ?_⟩
    ·have hjl:j<rs2.length:=by rw [hrl];exact (Zf.mp hbj).1
     have:=hsrt.2 j ps _ hps (Qb hjl);rw [hk j _ _ (Qb hjl) hbj] at this;exact this
    ·rw [hpe.mem_iff,Zc];constructor
     ·rintro ⟨y,my,rfl⟩;exact ⟨bs.idxOf y,y,rfl,iB (hyb y my),(hyw y).mp my⟩
     ·rintro ⟨k,b,rfl,hkb,mb⟩;exact ⟨b,(hyw b).mpr mb,by rw [xq hb.nd (iB (Zj hkb)) hkb]⟩
   ·exact absurd (hno rows _ rfl rfl (by rw [hrl];exact Wr ((hb.mem []).mpr (.inl rfl))) (by rfl') hG hE) id
 ·intro hbig H1 S1;exact qe hbig H1 S1
theorem M9 (h:lH K vs H Q E):vs.length=1:=by
 unfold lH at h;obtain ⟨_,_,rfl,_⟩:=h;rfl
theorem same_none {H H':Hp} {p:Addr} (s:Same H H') (h:H' p=none):H p=none:=by
 cases e:H p with
 | none=>rfl
 | some o=>rw [s p o e] at h;cases h
def HW (cs:List Nat) (m:Nat) (rest w later:Int):L1S:=(List.range cs.length).map λ k=>(tx [cs.getD k 0],later+(rest+((k+1:Nat):Int)*w)%(m:Int))
structure GoodS (cs:List Nat) (x:V) (xs:List V) (m:Nat) (ws:List Int):Prop where
 nd:cs.Nodup
 ex:x= .int (m:Int)
 m1:1<=m
 ew:xs=ws.map V.int
 wn:ws≠[]
 wr: ∀w∈ws,0<=w/\w<=1000
 le:m*ws.length<=40
def zr (cs:List Nat) (m:Nat) (ws:List Int) (j:Nat):L1S:=HW cs m ((j%m:Nat):Int) (ws.getD (j / m) 0) (((j / m+1)%ws.length*m:Nat):Int)
def RwH (H:Hp) (row:Addr×List Dz):Prop:=H row.1=some (.lst (row.2.map λ z:Dz=>V.ref z.1))/\ ∀z∈row.2,H z.1=some (.tup [.str z.2.1, .int z.2.2])
theorem RwH.same {H H':Hp} {row:Addr×List Dz} (h:RwH H row) (s:Same H H'):RwH H' row:=⟨s.get h.1,λ z m=>s.get (h.2 z m)⟩
theorem RwH.set {H:Hp} {row:Addr×List Dz} {d:Addr} {xs ys:List V} (h:RwH H row) (hd:H d=some (.lst xs)) (n:row.1≠d):RwH (upd H d (.lst ys)) row:=⟨by rw [aD n];exact h.1,λ z m=>by rw [aD (λ e=>by have:=h.2 z m;rw [e,hd] at this;cases this)];exact h.2 z m⟩
theorem nO (cs:List Nat) (m:Nat) (rest w later:Int):(HW cs m rest w later).length=cs.length:=by unfold HW;simp
theorem xF (cs:List Nat) (m:Nat) (rest w later:Int):(HW cs m rest w later).map (·.1)=cs.map λ c=>tx [c]:=by
 refine List.ext_getElem (by rw [Qr,nO,Qr]) λ i h1 h2=> ?_
 rw [Qr] at h2;rw [Xf,Xf];simp only [HW,Xf,List.getElem_range,Zb,Qb h2];rfl
theorem lJ {cs:List Nat}:(cs.map λ c=>tx [c]).Nodup↔cs.Nodup:=⟨λ h=>(Xl.mp h).imp (λ hab e=>hab (by rw [e])),λ h=>List.Pairwise.map _ (λ a b hab e=>hab (by injection (lA.mp e))) h⟩
theorem iW {cs:List Nat} {m:Nat} {ws:List Int} {j:Nat} (hm:1<=m) (hw:ws≠[]) {z:Str×Int} (hz:z∈zr cs m ws j):(∃c∈cs,z.1=tx [c])/\0<=z.2/\z.2<((m*ws.length:Nat):Int):=by
 have hz1:z.1∈(zr cs m ws j).map (·.1):=Zc.mpr ⟨z,hz,rfl⟩;unfold zr at hz hz1;rw [xF] at hz1;obtain ⟨c,mc,ec⟩:=Zc.mp hz1;obtain ⟨k,hk,rfl⟩:=Zc.mp hz;refine ⟨⟨c,mc,ec.symm⟩,?_⟩;have hl:0<ws.length:=List.length_pos_iff.mpr hw;have h1:=Nat.mod_lt (j / m+1) hl;generalize (j / m+1)%ws.length=t at h1 ⊢;have h2:=Wp (((j%m:Nat):Int)+((k+1:Nat):Int)*ws.getD (j / m) 0) (show (m:Int)≠0 by rfl');have h3:=Wh (((j%m:Nat):Int)+((k+1:Nat):Int)*ws.getD (j / m) 0) (show (0:Int)<m by rfl');show 0<=((t*m:Nat):Int)+(((j%m:Nat):Int)+((k+1:Nat):Int)*ws.getD (j / m) 0)%(m:Int)/\((t*m:Nat):Int)+(((j%m:Nat):Int)+((k+1:Nat):Int)*ws.getD (j / m) 0)%(m:Int)<_;generalize (((j%m:Nat):Int)+((k+1:Nat):Int)*ws.getD (j / m) 0)%(m:Int)=r at h2 h3 ⊢;have h4:(t+1)*m<=m*ws.length:=by rw [Xz m];exact Nat.mul_le_mul_right _ h1
 rw [Nat.add_mul,Nat.one_mul] at h4;generalize t*m=tm at h4 ⊢;generalize m*ws.length=mw at h4 ⊢;rfl'
def qK (K:W.Frag):Sp:=λ vs H Q E=> ∃ (t:Addr) (xs:List V),vs=[.ref t]/\SqT K H t xs/\(∀x∈xs,Thing H x)/\(∀ws:List Int,xs=ws.map V.int->ws≠[]->(∀w∈ws,0<=w/\w<=1000)->Q .non H)/\((∀ws:List Int,xs=ws.map V.int->ws≠[]->(∀w∈ws,0<=w/\w<=1000)->False)->E (.ref n6) none H)
def Fl (K:W.Frag) (E:XK) (Eh:XK):TS:=
  (aN (cu (bh (aW pJ (d7 (cB K) (ak (aj 0) aF)) (tC (V.int 0)))) (fj E n6 (ak (tC (V.str (Str.ofString "the wheel has no numbers"))) aF)) bD)
  (dG (mW K (aj 0)) (aB 1) (cu (mU (jk (kY K (aX (iV K) [] E0 (ak (aj 1) aF))) (bh (jm Cp Cp (tC (V.int 0)) (aj 1) (tC (V.int 1000)))))) (fj E n6 (ak (tC (V.str (Str.ofString "the wheel has something else than its numbers"))) aF)) bD)))
theorem Qh (h:qK K vs H Q E): ∃Eh,Fl K E Eh { nx:=λ _ H'=>Q .non H',rt:=Q } (start ["numbers","number"] vs) H:=by
 unfold qK at h;obtain ⟨t,xs,rfl,hT,hx,q,qe⟩:=h;refine ⟨E0,?_⟩;unfold Fl;symm;refine gA hT ?_;symm;refine fG (λ d=> ?_) λ d=> ?_
 ·symm;refine qe λ ws e hn _=>hn ?_
  rw [e,Qr] at d;exact We (by rfl')
 symm;refine p6 id (zs:=xs) (by rw [List.map_id];exact hT) (λ i σ H'=>H'=H/\ ∃ (ws:List Int) (o:Option V),xs.take i=ws.map V.int/\(∀w∈ws,0<=w/\w<=1000)/\σ=[some (.ref t),o]) ⟨rfl,[],none,rfl,by simp,rfl⟩ ?_ ?_ ?_
 ·rintro i σ _ ⟨rfl,_⟩;rw [List.map_id];exact hT
 ·rintro i x σ _ hi ⟨rfl,ws,o,e,hw,rfl⟩;rw [show id x=x from rfl];symm;refine ⟨_,rfl,hx x (Zj hi),?_⟩;have bad:(∀r:Int,x= .int r->0<=r->r<=1000->False)-> ∀ws:List Int,xs=ws.map V.int->ws≠[]->(∀w∈ws,0<=w/\w<=1000)->False:=λ hb ws' e' _ hw'=>by
   rw [e',Zg] at hi;obtain ⟨r,er,rfl⟩:=Yd.mp hi;have:=hw' r (Zj er);exact hb r rfl this.1 this.2
  cases x with
  | int r=>
   symm;show if true=true then _ else _
   symm;by_cases c1:0<=r
   ·by_cases c2:r<=1000
    ·rw [Yh c1,Yh c2];symm;refine ⟨rfl,ws++[r],_,?_,λ w mw=> ?_,rfl⟩
     ·rw [Yj,hi,e];simp
     ·rcases Zv.mp mw with mw | mw
      ·exact hw w mw
      ·rw [Ze.mp mw];exact ⟨c1,c2⟩
    ·rw [Yh c1,Yo c2,Bool.and_false];symm;exact qe (bad λ r e _ h2=>c2 (by cases e;exact h2))
   ·rw [Yo c1,Bool.false_and];symm;exact qe (bad λ r e h1 _=>c1 (by cases e;exact h1))
  | _=>
   symm;show if false=true then _ else _
   symm;exact qe (bad λ r e _ _=>by cases e)
 ·rintro σ _ ⟨rfl,ws,o,e,hw,rfl⟩;rw [Yy] at e;symm;refine q ws e (λ z=>d ?_) hw;rw [e,z];rfl
theorem Qi (h:qK K vs H Q E):vs.length=1:=by
 unfold qK at h;obtain ⟨_,_,rfl,_⟩:=h;rfl
def qM (K:W.Frag):Sp:=λ vs H Q _=> ∃ (cs:List Nat) (m:Nat) (rest w later:Int),vs=[.str (tx cs), .int (m:Int), .int rest, .int w, .int later]/\1<=m/\cs.length<=1000/\0<=w/\w<=1000/\ ∀ (p:Addr) (H':Hp) (zs:List Dz),H p=none->Same H H'->H' p=some (.lst (zs.map λ z:Dz=>V.ref z.1))->(∀z∈zs,H' z.1=some (.tup [.str z.2.1, .int z.2.2]))->zs.map (·.2)=HW cs m rest w later->Q (.ref p) H'
def Fp (K:W.Frag) (E:XK) (Eh:XK):TS:=
  (bV (qt [none,none,some 4,some 2,some 3,some 1] (wz (ak (aj 0) aF) (ak (tC (V.int 1)) aF)) (km K 2 (cN (aB 0) (cN (aB 1) mV))) eY (ie (ak (aj 1) (ak (aW dO (aj 2) (aW bZ (aW dO (aj 3) (aW jL (aj 0) (aj 4))) (aj 5))) aF)))))
theorem Qj (h:qM K vs H Q E): ∃Eh,Fp K E Eh { nx:=λ _ H'=>Q .non H',rt:=Q } (start ["signs","many","rest","number","later"] vs) H:=by
 unfold qM at h;obtain ⟨cs,m,rest,w,later,rfl,hm,hcl,hw0,hw1,q⟩:=h;refine ⟨E0,?_⟩;unfold Fp;symm;refine Q5 (o:=1) (by decide) (by rfl') (λ i ys H'=> ∃zs:List Dz,ys=zs.map (λ z:Dz=>V.ref z.1)/\zs.map (·.2)=(HW cs m rest w later).take i/\Same H H'/\ ∀z∈zs,H' z.1=some (.tup [.str z.2.1, .int z.2.2])) ⟨[],rfl,rfl,Same.refl _,by simp⟩ ?_ ?_ ?_
 ·rintro i ys H' ⟨zs,rfl,e,_⟩;have:=Yn List.length e;rw [Qr,Ys] at this;rw [Qr];rfl'
 ·rintro i c t0 ys H' hc ⟨zs,rfl,e,s',hz⟩ ht0;have hi:i<cs.length:=(Zf.mp hc).1;refine gw (SqT.of au) rfl ?_;symm;intro t ht;refine ⟨zs++[(t,tx [c],later+(rest+((i+1:Nat):Int)*w)%(m:Int))],by simp,?_,(s'.new ht0).new ht,λ z mz=> ?_⟩
  ·rw [Zq,e,Yj];congr 1;unfold HW;rw [Zg,List.getElem?_range hi];show [(tx [c],_)]=[(tx [cs.getD i 0],_)];rw [Zb,hc];rfl
  ·rcases Zv.mp mz with mz | mz
   ·exact aO ht (aO ht0 (hz z mz))
   ·rw [Ze.mp mz];exact au
 ·rintro ys H1 ⟨zs,rfl,e,s1,hz⟩ p hp;rw [Xy (by rw [nO];exact Zn _)] at e;exact q p _ zs (same_none s1 hp) (Same.new s1 hp) au (λ z mz=>aO hp (hz z mz)) e
theorem Qk (h:qM K vs H Q E):vs.length=5:=by
 unfold qM at h;obtain ⟨_,_,_,_,_,rfl,_⟩:=h;rfl
structure GoodH (ds:L2S) (es:List Int):Prop where
 r1:1<=ds.length
 r2:ds.length<=40
 sr: ∀ps∈ds,(ps.map (·.1)).Pairwise gY
 ln: ∀ps∈ds,ps.length<=62
 sg: ∀ps∈ds,∀p∈ps,Hs.Sg p.1/\0<=p.2/\p.2<ds.length
 ei:es.Pairwise (· < ·)
 el:es.length<=62
 er: ∀e∈es,0<=e/\e<ds.length
def Jt (ds:L2S) (es:List Int) (s:Str) (ds':L2S):Prop:=
 ds'.length=ds.length+1/\ ∀ (j:Nat) ps',ds'[j]? =some ps'->ps'.Perm ((ds++[[]]).getD j []++if (j:Int)∈es++[(ds.length:Int)] then [(s,(ds.length:Int))] else [])/\(ps'.map (·.1)).Pairwise gY
theorem sW {ps:L1S} {s:Str}:Hs.dr ps s=none↔s∉ps.map (·.1):=by
 unfold Hs.dr;rw [Option.map_eq_none_iff,List.find?_eq_none];refine ⟨λ h m=> ?_,λ h p mp e=>h (Zc.mpr ⟨p,mp,Ww e⟩)⟩;obtain ⟨p,mp,e⟩:=Zc.mp m;exact h p mp (Yh e)
theorem fU {l:List Str} (h:l.Pairwise gY):l.Nodup:=h.imp λ {a b} h e=>by
 subst e;exact List.lt_irrefl _ h
theorem getD_at {α:Type} {l:List α} {j:Nat} {d x:α} (h:l[j]? =some x):l.getD j d=x:=by rw [Zb,h];rfl
theorem sX {x y:Addr×List Dz} (e:zj x=zj y):x=y:=by
 obtain ⟨a1,b1⟩:=x;obtain ⟨a2,b2⟩:=y;have h1:a1=a2:=Yn Prod.fst e;have h3:b1=b2:=(Xg (λ _ _ e=>sJ e)).mp (Yn Prod.snd e);rw [h1,h3]
theorem sY {H:Hp} {s:Str} (h:Hs.Sg s):Thing H (.str s):=by
 obtain ⟨k,rfl⟩:=h;show (tx [Hs.El k]).length<=100000;rw [bw];simp
def lK (K:W.Frag):Sp:=λ vs H Q E=> ∃ (cs:List Nat) (x y:V) (xs:List V),vs=[.str (tx cs),x,y]/\TupK K bY [.int 1]/\(∀c∈cs,Hs.Sg (tx [c]))/\cs.length<60/\Thing H x/\((y= .non/\xs=[.int 1])\/ ∃t,y= .ref t/\SqT K H t xs)/\xs.length<=1000/\(∀x∈xs,Thing H x)/\(∀ (m:Nat) (ws:List Int),GoodS cs x xs m ws-> ∀ (r:Addr) (H':Hp) (ds:L2S) (es:List Int),Same H H'->HsT K H' r ds es->ds.length=m*ws.length->(∀ (j:Nat) ps,ds[j]? =some ps->ps.Perm (zr cs m ws j)/\(ps.map (·.1)).Pairwise gY)->es=(List.range ws.length).map (λ t:Nat=>((t*m:Nat):Int))->Q (.ref r) H')/\((∀ (m:Nat) (ws:List Int),GoodS cs x xs m ws->False)-> ∀H',Same H H'->E (.ref n6) none H')
abbrev sZ (K:W.Frag):Sp:=λ vs H Q _=>lK K vs H Q E0
def xG (K:W.Frag) (E:XK) (Eh:XK):TS:=
  (aN (b7 (QD (bh (aW gP (aj 2) (tC V.non))) (tC (V.ref bY)) (aj 2)) (aB 3))
  (aN (cu (mU (jk (kY K (aX (iV K) [] E0 (ak (aj 1) aF))) (bh (aW R3 (aj 1) (tC (V.int 1)))))) (fj E n6 (ak (tC (V.str (Str.ofString "so many rests there can't be"))) aF)) bD)
  (aN (eV (aX (qK K) [] E (ak (aj 3) aF)))
  (aN (eV (aX (mL K) [] E (ak (aW jL (aj 1) (d7 (cB K) (ak (aj 3) aF))) aF)))
  (aN (b7 (ig aF) (aB 4))
  (aN (dG (iG (ak (d7 (cB K) (ak (aj 3) aF)) aF)) (aB 5) (aN (b7 (aW jL (aW bZ (aW dO (aj 5) (tC (V.int 1))) (d7 (cB K) (ak (aj 3) aF))) (aj 1)) (aB 6))
  (eV (vO K "list" rB (aj 4) (ak (qt [none,some 0,some 1,some 3,some 5,some 6] (iG (ak (aj 1) aF)) (aB 0) eY (aX (qM K) [] E0 (ak (aj 1) (ak (aj 2) (ak (aj 0) (ak (aW (bu K) (aj 3) (aj 4)) (ak (aj 5) aF))))))) aF)))))
  (bV (aX (jj K) [] E (ak (aj 4) (ak (qt [none,some 1] (iG (ak (d7 (cB K) (ak (aj 3) aF)) aF)) (aB 0) eY (aW jL (aj 0) (aj 1))) aF))))))))))
theorem Ma (h:lK K vs H Q E): ∃Eh,xG K E Eh { nx:=λ _ H'=>Q .non H',rt:=Q } (start ["signs","many","wheel","numbers","doors","turn","later"] vs) H:=by
 unfold lK at h;obtain ⟨cs,x,y,xs,rfl,TK,hsg,hcl,hx,hy,hxl,hxs,q,qe⟩:=h;refine ⟨E0,?_⟩;unfold xG;with_reducible refine iy (λ σ' H'=>H'=H/\ ∃nt:Addr,SqT K H nt xs/\σ'=[some (.str (tx cs)),some x,some y,some (.ref nt),none,none,none]) ?_ ?_
 rotate_left
 ·intro N hN;symm;rcases hy with ⟨rfl,rfl⟩ | ⟨t,rfl,ht⟩
  ·symm;exact hN _ _ ⟨rfl,_,TK.sq,rfl⟩
  ·refine mG (λ e=>nomatch e) ?_;symm;exact hN _ _ ⟨rfl,_,ht,rfl⟩
 rintro σ' _ ⟨rfl,nt,hN,rfl⟩;rename_i H;symm;refine ⟨_,rfl,hx,?_⟩;by_cases hm: ∃m:Nat,x= .int (m:Int)/\1<=m
 rotate_left
 ·have bad: ∀H',Same H H'->E (.ref n6) none H':=qe λ m ws g=>hm ⟨m,g.ex,g.m1⟩
  cases x with
  | int r=>
   symm;show if true=true then _ else _
   symm;refine gr (λ h=>hm ⟨r.toNat,by rw [Yx (by rfl')],by rfl'⟩) ?_;symm;exact bad _ (Same.refl _)
  | _=>
   symm;show if false=true then _ else _
   symm;exact bad _ (Same.refl _)
 obtain ⟨m,rfl,hm1⟩:=hm;symm;show if true=true then _ else _
 symm;refine iw (by rfl') ?_;symm;refine ⟨nt,xs,rfl,hN,hxs,λ ws ew hwn hwr=> ?_,λ ne=>qe (λ m ws g=>ne ws g.ew g.wn g.wr) _ (Same.refl _)⟩;subst ew;rw [Qr] at hxl;have hl1:1<=ws.length:=List.length_pos_iff.mpr hwn;have uq: ∀ {m':Nat} {ws':List Int},GoodS cs (.int (m:Int)) (ws.map V.int) m' ws'->m'=m/\ws'=ws:=λ g=>⟨by have:=V.int.inj g.ex;rfl',((Xg (λ _ _ e=>V.int.inj e)).mp g.ew).symm⟩
 symm;refine gA hN ?_;rw [Qr];symm;refine ⟨_,rfl,λ h1 h2=> ?_,λ hn=>qe (λ m' ws' g=>hn ?_) _ (Same.refl _)⟩
 rotate_left
 ·obtain ⟨rfl,rfl⟩:=uq g;have a1:=g.le;have a2:=Nat.mul_pos hm1 hl1;exact ⟨by rfl',by rfl'⟩
 have h40:m*ws.length<=40:=by rfl'
 have hmle:m<=40:=Zw (Nat.le_mul_of_pos_right m hl1) h40;have hwle:ws.length<=40:=Zw (Nat.le_mul_of_pos_left ws.length hm1) h40;symm;intro d hd;symm;refine gA (yR hd hN) ?_;rw [Qr];symm;refine uY ws.length (Zi _) (by rfl') (by rfl') (λ i σ H'=> ∃ (rs:List (Addr×List Dz)) (o5 o6:Option V),H' d=some (.lst (rs.map λ r=>V.ref r.1))/\Same H H'/\rs.length=i*m/\(∀row∈rs,row.1≠d/\RwH H' row)/\(∀ (j:Nat) row,rs[j]? =some row->row.2.map (·.2)=zr cs m ws j)/\σ=[some (.str (tx cs)),some (.int (m:Int)),some y,some (.ref nt),some (.ref d),o5,o6]) ⟨[],_,_,au,aH hd _,by simp,by simp,by simp,rfl⟩ ?_ ?_
 ·rintro i σ H1 hi ⟨rs,o5,o6,hd1,s1,hrl,hrw,hrs,rfl⟩;have ex:ws[i]? =some ws[i]:=Qb hi;obtain ⟨hwi0,hwi1⟩:=hwr ws[i] (Zl hi);symm;refine gA (s1.tup hN) ?_;rw [Qr];refine Et (m:=(i+1)%ws.length) hl1 (by rw [show (i:Int)+1=((i+1:Nat):Int) by rfl',Int.natCast_emod]) ?_;symm;walk_at "ns";refine jP (SqL.of hd1) ?_;symm;refine Ks m (Zi _) (by rfl') (by rfl') (λ r ys H'=> ∃rs':List (Addr×List Dz),ys=rs'.map (λ row=>V.ref row.1)/\rs'.length=r/\Same H1 H'/\(∀row∈rs',row.1≠d/\RwH H' row)/\ ∀ (k:Nat) row,rs'[k]? =some row->row.2.map (·.2)=HW cs m (k:Int) ws[i] (((i+1)%ws.length*m:Nat):Int)) ⟨[],rfl,rfl,Same.refl _,by simp,by simp⟩ ?_ ?_ ?_
  ·rintro r ys H' ⟨rs',rfl,rfl,_⟩;simp
  ·rintro r ys H' hr ⟨rs',rfl,hl',s',hrw',hrs'⟩;symm;refine bj ((s1.trans s').tup hN) (v:= .int ws[i]) (aJ (by rw [Zg,ex];rfl)) ?_;symm;refine ⟨cs,m,r,ws[i],_,rfl,hm1,by rfl',hwi0,hwi1,λ p H2 zs hp s2 hp2 hz ez=> ?_⟩;refine ⟨rs'++[(p,zs)],by simp,by simp [hl'],s'.trans s2,λ row mr=> ?_,λ k row hk=> ?_⟩
   ·rcases Zv.mp mr with mr | mr
    ·exact ⟨(hrw' row mr).1,(hrw' row mr).2.same s2⟩
    ·rw [Ze.mp mr];refine ⟨λ e=> ?_,hp2,hz⟩;rw [show p=d from e,s'.get hd1] at hp
     cases hp
   ·rcases Wl k rs'.length with w | w
    ·rw [Ye w] at hk;exact hrs' k row hk
    ·rw [Yp w] at hk;have e0:k-rs'.length=0:=by
      have:=(Zf.mp hk).1;simp at this;rfl'
     rw [e0] at hk
     cases hk;rw [show k=r by rfl'];rw [ez,Int.natCast_mul]
  ·rintro ys H2 ⟨rs',rfl,hl',s2,hrw',hrs'⟩ p hp;symm;have hpd:p≠d:=λ e=>by rw [e,s2.get hd1] at hp;cases hp
   refine Ej (aO hp (s2.get hd1)) au (by rw [Qr,Qr,hrl,hl'];have:=Nat.mul_le_mul (Xh hi) (Zn m);rw [Xz] at h40;rfl') ?_;symm;have S:Same H2 (upd H2 p (.lst (rs'.map λ row=>V.ref row.1))):=aH hp _;have e3:=S.get (s2.get hd1);refine ⟨rs++rs',_,_,by rw [au,Zq],λ b u hb=> ?_,by rw [Yl,hrl,hl',Nat.add_mul,Nat.one_mul],λ row mr=> ?_,λ j row hj=> ?_,rfl⟩
   ·rw [aD (λ e=>by rw [e,hd] at hb;cases hb)];exact S b u (s2 b u (s1 b u hb))
   ·rcases Zv.mp mr with mr | mr
    ·exact ⟨(hrw row mr).1,(((hrw row mr).2.same s2).same S).set e3 (hrw row mr).1⟩
    ·exact ⟨(hrw' row mr).1,((hrw' row mr).2.same S).set e3 (hrw' row mr).1⟩
   ·rcases Wl j rs.length with w | w
    ·rw [Ye w] at hj;exact hrs j row hj
    ·rw [Yp w] at hj;have hk:j-rs.length<m:=by rw [<- hl'];exact (Zf.mp hj).1
     rw [hrs' _ _ hj];have w2:m*i<=j:=by rw [hrl,Xz] at w;exact w
     obtain ⟨k,rfl⟩: ∃k,j=m*i+k:=⟨j-m*i,by rfl'⟩;have ek:m*i+k-rs.length=k:=by rw [hrl,Xz i m];rfl'
     rw [ek] at hk ⊢;unfold zr;rw [Nat.mul_add_mod,Nat.mod_eq_of_lt hk,Nat.mul_add_div (by rfl'),Nat.div_eq_of_lt hk];simp only [Nat.add_zero];rw [Zb,ex];rfl
 ·rintro σ H1 ⟨rs,o5,o6,hd1,s1,hrl,hrw,hrs,rfl⟩;symm;refine gA (s1.tup hN) ?_;rw [Qr];symm;refine DX ws.length (Zi _) (by rfl') (by rfl') (λ t=>V.int ((t*m:Nat):Int)) (λ t ht A kA=> ?_) λ e he=> ?_
  ·symm;rw [<- Int.natCast_mul];exact kA
  have hj: ∀ (j:Nat) row,rs[j]? =some row->(RowG (m*ws.length) row.2↔cs.Nodup):=λ j row hj=>by
   have e:=hrs j row hj;have e2:row.2.map (·.2.1)=cs.map λ c=>tx [c]:=by
    have:=Yn (List.map (·.1)) e;unfold zr at this;rw [xF,Zk] at this;exact this
   refine ⟨λ h=>lJ.mp (by rw [<- e2];exact h.1),λ h=>⟨by rw [e2];exact lJ.mpr h,λ z mz=> ?_⟩⟩;have mz':z.2∈zr cs m ws j:=by rw [<- e];exact Zc.mpr ⟨z,mz,rfl⟩
   obtain ⟨⟨c,mc,ec⟩,h1,h2⟩:=iW hm1 hwn mz';exact ⟨by rw [ec];exact hsg c mc,h1,h2⟩
  have hrn:rs.length=m*ws.length:=by rw [hrl,Xz]
  have hr1:1<=rs.length:=by rw [hrn];exact Nat.mul_pos hm1 hl1
  have hsrt:((List.range ws.length).map λ t:Nat=>((t*m:Nat):Int)).Pairwise (· < ·):=Xl.mpr (List.pairwise_lt_range.imp λ {a b} h=>by
   have:=Nat.mul_lt_mul_of_pos_right h hm1;rfl')
  have hends: ∀t∈(List.range ws.length).map (λ t:Nat=>((t*m:Nat):Int)),0<=t/\t<((m*ws.length:Nat):Int):=λ t mt=>by
   obtain ⟨k,hk,rfl⟩:=Zc.mp mt;have:=Nat.mul_lt_mul_of_pos_right (Xn.mp hk) hm1;rw [Xz m];exact ⟨by rfl',by rfl'⟩
  have S:Same H1 (upd H1 e (.lst ((List.range ws.length).map λ t=>V.int ((t*m:Nat):Int)))):=aH he _;refine M6 ⟨d,e,rs.map zj,((List.range ws.length).map λ t:Nat=>((t*m:Nat):Int)).map V.int,rfl,?_,by rw [Qr];rfl',λ row mr=> ?_,?_,λ v mv=> ?_,by simp;rfl',λ rs' is e1 e2 g1 g2 g3 g4 r H' ds es s' hH hs hp hst=> ?_,λ ne H' s'=>qe (λ m' ws' g=> ?_) _ ((s1.trans S).trans s')⟩
  ·rw [Zk];exact SqL.of (S.get hd1)
  ·obtain ⟨row',mr',rfl⟩:=Zc.mp mr;obtain ⟨j,hj',ej⟩:=Zu.mp mr';have ejj:rs[j]? =some row':=by rw [Qb hj',ej]
   have hw:=(hrw row' mr').2.same S;refine ⟨by show SqL K _ row'.1 ((row'.2.map ofD).map _);rw [Zk];exact SqL.of hw.1,λ g mg=> ?_,?_⟩
   ·obtain ⟨z,mz,rfl⟩:=Zc.mp mg;have mz':z.2∈zr cs m ws j:=by rw [<- hrs j row' ejj];exact Zc.mpr ⟨z,mz,rfl⟩
    obtain ⟨⟨c,mc,ec⟩,_⟩:=iW hm1 hwn mz';exact ⟨SqT.of (hw.2 z mz),sY (by rw [ec];exact hsg c mc),trivial⟩
   ·show (row'.2.map ofD).length<_;have:=Yn List.length (hrs j row' ejj);unfold zr at this;rw [nO,Qr] at this;rw [Qr];rfl'
  ·rw [Zk];exact SqL.of au
  ·obtain ⟨i,_,rfl⟩:=Zc.mp mv;trivial
  ·have ers:rs=rs':=(Xg (λ _ _ e=>sX e)).mp e1;subst ers;have eis:=(Xg (λ _ _ e=>V.int.inj e)).mp e2;have hc:cs.Nodup:=by
    have h0:rs[0]? =some rs[0]:=Qb hr1;refine (hj 0 _ h0).mp ?_;rw [<- hrn];exact g3 _ (Zl hr1)
   refine q m ws ⟨hc,rfl,hm1,rfl,hwn,hwr,h40⟩ r H' ds es ((s1.trans S).trans s') hH (by rw [hs.1,hrn]) (λ j ps hps=> ?_) ?_
   ·have hjl:j<rs.length:=by rw [<- hs.1];exact (Zf.mp hps).1
    have ejj:rs[j]? =some rs[j]:=Qb hjl;have:=hs.2 j ps _ hps ejj;rw [hrs j _ ejj] at this;exact this
   ·exact Hs.Es hp hst (by rw [eis]) hsrt
  ·obtain ⟨rfl,rfl⟩:=uq g;refine ne rs _ rfl rfl hr1 (by rfl') (λ row mr=> ?_) ⟨hsrt.imp λ {a b} h=>by rfl',λ t mt=>by rw [hrn];exact hends t mt⟩;obtain ⟨j,hj',ej⟩:=Zu.mp mr;rw [hrn];exact (hj j row (by rw [Qb hj',ej])).mpr g.nd
theorem Mf (h:lK K vs H Q E):vs.length=3:=by
 unfold lK at h;obtain ⟨_,_,_,_,rfl,_⟩:=h;rfl
theorem Ql {α:Type} [DecidableEq α]: ∀ {l m:List α},l.Nodup->(∀x∈l,x∈m)->l.length<=m.length
 | [],m,_,_=>Yu _
 | x::l,m,hn,hs=>by
  have hx:=hs x Zy;obtain ⟨n1,n2⟩:=Xv.mp hn;have:=Ql (l:=l) (m:=m.erase x) n2 λ y my=>(List.mem_erase_of_ne (λ (e:y=x)=>n1 (by rw [<- e];exact my))).mpr (hs y (Zr _ my))
  rw [List.length_erase_of_mem hx] at this;have:=Wr hx;rw [Xx];rfl'
structure GdB (ds:L2S):Prop where
 r2:ds.length<=44
 sr: ∀ps∈ds,(ps.map (·.1)).Pairwise gY
 ln: ∀ps∈ds,ps.length<=62
 sg: ∀ps∈ds,∀p∈ps,Hs.Sg p.1
def vg (d1 d2:L2S) (p:Int×Int):List (Str×(Int×Int)):=(d1.getD p.1.toNat []).filterMap λ q=>(Hs.dr (d2.getD p.2.toNat []) q.1).map λ b=>(q.1,(q.2,b))
def iJ (L qs:List (Int×Int)):List (Int×Int):=qs.foldl (λ L q=>if q∈L then L else L++[q]) L
theorem jW (L:List (Int×Int)):iJ L []=L:=rfl
theorem Ay (L qs:List (Int×Int)) (q:Int×Int):iJ L (qs++[q])=if q∈iJ L qs then iJ L qs else iJ L qs++[q]:=by
 unfold iJ;rw [List.foldl_append];rfl
theorem pC: ∀ (qs L:List (Int×Int)),∃E,iJ L qs=L++E
 | [],L=>⟨[],by rw [jW,Xd]⟩
 | q::qs,L=>by
  show ∃E,iJ (if q∈L then L else L++[q]) qs=L++E;split
  ·exact pC qs L
  ·obtain ⟨E,e⟩:=pC qs (L++[q]);exact ⟨q::E,by rw [e,Wx];rfl⟩
theorem iY: ∀ {qs L:List (Int×Int)} {x:Int×Int},x∈iJ L qs↔x∈L\/x∈qs
 | [],L,x=>by rw [jW];simp
 | q :: qs, L, x => by
  show x∈iJ (if q∈L then L else L++[q]) qs↔_;rw [iY];split
  ·rename_i h;constructor
   ·rintro (m | m)
    ·exact .inl m
    ·exact .inr (Zr _ m)
   ·rintro (m | m)
    ·exact .inl m
    ·rcases Zp.mp m with rfl | m
     ·exact .inl h
     ·exact .inr m
  ·rw [Zv,Ze,Zp,or_assoc]
theorem t6: ∀ {qs L:List (Int×Int)},L.Nodup->(iJ L qs).Nodup
 | [],L,h=>h
 | q::qs,L,h=>by
  show (iJ (if q∈L then L else L++[q]) qs).Nodup;split
  ·exact t6 h
  ·rename_i hq;refine t6 (Yq.mpr ⟨h,by simp,λ a m b mb e=>hq ?_⟩);rw [Ze.mp mb] at e;rw [<- e];exact m
def bx (d1 d2:L2S):Nat->List (Int×Int)
 | 0=>[(0,0)]
 | k+1=>match (bx d1 d2 k)[k]? with
  | none=>bx d1 d2 k
  | some p=>iJ (bx d1 d2 k) ((vg d1 d2 p).map (·.2))
theorem fV {d1 d2:L2S} {k:Nat} {p:Int×Int} (h:(bx d1 d2 k)[k]? =some p):bx d1 d2 (k+1)=iJ (bx d1 d2 k) ((vg d1 d2 p).map (·.2)):=by
 rw [bx,h]
theorem zu {d1 d2:L2S} {k:Nat} (h:(bx d1 d2 k).length<=k):bx d1 d2 (k+1)=bx d1 d2 k:=by
 rw [bx,Yb h]
theorem pD (d1 d2:L2S) (k:Nat): ∃E,bx d1 d2 (k+1)=bx d1 d2 k++E:=by
 cases h:(bx d1 d2 k)[k]? with
 | none=>exact ⟨[],by rw [bx,h,Xd]⟩
 | some p=>rw [fV h];exact pC _ _
theorem t7 (d1 d2:L2S) (k:Nat): ∀j,∃E,bx d1 d2 (k+j)=bx d1 d2 k++E
 | 0=>⟨[],by rw [Nat.add_zero,Xd]⟩
 | j+1=>by
  obtain ⟨E,e⟩:=t7 d1 d2 k j;obtain ⟨F,f⟩:=pD d1 d2 (k+j);exact ⟨E++F,by rw [<- Nat.add_assoc,f,e,Wx]⟩
theorem j0 (d1 d2:L2S): ∀k,(bx d1 d2 k).Nodup
 | 0=>by rw [bx];simp
 | k+1=>by
  cases h:(bx d1 d2 k)[k]? with
  | none=>rw [bx,h];exact j0 d1 d2 k
  | some p=>rw [fV h];exact t6 (j0 d1 d2 k)
theorem vh {d1 d2:L2S} {k:Nat} (h:(bx d1 d2 k).length<=k): ∀j,bx d1 d2 (k+j)=bx d1 d2 k
 | 0=>rfl
 | j+1=>by
  have e:=vh h j;rw [<- Nat.add_assoc,zu (by rw [e];rfl'),e]
def Ju (d1 d2:L2S) (p:Int×Int):Prop:=(0<=p.1/\p.1<d1.length)/\0<=p.2/\p.2<d2.length
theorem xH {ds:L2S} (wf:Hs.Wf ds) {r x:Int} {s:Str} (h:Hs.dr (ds.getD r.toNat []) s=some x):0<=x/\x<ds.length:=by
 have m:=Hs.gF h;by_cases c:r.toNat<ds.length
 ·rw [Zb,Qb c] at m;exact wf.rm _ (Zl c) _ m
 ·rw [Zb,Yb (by rfl')] at m
  cases m
theorem Mi {d1 d2:L2S} (w1:Hs.Wf d1) (w2:Hs.Wf d2) {p:Int×Int} {q:Str×(Int×Int)} (h:q∈vg d1 d2 p):Ju d1 d2 q.2/\q.1∈(d1.getD p.1.toNat []).map (·.1):=by
 obtain ⟨z,mz,e⟩:=List.mem_filterMap.mp h;obtain ⟨b,eb,rfl⟩:=Yd.mp e;refine ⟨⟨?_,xH w2 eb⟩,Zc.mpr ⟨z,mz,rfl⟩⟩;by_cases c:p.1.toNat<d1.length
 ·rw [Zb,Qb c] at mz;exact w1.rm _ (Zl c) _ mz
 ·rw [Zb,Yb (by rfl')] at mz
  cases mz
theorem lM {d1 d2:L2S} (w1:Hs.Wf d1) (w2:Hs.Wf d2): ∀k,∀p∈bx d1 d2 k,Ju d1 d2 p
 | 0,p,m=>by
  rw [bx,Ze] at m;subst m;have:=w1.pos;have:=w2.pos;exact ⟨⟨by decide,by show (0:Int)<_;rfl'⟩,by decide,by show (0:Int)<_;rfl'⟩
 | k+1,p,m=>by
  cases h:(bx d1 d2 k)[k]? with
  | none=>rw [bx,h] at m;exact lM w1 w2 k p m
  | some p'=>
   rw [fV h] at m;rcases iY.mp m with m | m
   ·exact lM w1 w2 k p m
   ·obtain ⟨q,mq,rfl⟩:=Zc.mp m;exact (Mi w1 w2 mq).1
theorem jX (d1 d2:L2S) (k:Nat):(bx d1 d2 k)[0]? =some (0,0):=by
 obtain ⟨E,e⟩:=t7 d1 d2 0 k;rw [Nat.zero_add] at e;rw [e,bx];rfl
theorem fW {d1 d2:L2S}: ∀ {k j:Nat} {p:Int×Int} {q:Str×(Int×Int)},j<k->(bx d1 d2 k)[j]? =some p->q∈vg d1 d2 p->q.2∈bx d1 d2 k:=λ {k j p q} hj hp hq=>by
 obtain ⟨i,rfl⟩: ∃i,k=(j+1)+i:=⟨k-(j+1),by rfl'⟩;obtain ⟨E,e⟩:=t7 d1 d2 (j+1) i;obtain ⟨F,f⟩:=pD d1 d2 j;rw [e];refine Xo _ ?_;by_cases c:j<(bx d1 d2 j).length
 ·have:(bx d1 d2 j)[j]? =some p:=by
   rw [e,f,Wx,Ye c] at hp;exact hp
  rw [fV this];exact iY.mpr (.inr (Zc.mpr ⟨q,hq,rfl⟩))
 ·have:=vh (d1:=d1) (d2:=d2) (k:=j) (by rfl') (1+i);rw [<- Nat.add_assoc] at this;rw [this,Yb (by rfl')] at hp
  cases hp
theorem HX {d1 d2:L2S} (w1:Hs.Wf d1) (w2:Hs.Wf d2) (h1:d1.length<=44) (h2:d2.length<=44) (k:Nat):(bx d1 d2 k).length<=2000:=by
 have:=Ql (l:=bx d1 d2 k) (m:=(List.range 44).flatMap λ i:Nat=>(List.range 44).map λ j:Nat=>((i:Int),(j:Int))) (j0 d1 d2 k) λ p m=>by
  obtain ⟨⟨a1,a2⟩,b1,b2⟩:=lM w1 w2 k p m;exact List.mem_flatMap.mpr ⟨p.1.toNat,Xn.mpr (by rfl'),Zc.mpr ⟨p.2.toNat,Xn.mpr (by rfl'),by rw [Yx a1,Yx b1]⟩⟩
 refine Zw this ?_;decide+kernel
theorem HY {L E:List (Int×Int)} {x:Int×Int} (h:x∈L):(L++E).idxOf x=L.idxOf x:=by rw [List.idxOf_append,if_pos h]
def bF (d1 d2:L2S) (P:List (Int×Int)) (p:Int×Int):L1S:=(vg d1 d2 p).map λ q=>(q.1,(P.idxOf q.2:Int))
theorem Fq (d1 d2:L2S) (P:List (Int×Int)) (y:Int) (s:Str): ∀ps:L1S,Hs.dr ((ps.filterMap λ q=>(Hs.dr (d2.getD y.toNat []) q.1).map λ b=>(q.1,(q.2,b))).map λ q=>(q.1,(P.idxOf q.2:Int))) s=(Hs.dr ps s).bind λ a=>(Hs.dr (d2.getD y.toNat []) s).map λ b=>(P.idxOf (a,b):Int)
 | []=>rfl
 | q::ps=>by
  rw [Wu,Hs.fJ];have ih:=Fq d1 d2 P y s ps;by_cases e:q.1=s
  ·rw [if_pos e,e]
   cases h:Hs.dr (d2.getD y.toNat []) s with
   | none=>
    rw [h] at ih;rw [show (Option.map (λ b=>(s,(q.2,b))) (none:Option Int))=none from rfl];dsimp only;rw [ih]
    cases Hs.dr ps s<;>rfl
   | some b=>
    show Hs.dr ((s,(P.idxOf (q.2,b):Int))::_) s=_;rw [Hs.fJ,if_pos rfl];rfl
  ·rw [if_neg e]
   cases h:Hs.dr (d2.getD y.toNat []) q.1 with
   | none=>exact ih
   | some b=>
    show Hs.dr ((q.1,(P.idxOf (q.2,b):Int))::_) s=_;rw [Hs.fJ,if_neg e];exact ih
theorem Ft {α:Type} {P:List (Int×Int)} {f:Int×Int->List α} {x:Int×Int} (h:x∈P):(P.map f).getD (P.idxOf x) []=f x:=by
 rw [Zb,Zg,Qb (Yr h),List.getElem_idxOf];rfl
theorem Fv {d1 d2:L2S} {N:Nat} (hN:(bx d1 d2 N).length<=N): ∀cs:List Nat,Hs.go ((bx d1 d2 N).map (bF d1 d2 (bx d1 d2 N))) cs=((Hs.go d1 cs).bind λ a=>(Hs.go d2 cs).map λ b=>((bx d1 d2 N).idxOf (a,b):Int))/\ ∀a b,Hs.go d1 cs=some a->Hs.go d2 cs=some b->(a,b)∈bx d1 d2 N:=λ cs=>by
 have key : ∀ (n : Nat) (cs : List Nat), cs.length = n -> Hs.go ((bx d1 d2 N).map (bF d1 d2 (bx d1 d2 N))) cs = ((Hs.go d1 cs).bind λ a => (Hs.go d2 cs).map λ b => ((bx d1 d2 N).idxOf (a, b) : Int)) /\ ∀ a b, Hs.go d1 cs = some a -> Hs.go d2 cs = some b -> (a, b) ∈ bx d1 d2 N := λ n => by
  induction n with
  | zero=>
   intro cs h;rw [We h];have hz:=jX d1 d2 N;refine ⟨?_,λ a b ha hb=> ?_⟩
   ·show some (0:Int)=some (((bx d1 d2 N).idxOf (0,0):Nat):Int)
    cases hb:bx d1 d2 N with
    | nil=>rw [hb] at hz;cases hz
    | cons x r=>rw [hb] at hz;cases hz;rw [List.idxOf_cons_self];rfl
   ·cases ha
    cases hb;exact Zj hz
  | succ n ih=>
   intro cs h;obtain ⟨ys,c,rfl⟩: ∃ys c,cs=ys++[c]:=⟨cs.dropLast,cs.getLast (by intro z;rw [z] at h;cases h),(List.dropLast_concat_getLast _).symm⟩;obtain ⟨i1,i2⟩:=ih ys (by simpa using h);rw [Hs.cD,Hs.cD,Hs.cD,i1]
   cases h1:Hs.go d1 ys with
   | none=>exact ⟨rfl,λ a b ha=>by cases ha⟩
   | some x=>
    cases h2:Hs.go d2 ys with
    | none=>
     refine ⟨?_,λ a b _ hb=>by cases hb⟩;show none=_
     cases Hs.stp d1 (some x) (tx [c])<;>rfl
    | some y=>
     have mxy:=i2 x y h1 h2;have e:=Fq d1 d2 (bx d1 d2 N) y (tx [c]) (d1.getD x.toNat []);refine ⟨?_,λ a b ha hb=> ?_⟩
     ·show Hs.dr (((bx d1 d2 N).map (bF d1 d2 (bx d1 d2 N))).getD (((bx d1 d2 N).idxOf (x,y):Int)).toNat []) (tx [c])=_;rw [Zi,Ft mxy];exact e
     ·have hq:((tx [c],(a,b)):Str×(Int×Int))∈vg d1 d2 (x,y):=by
       refine List.mem_filterMap.mpr ⟨(tx [c],a),Hs.gF ha,?_⟩;rw [show Hs.dr (d2.getD y.toNat []) (tx [c])=some b from hb];rfl
      have hi:=Yr mxy;exact fW (Zs hi hN) (by rw [Qb hi,List.getElem_idxOf]) hq
 exact key cs.length cs rfl
theorem tD (d2:L2S) (y:Int): ∀ps:L1S,((ps.filterMap λ q=>(Hs.dr (d2.getD y.toNat []) q.1).map λ b=>(q.1,(q.2,b))).map (·.1)).Sublist (ps.map (·.1))
 | []=>List.Sublist.refl _
 | q::ps=>by
  rw [Wu]
  cases Hs.dr (d2.getD y.toNat []) q.1 with
  | none=>exact (tD d2 y ps).cons _
  | some b=>exact (tD d2 y ps).cons₂ _
theorem Ia (d1 d2:L2S) (P:List (Int×Int)) (p:Int×Int):(bF d1 d2 P p).map (·.1)=(vg d1 d2 p).map (·.1):=by unfold bF;rw [Zk];rfl
theorem pF (d1 d2:L2S) (P:List (Int×Int)) (p:Int×Int):((bF d1 d2 P p).map (·.1)).Sublist ((d1.getD p.1.toNat []).map (·.1)):=by rw [Ia];exact tD d2 p.2 _
theorem nP {d1 d2:L2S} {n:Nat} (h: ∀ps∈d1,ps.length<=n) (p:Int×Int):(vg d1 d2 p).length<=n:=by
 refine Zw (List.length_filterMap_le ..) ?_;by_cases c:p.1.toNat<d1.length
 ·rw [Zb,Qb c];exact h _ (Zl c)
 ·rw [Zb,Yb (by rfl')];exact Yu _
theorem Fw {d1 d2:L2S} {L E:List (Int×Int)} {p:Int×Int} (h: ∀q∈vg d1 d2 p,q.2∈L):bF d1 d2 (L++E) p=bF d1 d2 L p:=by
 unfold bF;refine Xu λ q mq=> ?_
 rw [HY (h q mq)]
def dU (e1 e2:List Int) (P:List (Int×Int)):List Int:=(P.filter λ p=>decide (p.1∈e1)&&decide (p.2∈e2)).map λ p=>(P.idxOf p:Int)
theorem Ib {P:List (Int×Int)} (h:P.Nodup):P.map (λ p=>P.idxOf p)=List.range P.length:=by
 apply List.ext_getElem
 ·rw [Qr,Yv]
 ·intro i h1 h2;rw [Xf,List.getElem_range,List.Nodup.idxOf_getElem h]
theorem tE {e1 e2:List Int} {P:List (Int×Int)} (h:P.Nodup):(dU e1 e2 P).Pairwise (· < ·):=by
 unfold dU;have h1:(P.map λ p=>(P.idxOf p:Int)).Pairwise (· < ·):=by
  rw [show (P.map λ p=>(P.idxOf p:Int))=(P.map λ p=>P.idxOf p).map (λ i:Nat=>(i:Int)) by rw [Zk];rfl,Ib h];exact Xl.mpr (List.pairwise_lt_range.imp λ h=>by rfl')
 exact h1.sublist (List.filter_sublist.map _)
theorem vm {e1 e2:List Int} {P:List (Int×Int)} {x:Int×Int} (h:x∈P):(P.idxOf x:Int)∈dU e1 e2 P↔x.1∈e1/\x.2∈e2:=by
 unfold dU;constructor
 ·intro m;obtain ⟨p,mp,e⟩:=Zc.mp m;obtain ⟨p1,p2⟩:=List.mem_filter.mp mp;have e':P.idxOf p=P.idxOf x:=by rfl'
  have:p=x:=by
   rw [<- List.getElem_idxOf (Yr p1),<- List.getElem_idxOf (Yr h)];simp only [e']
  rw [this] at p2;simpa using p2
 ·rintro ⟨h1,h2⟩;exact Zc.mpr ⟨x,List.mem_filter.mpr ⟨h,by simp [h1,h2]⟩,rfl⟩
theorem tG {e1 e2:List Int} {P:List (Int×Int)}: ∀i∈dU e1 e2 P,0<=i/\i<P.length:=λ i m=>by
 obtain ⟨p,mp,rfl⟩:=Zc.mp m;have:=Yr (List.mem_filter.mp mp).1;rfl'
theorem vo {e1 e2:List Int} {P:List (Int×Int)}:(dU e1 e2 P).length<=P.length:=by unfold dU;rw [Qr];exact List.length_filter_le ..
def xJ (p:Int×Int):List Key:=[Sum.inl p.1,Sum.inl p.2]
theorem Ie {p q:Int×Int}:xJ p=xJ q↔p=q:=by
 constructor
 ·intro h;unfold xJ at h;simp only [List.cons.injEq,Sum.inl.injEq,and_true] at h;exact Prod.ext h.1 h.2
 ·rintro rfl;rfl
def G8:List (Int×Int)->Nat->List (List Key×V)
 | [],_=>[]
 | p::L,n=>(xJ p,V.int (n:Nat))::G8 L (n+1)
theorem vp: ∀ (L:List (Int×Int)) (n:Nat) (q:Int×Int),G8 (L++[q]) n=G8 L n++[(xJ q,V.int ((n+L.length:Nat):Int))]
 | [],n,q=>by rw [Wc,Nat.add_zero];rfl
 | p::L,n,q=>by
  show _::G8 (L++[q]) (n+1)=_;rw [vp L (n+1) q,Xx,show n+1+L.length=n+(L.length+1) by rfl'];rfl
theorem zx: ∀ (L:List (Int×Int)) (n:Nat),(G8 L n).length=L.length
 | [],_=>rfl
 | p::L,n=>by show (G8 L (n+1)).length+1=_;rw [zx L (n+1)];rfl
theorem jY (q:Int×Int): ∀ (L:List (Int×Int)) (n:Nat),dh (G8 L n) (xJ q)=if q∈L then some (V.int ((n+L.idxOf q:Nat):Int)) else none
 | [],n=>rfl
 | p::L,n=>by
  show dh ((xJ p,V.int (n:Nat))::G8 L (n+1)) (xJ q)=_;by_cases e:p=q
  ·subst e;rw [gK rfl,if_pos Zy,List.idxOf_cons_self,Nat.add_zero]
  ·rw [fM (λ z=>e (Ie.mp z)),jY q L (n+1)];by_cases m:q∈L
   ·rw [if_pos m,if_pos (Zr _ m),List.idxOf_cons,show (p==q)=false from beq_false_of_ne e,cond_false,show n+1+L.idxOf q=n+(L.idxOf q+1) by rfl']
   ·rw [if_neg m,if_neg (λ z=>by rcases Zp.mp z with z | z;exact e z.symm;exact m z)]
def Uh (H:Hp) (a:Addr) (L:List (Int×Int)):Prop:= ∃as:List (Addr×(Int×Int)),as.map (·.2)=L/\H a=some (.lst (as.map λ z=>V.ref z.1))/\ ∀z∈as,H z.1=some (.tup [.int z.2.1, .int z.2.2])
abbrev Lb:=Addr×Addr×Str×(Int×Int)
def Tq (H:Hp) (a:Addr) (Q:List (Str×(Int×Int))):Prop:= ∃zs:List Lb,zs.map (λ z:Lb=>z.2.2)=Q/\H a=some (.lst (zs.map λ z:Lb=>V.ref z.1))/\ ∀z∈zs,H z.1=some (.tup [.str z.2.2.1, .ref z.2.1])/\H z.2.1=some (.tup [.int z.2.2.2.1, .int z.2.2.2.2])
def qN (K:W.Frag):Sp:=λ vs H Q _=> ∃ (h1 h2 pa:Addr) (d1 d2:L2S) (e1 e2:List Int) (p:Int×Int),vs=[.ref h1, .ref h2, .ref pa]/\HsT K H h1 d1 e1/\HsT K H h2 d2 e2/\H pa=some (.tup [.int p.1, .int p.2])/\Ju d1 d2 p/\(∀ps∈d1,ps.length<=1000)/\ ∀r H',Same H H'->H r=none->Tq H' r (vg d1 d2 p)->Q (.ref r) H'
def Fx (K:W.Frag) (E:XK) (Eh:XK):TS:=
  (aN (b7 (ig aF) (aB 3))
  (aN (dG (mW K (aW (bu K) (aW (bu K) (aj 0) (tC (V.int 0))) (aW (bu K) (aj 2) (tC (V.int 0))))) (km K 2 (cN (aB 4) (cN (aB 5) mV))) (aN (b7 (aX (mO K) [] E0 (ak (aW (bu K) (aW (bu K) (aj 1) (tC (V.int 0))) (aW (bu K) (aj 2) (tC (V.int 1)))) (ak (aj 4) aF))) (aB 6))
  (cu (bh (aW ir (aj 6) (tC V.non))) (eV (vO K "list" eQ (aj 3) (ak (ie (ak (aj 4) (ak (ie (ak (aj 5) (ak (aj 6) aF))) aF))) aF))) bD)))
  (bV (aj 3))))
theorem Qm (h:qN K vs H Q E): ∃Eh,Fx K E Eh { nx:=λ _ H'=>Q .non H',rt:=Q } (start ["one","other","pair","leads","sign","room","beside"] vs) H:=by
 unfold qN at h;obtain ⟨h1,h2,pa,d1,d2,e1,e2,⟨px,py⟩,rfl,hH1,hH2,hpa,⟨⟨x0,x1⟩,y0,y1⟩,hln,q⟩:=h;refine ⟨E0,?_⟩;unfold Fx;dsimp only at hpa x0 x1 y0 y1;obtain ⟨p2,_,p1,_,prs,pd,_,p4⟩:=hH1.at;obtain ⟨b1,er1,hdr1⟩:=p4 x0 x1;obtain ⟨q2,_,q1,_,qrs,qd,_,q4⟩:=hH2.at;obtain ⟨b2,er2,hdr2⟩:=q4 y0 y1;obtain ⟨zs,ez,hT,hz⟩:=hdr1.sq;have hrow:(d1.getD px.toNat []).length<=1000:=by
  rw [Zb,Qb (by rfl')];exact hln _ (Zl _)
 symm;intro lp hlp;symm;have S0:Same H (upd H lp (HO.lst [])):=aH hlp _;have hfr: ∀p'∈[lp],H p'=none:=λ p' hp'=>by rw [Ze.mp hp'];exact hlp
 refine bj (S0.tup p1) (aJ (j:=0) (v:= .ref p2) rfl) ?_;symm;refine bj (SqT.of (S0.get hpa)) (aJ (j:=0) (v:= .int px) rfl) ?_;refine bj (S0.tup pd) er1 ?_;have eld:vg d1 d2 (px,py)=(d1.getD px.toNat []).filterMap λ q=>(Hs.dr (d2.getD py.toNat []) q.1).map λ b=>(q.1,(q.2,b)):=rfl
 rw [eld] at q;rw [<- ez] at q hrow;clear eld;rw [Qr] at hrow;walk_at "ns";refine p6 (λ z:Addr×Str×Int=>V.ref z.1) (S0.tup hT) (λ i σ H'=>Sb [lp] H H'/\(∃us:List Lb,H' lp=some (.lst (us.map λ z:Lb=>V.ref z.1))/\us.map (λ z:Lb=>z.2.2)=(((zs.map (·.2)).take i).filterMap λ q=>(Hs.dr (d2.getD py.toNat []) q.1).map λ b=>(q.1,(q.2,b)))/\us.length<=i/\ ∀z∈us,H' z.1=some (.tup [.str z.2.2.1, .ref z.2.1])/\H' z.2.1=some (.tup [.int z.2.2.2.1, .int z.2.2.2.2]))/\ ∃o1 o2 o3,σ=[some (.ref h1),some (.ref h2),some (.ref pa),some (.ref lp),o1,o2,o3]) ⟨Sb.of S0,⟨[],au,rfl,Yu _,by simp⟩,_,_,_,rfl⟩ ?_ ?_ ?_
 ·rintro i σ H' ⟨sb,_⟩;exact (sb.off hfr).tup hT
 ·rintro i ⟨za,s,room⟩ σ H' hi ⟨sb,⟨us,elp,eu,hul,hu⟩,o1,o2,o3,rfl⟩;have S':=sb.off hfr;have hil:i<zs.length:=(Zf.mp hi).1;have hd:=hz _ (Zj hi);dsimp only at hd;have etk:(zs.map (·.2)).take (i+1)=(zs.map (·.2)).take i++[(s,room)]:=by rw [Yj,Zg,hi];rfl
  have efm: ∀o,Hs.dr (d2.getD py.toNat []) s=o->(((zs.map (·.2)).take (i+1)).filterMap λ q=>(Hs.dr (d2.getD py.toNat []) q.1).map λ b=>(q.1,(q.2,b)))=us.map (λ z:Lb=>z.2.2)++(match o with | none=>[] | some b=>[(s,(room,b))]):=λ o eo=>by
   rw [etk,List.filterMap_append,eu,Wu,List.filterMap_nil];dsimp only;rw [eo]
   cases o<;>rfl
  refine gw (S'.tup hd) rfl ?_;symm;refine bj (S'.tup q1) (aJ (j:=0) (v:= .ref q2) rfl) ?_;symm;refine bj (SqT.of (S'.get hpa)) (aJ (j:=1) (v:= .int py) rfl) ?_;refine bj (S'.tup qd) er2 ?_;symm;refine ⟨b2,_,s,rfl,hdr2.same S',?_⟩;symm
  cases hb:Hs.dr (d2.getD py.toNat []) s with
  | none=>
   symm;refine iw rfl ?_;symm;exact ⟨sb,⟨us,elp,by rw [efm none hb,Xd],by rfl',hu⟩,_,_,_,rfl⟩
  | some b=>
   symm;refine gr (by intro z;cases z) ?_;symm;refine jP (SqL.of elp) ?_;symm;intro t1 ht1;symm;intro t2 ht2;symm;have T:=(aH ht1 (HO.tup [V.int room,V.int b])).new (o:=HO.tup [V.str s,V.ref t1]) ht2;have elp2:=T.get elp;refine mH elp2 (by rw [Qr];rfl') ?_;symm;refine ⟨(sb.same T).set (by simp),⟨us++[(t2,t1,s,(room,b))],by rw [au,Zq];rfl,by rw [efm (some b) hb,Zq];rfl,by simp;rfl',λ z mz=> ?_⟩,_,_,_,rfl⟩;have key: ∀ {a:Addr} {l:List V},upd (upd H' t1 (HO.tup [V.int room,V.int b])) t2 (HO.tup [V.str s,V.ref t1]) a=some (.tup l)-> ∀w,upd (upd (upd H' t1 (HO.tup [V.int room,V.int b])) t2 (HO.tup [V.str s,V.ref t1])) lp (.lst w) a=some (.tup l):=λ e w=>by
    rw [aD (du e elp2 (by intro q;cases q))];exact e
   rcases Zv.mp mz with mz | mz
   ·exact ⟨key (T.get (hu z mz).1) _,key (T.get (hu z mz).2) _⟩
   ·rw [Ze.mp mz];exact ⟨key au _,key (aO ht2 au) _⟩
 ·rintro σ H' ⟨sb,⟨us,elp,eu,hul,hu⟩,o1,o2,o3,rfl⟩;rw [Xy (by rw [Qr];exact Zn _)] at eu;symm;exact q lp H' (sb.off hfr) hlp ⟨us,eu,elp,hu⟩
theorem Qn (h:qN K vs H Q E):vs.length=3:=by
 unfold qN at h;obtain ⟨_,_,_,_,_,_,_,_,rfl,_⟩:=h;rfl
theorem getD_mem' {ds:L2S} {r:Int}:ds.getD r.toNat []=[]\/ds.getD r.toNat []∈ds:=by
 by_cases c:r.toNat<ds.length
 ·right;rw [Zb,Qb c];exact Zl c
 ·left;rw [Zb,Yb (by rfl')];rfl
theorem jZ {d1 d2:L2S} (g:GdB d1) (P:List (Int×Int)) (p:Int×Int):((bF d1 d2 P p).map (·.1)).Pairwise gY:=by
 refine List.Pairwise.sublist (pF d1 d2 P p) ?_;rcases getD_mem' (ds:=d1) (r:=p.1) with h | h
 ·rw [h];exact List.Pairwise.nil
 ·exact g.sr _ h
theorem nQ {d1 d2:L2S} (g:GdB d1) {P:List (Int×Int)} {p:Int×Int} {z:Str×Int} (h:z∈bF d1 d2 P p):Hs.Sg z.1:=by
 have:=(pF d1 d2 P p).subset (Zc.mpr ⟨z,h,rfl⟩);rcases getD_mem' (ds:=d1) (r:=p.1) with h' | h'
 ·rw [h'] at this;cases this
 ·obtain ⟨y,my,ey⟩:=Zc.mp this;rw [<- ey];exact g.sg _ h' y my
def lN (K:W.Frag):Sp:=λ vs H Q E=> ∃ (h1 h2:Addr) (d1 d2:L2S) (e1 e2:List Int),vs=[.ref h1, .ref h2]/\HsT K H h1 d1 e1/\HsT K H h2 d2 e2/\GdB d1/\GdB d2/\Hs.Wf d1/\Hs.Wf d2/\ ∀N,(bx d1 d2 N).length<=N->((bx d1 d2 N).length<=40-> ∀r H',Same H H'->HsT K H' r ((bx d1 d2 N).map (bF d1 d2 (bx d1 d2 N))) (dU e1 e2 (bx d1 d2 N))->Q (.ref r) H')/\(40<(bx d1 d2 N).length-> ∀H',Same H H'->E (.ref n6) none H')
abbrev xK (K:W.Frag):Sp:=λ vs H Q _=>lN K vs H Q E0
def xM (K:W.Frag) (E:XK) (Eh:XK):TS:=
  (aN (b7 (ig (ak (ie (ak (tC (V.int 0)) (ak (tC (V.int 0)) aF))) aF)) (aB 2))
  (aN (b7 (wD (ie (ak (tC (V.int 0)) (ak (tC (V.int 0)) aF))) (tC (V.int 0))) (aB 3))
  (aN (b7 (ig aF) (aB 4))
  (aN (jl (bh (aW Ke (d7 (cB K) (ak (aj 4) aF)) (d7 (cB K) (ak (aj 2) aF)))) (aN (b7 (aX (qN K) [] E0 (ak (aj 0) (ak (aj 1) (ak (aW (gJ K) (aj 2) (d7 (cB K) (ak (aj 4) aF))) aF)))) (aB 5))
  (aN (dG (dF K (aj 5)) (km K 2 (cN (aB 6) (cN (aB 7) mV))) (cu (tB (rC (aj 7) (aj 3))) (aN (je (aj 3) (aj 7) (d7 (cB K) (ak (aj 2) aF)))
  (eV (vO K "list" eQ (aj 2) (ak (aj 7) aF)))) bD))
  (eV (vO K "list" eQ (aj 4) (ak (qt [none,none,some 3] (dF K (aj 5)) (km K 2 (cN (aB 0) (cN (aB 1) mV))) eY (ie (ak (aj 0) (ak (g8 (aj 2) (aj 1)) aF)))) aF))))))
  (aN (b7 (qt [none,some 3,some 0,some 1] (dF K (aj 2)) (aB 0) (jk (bh (aW (vN K false) (aW (bu K) (aj 0) (tC (V.int 0))) (aW (bu K) (aj 2) (tC (V.int 1))))) (bh (aW (vN K false) (aW (bu K) (aj 0) (tC (V.int 1))) (aW (bu K) (aj 3) (tC (V.int 1)))))) (g8 (aj 1) (aj 0))) (aB 8))
  (bV (aX (jj K) [] E (ak (aj 4) (ak (aj 8) aF)))))))))
theorem Mj (h:lN K vs H Q E): ∃Eh,xM K E Eh { nx:=λ _ H'=>Q .non H',rt:=Q } (start ["one","other","pairs","numbers","doors","leads","sign","pair","ends"] vs) H:=by
 unfold lN at h;obtain ⟨h1,h2,d1,d2,e1,e2,rfl,hH1,hH2,g1,g2,w1,w2,q⟩:=h;refine ⟨E0,?_⟩;unfold xM;symm;intro t0 ht0;symm;intro fo hfo;symm;intro nu hnu;symm;intro t1 ht1;symm;have n1:fo≠nu:=λ e=>by rw [<- e,au] at hnu;cases hnu
 have n2:nu≠t1:=λ e=>by rw [<- e,au] at ht1;cases ht1
 have n3:fo≠t1:=aU (aO hnu au) ht1;refine ⟨by rw [aD n2];exact au,xJ (0,0),t1,rfl,au,?_⟩;have S0:Same H (upd (upd H t0 (HO.tup [V.int 0,V.int 0])) fo (HO.lst [V.ref t0])):=(aH ht0 _).new hfo;have hfo0:H fo=none:=(aH ht0 _).free hfo;have hnu0:H nu=none:=S0.free hnu;obtain ⟨HI,eHI⟩: ∃HI,HI=upd (upd (upd (upd (upd H t0 (HO.tup [V.int 0,V.int 0])) fo (HO.lst [V.ref t0])) nu (HO.dT [])) t1 (HO.tup [V.int 0,V.int 0])) nu (HO.dT [(xJ (0,0),V.int 0)]):=⟨_,rfl⟩;have sbI:Sb [fo,nu] H HI:=by rw [eHI];exact ((((Sb.of S0).new hnu).new ht1).set (by simp))
 have efo:HI fo=some (.lst [V.ref t0]):=by rw [eHI,aD n1,aD n3,aD n1];exact au
 have enu:HI nu=some (.dT [(xJ (0,0),V.int 0)]):=by rw [eHI];exact au
 have et0:HI t0=some (.tup [V.int 0,V.int 0]):=by
  have a0:upd (upd (upd (upd H t0 (HO.tup [V.int 0,V.int 0])) fo (HO.lst [V.ref t0])) nu (HO.dT [])) t1 (HO.tup [V.int 0,V.int 0]) t0=some (.tup [V.int 0,V.int 0]):=aO ht1 (aO hnu (aO hfo au));rw [eHI,aD (du a0 (show upd (upd (upd (upd H t0 (HO.tup [V.int 0,V.int 0])) fo (HO.lst [V.ref t0])) nu (HO.dT [])) t1 (HO.tup [V.int 0,V.int 0]) nu=some (.dT []) by rw [aD n2];exact au) (by intro q;cases q))];exact a0
 rw [<- eHI];clear eHI S0 ht0 hfo hnu ht1 n2 n3;symm;intro dr hdr;have n4:fo≠dr:=λ e=>by rw [<- e,efo] at hdr;cases hdr
 have n5:nu≠dr:=λ e=>by rw [<- e,enu] at hdr;cases hdr
 have hdr0:H dr=none:=(sbI.off λ p hp=>by
  simp only [Zp,Yi,Ws] at hp;rcases hp with rfl | rfl
  ·exact hfo0
  ·exact hnu0).free hdr
 have hfr: ∀p∈[fo,nu,dr],H p=none:=λ p hp=>by
  simp only [Zp,Yi,Ws] at hp;rcases hp with rfl | rfl | rfl
  ·exact hfo0
  ·exact hnu0
  ·exact hdr0
 have hl1:=g1.r2;have hl2:=g2.r2;have hln: ∀ps∈d1,ps.length<=1000:=λ ps m=>Zw (g1.ln ps m) (by decide)
 symm;walk_at "ns";refine sE (λ σ H'=>Sb [fo,nu,dr] H H'/\ ∃ (k:Nat) (as:List (Addr×(Int×Int))) (rows:List (Addr×List Dz)) (o1 o2 o3:Option V),as.map (·.2)=bx d1 d2 k/\H' fo=some (.lst (as.map λ z=>V.ref z.1))/\(∀z∈as,H' z.1=some (.tup [.int z.2.1, .int z.2.2]))/\H' nu=some (.dT (G8 (bx d1 d2 k) 0))/\H' dr=some (.lst (rows.map λ r=>V.ref r.1))/\rows.length=k/\(∀r∈rows,H' r.1=some (.lst (r.2.map λ z:Dz=>V.ref z.1))/\r.1∉[fo,nu,dr]/\ ∀z∈r.2,H' z.1=some (.tup [.str z.2.1, .int z.2.2]))/\(∀ (j:Nat) r,rows[j]? =some r-> ∃p,(bx d1 d2 k)[j]? =some p/\r.2.map (·.2)=bF d1 d2 (bx d1 d2 k) p)/\σ=[some (.ref h1),some (.ref h2),some (.ref fo),some (.ref nu),some (.ref dr),o1,o2,o3,none]) (λ _ H'=>match H' dr with | some (.lst l)=>2001-l.length | _=>0) ⟨(Sb.more sbI (by simp)).new hdr,0,[(t0,(0,0))],[],_,_,_,rfl,aO hdr efo,λ z mz=>by rw [Ze.mp mz];exact aO hdr et0,aO hdr enu,au,rfl,by simp,by simp,rfl⟩ ?_ ?_
 ·rintro σ H' ⟨sb,k,as,rows,o1,o2,o3,ea,efo,ha,enu,edr,hrl,hrow,hrb,rfl⟩;have hal:as.length=(bx d1 d2 k).length:=by rw [<- ea,Qr]
  have hbl:=HX w1 w2 hl1 hl2 k;have S':=sb.off hfr;symm;refine fP (SqL.of edr) ?_;rw [Qr];symm;refine fP (SqL.of efo) ?_;rw [Qr];symm;refine fG (λ c1=> ?_) λ c1=> ?_
  ·obtain ⟨z,hz⟩: ∃z,as[k]? =some z:=⟨_,Qb (by rfl')⟩;have hbk:(bx d1 d2 k)[k]? =some z.2:=by rw [<- ea,Zg,hz];rfl
   symm;refine fP (SqL.of edr) ?_;rw [Qr,hrl];refine gh (SqL.of efo) (aJ (j:=k) (v:= .ref z.1) (by rw [Zg,hz];rfl)) ?_;symm;refine ⟨h1,h2,z.1,d1,d2,e1,e2,z.2,rfl,hH1.same S',hH2.same S',ha z (Zj hz),lM w1 w2 k _ (Zj hbk),hln,λ wa H1 s1 hwa hLd=> ?_⟩;obtain ⟨zs,ez,ewa,hzs⟩:=hLd;have efo1:=s1.get efo;have enu1:=s1.get enu;have edr1:=s1.get edr;have hzl:zs.length<=62:=by
    have:=nP (d2:=d2) g1.ln z.2;rw [<- ez,Qr] at this;exact this
   have nwa:wa∉[fo,nu,dr]:=λ m=>by
    simp only [Zp,Yi,Ws] at m;rcases m with rfl | rfl | rfl
    ·rw [efo] at hwa;cases hwa
    ·rw [enu] at hwa;cases hwa
    ·rw [edr] at hwa;cases hwa
   have kt: ∀ {H2:Hp} {a:Addr} {l:List V},Sb [fo,nu,dr] H1 H2->H1 a=some (.tup l)->H2 a=some (.tup l):=λ {H2 a l} sb2 e=>sb2 a _ (λ m=>by
    simp only [Zp,Yi,Ws] at m;rcases m with rfl | rfl | rfl
    ·rw [efo1] at e;cases e
    ·rw [enu1] at e;cases e
    ·rw [edr1] at e;cases e) e
   have eqs:(vg d1 d2 z.2).map (·.2)=zs.map λ y:Lb=>y.2.2.2:=by rw [<- ez,Zk];rfl
   symm;walk_at "ns";refine jQ (λ y:Lb=>V.ref y.1) (zs:=zs) (SqL.of ewa) (λ i σ H2=>Sb [fo,nu,dr] H1 H2/\ ∃ (as2:List (Addr×(Int×Int))) (o1 o2:Option V),as2.map (·.2)=iJ (bx d1 d2 k) ((zs.map λ y:Lb=>y.2.2.2).take i)/\H2 fo=some (.lst (as2.map λ z=>V.ref z.1))/\(∀z∈as2,H2 z.1=some (.tup [.int z.2.1, .int z.2.2]))/\H2 nu=some (.dT (G8 (iJ (bx d1 d2 k) ((zs.map λ y:Lb=>y.2.2.2).take i)) 0))/\H2 dr=some (.lst (rows.map λ r=>V.ref r.1))/\as2.length<=2000+i/\σ=[some (.ref h1),some (.ref h2),some (.ref fo),some (.ref nu),some (.ref dr),some (.ref wa),o1,o2,none]) ⟨Sb.of (Same.refl _),as,_,_,by rw [List.take_zero,jW];exact ea,efo1,λ z mz=>s1.get (ha z mz),by rw [List.take_zero,jW];exact enu1,edr1,by rfl',rfl⟩ ?_ ?_ ?_
   ·rintro i σ H2 ⟨sb2,_⟩;exact SqL.of (sb2.get nwa ewa)
   ·rintro i ⟨ya,yb,s,yx,yy⟩ σ H2 hi ⟨sb2,as2,o1,o2,ea2,efo2,ha2,enu2,edr2,hl2',rfl⟩;obtain ⟨t1',t2'⟩:=hzs _ (Zj hi);dsimp only at t1' t2';have u1:=kt sb2 t1';have u2:=kt sb2 t2';have hil:i<zs.length:=(Zf.mp hi).1;have etk:(zs.map λ y:Lb=>y.2.2.2).take (i+1)=(zs.map λ y:Lb=>y.2.2.2).take i++[(yx,yy)]:=by rw [Yj,Zg,hi];rfl
    have hal2:as2.length=(iJ (bx d1 d2 k) ((zs.map λ y:Lb=>y.2.2.2).take i)).length:=by rw [<- ea2,Qr]
    rw [etk,Ay];refine gw (SqT.of u1) rfl ?_;symm;refine ⟨nu,_,rfl,DGet.t (k:=xJ (yx,yy)) enu2 u2,?_⟩;rw [jY];by_cases m:(yx,yy)∈iJ (bx d1 d2 k) ((zs.map λ y:Lb=>y.2.2.2).take i)
    ·rw [if_pos m,if_pos m];symm;show if (!true)=true then _ else _
     symm;exact ⟨sb2,as2,_,_,ea2,efo2,ha2,enu2,edr2,by rfl',rfl⟩
    ·rw [if_neg m,if_neg m];symm;show if (!false)=true then _ else _
     symm;refine fP (SqL.of efo2) ?_;rw [Qr];symm;refine ⟨nu,_,rfl,DPut.t (k:=xJ (yx,yy)) enu2 u2 (Xa (by rw [zx,<- hal2];rfl':_<=3000) (by decide)),?_⟩;rw [gO _ (by rw [jY,if_neg m])];symm;have efo3: ∀w,upd H2 nu w fo=some (.lst (as2.map λ z=>V.ref z.1)):=λ w=>by rw [aD n1];exact efo2
     refine jP (SqL.of (efo3 _)) ?_;symm;refine mH (efo3 _) (by rw [Qr];rfl') ?_;symm;refine ⟨(sb2.set (by simp)).set (by simp),as2++[(yb,(yx,yy))],_,_,by rw [Zq,ea2];rfl,by rw [au,Zq];rfl,λ y my=> ?_,by rw [aD n1.symm,au,vp,Nat.zero_add,<- hal2],by rw [aD n4.symm,aD n5.symm];exact edr2,by simp;rfl',rfl⟩;have hy:H2 y.1=some (.tup [.int y.2.1, .int y.2.2]):=by
      rcases Zv.mp my with my | my
      ·exact ha2 y my
      ·rw [Ze.mp my];exact u2
     rw [aD (du hy efo2 (by intro q;cases q)),aD (du hy enu2 (by intro q;cases q))];exact hy
   ·rintro σ H2 ⟨sb2,as2,o1,o2,ea2,efo2,ha2,enu2,edr2,_,rfl⟩;rw [Xy (by rw [Qr];exact Zn _),<- eqs,<- fV hbk] at ea2 enu2;have ewa2:=sb2.get nwa ewa;have hcl: ∀y∈zs,y.2.2.2∈bx d1 d2 (k+1):=λ y my=>by
     rw [fV hbk,eqs];exact iY.mpr (.inr (Zc.mpr ⟨y,my,rfl⟩))
    symm;refine jP (SqL.of edr2) ?_;symm;walk_at "ns";refine DY (λ y:Lb=>V.ref y.1) (zs:=zs) (SqL.of ewa2) (by rfl') (λ i vs H3=>Same H2 H3/\ ∃us:List Dz,vs=us.map (λ z:Dz=>V.ref z.1)/\us.map (·.2)=(zs.take i).map (λ y:Lb=>(y.2.2.1,((bx d1 d2 (k+1)).idxOf y.2.2.2:Int)))/\ ∀z∈us,H3 z.1=some (.tup [.str z.2.1, .int z.2.2])) ⟨Same.refl _,[],rfl,rfl,by simp⟩ ?_ ?_ ?_ ?_
    ·rintro i vs H3 ⟨s3,_⟩;exact SqL.of (s3.get ewa2)
    ·rintro i vs H3 ⟨_,us,rfl,eu,_⟩;have:=Yn List.length eu;rw [Qr,Qr,Ys] at this;rw [Qr];rfl'
    ·rintro i ⟨ya,yb,s,yx,yy⟩ vs H3 hi ⟨s3,us,rfl,eu,hu⟩;have my:=Zj hi;obtain ⟨t1',t2'⟩:=hzs _ my;dsimp only at t1' t2';have u1:=s3.get (kt sb2 t1');have u2:=s3.get (kt sb2 t2');refine gw (SqT.of u1) rfl ?_;symm;refine ⟨nu,V.int ((bx d1 d2 (k+1)).idxOf (yx,yy):Nat),rfl,by have:=DGet.t (k:=xJ (yx,yy)) (s3.get enu2) u2;rw [jY,if_pos (hcl _ my),Nat.zero_add] at this;exact this,?_⟩;symm;intro tp htp;refine ⟨s3.new htp,us++[(tp,s,((bx d1 d2 (k+1)).idxOf (yx,yy):Int))],by rw [Zq];rfl,by rw [Zq,eu,Yj,hi,Zq];rfl,λ y my=> ?_⟩;rcases Zv.mp my with my | my
     ·exact aO htp (hu y my)
     ·rw [Ze.mp my];exact au
    ·rintro vs H3 ⟨s3,us,rfl,eu,hu⟩ nl hnl;rw [Xy (Zn _)] at eu;have S4:=s3.new (o:=HO.lst (us.map λ z:Dz=>V.ref z.1)) hnl;symm;refine mH (S4.get edr2) (by rw [Qr];rfl') ?_;symm;have hnlH:H2 nl=none:=s3.free hnl;have nnl:nl∉[fo,nu,dr]:=λ m=>by
      simp only [Zp,Yi,Ws] at m;rcases m with rfl | rfl | rfl
      ·rw [efo2] at hnlH;cases hnlH
      ·rw [enu2] at hnlH;cases hnlH
      ·rw [edr2] at hnlH;cases hnlH
     have edr4:=S4.get edr2;obtain ⟨E,eE⟩:=pD d1 d2 k;have sb12:Sb [fo,nu,dr] H' H2:=λ b o n e=>sb2 b o n (s1 b o e)
     have sbH:Sb [fo,nu,dr] H H2:=λ b o n e=>sb12 b o n (sb b o n e)
     refine ⟨⟨(sbH.same S4).set (by simp),k+1,as2,rows++[(nl,us)],_,_,_,ea2,by rw [aD n4];exact S4.get efo2,λ y my=> ?_,by rw [aD n5];exact S4.get enu2,by rw [au,Zq];rfl,by simp [hrl],λ r mr=> ?_,λ j r hj=> ?_,rfl⟩,?_⟩
     ·have:=S4.get (ha2 y my);rw [aD (du this edr4 (by intro q;cases q))];exact this
     ·rcases Zv.mp mr with mr | mr
      ·obtain ⟨r1,r2,r3⟩:=hrow r mr;have r1':=S4.get (sb12 _ _ r2 r1);refine ⟨by rw [aD λ e=>r2 (by rw [e];simp)];exact r1',r2,λ y my=> ?_⟩;have y1:H2 y.1=some (.tup [.str y.2.1, .int y.2.2]):=kt sb2 (s1.get (r3 y my));have y2:=S4.get y1;rw [aD (du y2 edr4 (by intro q;cases q))];exact y2
      ·rw [Ze.mp mr];refine ⟨by rw [aD λ (e:nl=dr)=>nnl (by rw [e];simp)];exact au,nnl,λ y my=> ?_⟩;have y2:=(aH hnl (HO.lst (us.map λ z:Dz=>V.ref z.1))).get (hu y my);rw [aD (du y2 edr4 (by intro q;cases q))];exact y2
     ·rcases Wl j rows.length with w | w
      ·rw [Ye w] at hj;obtain ⟨p,hp,er⟩:=hrb j r hj;refine ⟨p,by rw [eE,Ye (by rfl')];exact hp,?_⟩;rw [er,eE,Fw λ q' mq=>fW (by rfl') hp mq]
      ·rw [Yp w] at hj;have e0:j-rows.length=0:=by
        have:=(Zf.mp hj).1;simp at this;rfl'
       rw [e0] at hj
       cases hj;refine ⟨z.2,by rw [eE,Ye (by rfl'),show j=k by rfl'];exact hbk,?_⟩;rw [eu];unfold bF;rw [<- ez,Zk];rfl
     ·show (match upd (upd H3 nl _) dr _ dr with | some (.lst l)=>2001-l.length | _=>0)<(match H' dr with | some (.lst l)=>2001-l.length | _=>0);rw [au,edr];dsimp only;simp only [Yl,Qr,Wy];exact Nat.sub_lt_sub_left (show rows.length<2001 by rfl') (Nat.lt_succ_self _)
  ·have hN:(bx d1 d2 k).length<=k:=by rfl'
   obtain ⟨qok,qno⟩:=q k hN;have hnd:=j0 d1 d2 k;have hz0:=jX d1 d2 k;have hrlb:rows.length=(bx d1 d2 k).length:=by
    refine Nat.le_antisymm ?_ (by rfl');rcases Nat.eq_zero_or_pos rows.length with z | z
    ·rfl'
    ·obtain ⟨p,hp,_⟩:=hrb (rows.length-1) _ (Qb (by rfl'));have:=(Zf.mp hp).1;rfl'
   generalize hP:bx d1 d2 k=P at*;have hai: ∀z∈as,z.2∈P:=λ z mz=>by rw [<- ea];exact Zc.mpr ⟨z,mz,rfl⟩
   obtain ⟨p1d,p1e,p1a,p1b,_⟩:=hH1.at;obtain ⟨p2d,p2e,p2a,p2b,_⟩:=hH2.at;symm;walk_at "ns";refine DY (λ z:Addr×(Int×Int)=>V.ref z.1) (zs:=as) (SqL.of efo) (by rfl') (λ i vs H3=>H3=H'/\vs=((as.take i).filter λ z=>decide (z.2.1∈e1)&&decide (z.2.2∈e2)).map λ z=>V.int (P.idxOf z.2:Nat)) ⟨rfl,rfl⟩ ?_ ?_ ?_ ?_
   ·rintro i vs _ ⟨rfl,_⟩;exact SqL.of efo
   ·rintro i vs _ ⟨rfl,rfl⟩;rw [Qr];exact Zw (List.length_filter_le ..) (by rw [Ys];rfl')
   ·rintro i z vs _ hi ⟨rfl,rfl⟩;have mz:=Zj hi;have tz:=ha z mz;have etk:as.take (i+1)=as.take i++[z]:=by rw [Yj,hi];rfl
    symm;refine bj (SqT.of tz) (aJ (j:=0) (v:= .int z.2.1) rfl) ?_;symm;refine bj (S'.tup p1a) (aJ (j:=1) (v:= .ref p1e) rfl) ?_;refine wR (.inr (S'.tup p1b)) rfl (eZ _) ?_;rw [fH];symm;refine fG (λ c2=> ?_) λ c2=> ?_
    ·symm;refine bj (SqT.of tz) (aJ (j:=1) (v:= .int z.2.2) rfl) ?_;symm;refine bj (S'.tup p2a) (aJ (j:=1) (v:= .ref p2e) rfl) ?_;refine wR (.inr (S'.tup p2b)) rfl (eZ _) ?_;rw [fH];symm;refine fG (λ c3=> ?_) λ c3=> ?_
     ·symm;refine ⟨nu,V.int (P.idxOf z.2:Nat),rfl,by have:=DGet.t (k:=xJ z.2) enu tz;rw [jY,if_pos (hai z mz),Nat.zero_add] at this;exact this,?_⟩;exact ⟨rfl,by rw [etk,List.filter_append,Zq,List.filter_cons,if_pos (by simp [c2,c3])];rfl⟩
     ·exact ⟨rfl,by rw [etk,List.filter_append,Zq,List.filter_cons,if_neg (by simp [c3])];simp⟩
    ·exact ⟨rfl,by rw [etk,List.filter_append,Zq,List.filter_cons,if_neg (by simp [c2])];simp⟩
   rintro vs _ ⟨rfl,rfl⟩ pe hpe;rw [Xy (Zn _)];rename_i H';have eend:((as.filter λ z=>decide (z.2.1∈e1)&&decide (z.2.2∈e2)).map λ z=>V.int (P.idxOf z.2:Nat))=(dU e1 e2 P).map V.int:=by
    unfold dU;rw [<- ea,List.filter_map,Zk,Zk];rfl
   rw [eend];have s9:Same H' (upd H' pe (HO.lst ((dU e1 e2 P).map V.int))):=aH hpe _;symm;refine ⟨dr,pe,rows.map zj,(dU e1 e2 P).map V.int,rfl,SqL.of (by rw [Zk];exact s9.get edr),by rw [Qr];rfl',λ h40=>⟨λ row mr=> ?_,SqL.of au,λ x mx=> ?_,?_⟩,λ rs is er1 er2 g3 g4 g5 g6 r H5 ds es s5 hH hs hp hlt=> ?_,λ ne H5 s5=> ?_⟩
   ·obtain ⟨r,mr',rfl⟩:=Zc.mp mr;obtain ⟨r1,_,r3⟩:=hrow r mr';have hlen:r.2.length<=62:=by
     obtain ⟨j,hj,ej⟩:=Zu.mp mr';obtain ⟨p,hp,er⟩:=hrb j r (by rw [Qb hj,ej]);have:=Yn List.length er;unfold bF at this;rw [Qr,Qr] at this;rw [this];exact nP (d2:=d2) g1.ln p
    refine ⟨SqL.of (by show _=some (HO.lst ((r.2.map ofD).map _));rw [Zk];exact s9.get r1),λ g mg=> ?_,by show (r.2.map ofD).length<64;rw [Qr];rfl'⟩;obtain ⟨z,mz,rfl⟩:=Zc.mp mg;refine ⟨SqT.of (s9.get (r3 z mz)),?_,trivial⟩;have hsg:Hs.Sg z.2.1:=by
     obtain ⟨j,hj,ej⟩:=Zu.mp mr';obtain ⟨p,hp,er⟩:=hrb j r (by rw [Qb hj,ej]);have m1:z.2∈bF d1 d2 P p:=by rw [<- er];exact Zc.mpr ⟨z,mz,rfl⟩
     exact nQ g1 m1
    obtain ⟨n,en⟩:=hsg;show (z.2.1).length<=100000;rw [en,bw];simp
   ·obtain ⟨i,_,rfl⟩:=Zc.mp mx;trivial
   ·rw [Qr];have:=vo (e1:=e1) (e2:=e2) (P:=P);rw [Qr] at h40;rfl'
   ·have ers:rs=rows:=((Xg (f:=zj) (λ a b e=>sX e)).mp er1).symm;have eis:is=dU e1 e2 P:=((Xg (λ _ _ e=>V.int.inj e)).mp er2).symm;rw [ers] at hs g3 g4;rw [eis] at hp;have sP:Hs.Srt rows (P.map (bF d1 d2 P)):=by
     refine ⟨by rw [Qr];rfl',λ j ps row hj hr=> ?_⟩;obtain ⟨p,hp',er⟩:=hrb j row hr;rw [Zg,hp'] at hj
     cases hj;exact ⟨by rw [er],jZ g1 P p⟩
    rw [Hs.Srt.uniq hs sP,Hs.Es hp hlt (List.Perm.refl _) (tE hnd)] at hH;exact qok (by rfl') r H5 (S'.trans (s9.trans s5)) hH
   ·refine qno ?_ H5 (S'.trans (s9.trans s5));rcases Wl 40 P.length with c | c
    ·exact c
    ·exfalso;refine ne rows (dU e1 e2 P) rfl rfl (by have:=(Zf.mp hz0).1;rfl') (by rfl') (λ r mr=> ?_) ⟨(tE hnd).imp (λ h e=>by rfl'),λ i mi=>by rw [hrlb];exact tG i mi⟩;obtain ⟨j,hj,ej⟩:=Zu.mp mr;obtain ⟨p,hp,er⟩:=hrb j r (by rw [Qb hj,ej]);have hk:r.2.map (·.2.1)=(bF d1 d2 P p).map (·.1):=by rw [<- er,Zk];rfl
     refine ⟨by rw [hk];exact Ep (jZ g1 P p),λ z mz=> ?_⟩;have m1:z.2∈bF d1 d2 P p:=by rw [<- er];exact Zc.mpr ⟨z,mz,rfl⟩
     refine ⟨nQ g1 m1,?_⟩;obtain ⟨q',mq,eq'⟩:=Zc.mp m1;have h3:z.2.2=(P.idxOf q'.2:Int):=by rw [<- eq']
     rw [h3,hrlb];have:=Yr (show q'.2∈P by rw [<- hP];exact fW (Zs (Zf.mp hp).1 hN) (by rw [hP];exact hp) mq);rfl'
 ·rintro σ H Q Q' hq ⟨v,hv,x,n,e,hl,v',hv',x',n',e',hl',i,j,e1,e2,k,e3,z⟩;exact ⟨v,hv,x,n,e,hl,v',hv',x',n',e',hl',i,j,e1,e2,k,e3,hq _ _ z⟩
theorem Mp (h:lN K vs H Q E):vs.length=2:=by
 unfold lN at h;obtain ⟨_,_,_,_,_,_,rfl,_⟩:=h;rfl
def lO (K:W.Frag):Sp:=λ vs H Q E=> ∃ (h:Addr) (x:V) (ds:L2S) (es:List Int),vs=[.ref h,x]/\HsT K H h ds es/\GoodH ds es/\Thing H x/\(∀s,x= .str s->Hs.Sg s->(∀ps∈ds,Hs.dr ps s=none)->ds.length<40-> ∀r H' ds',Same H H'->HsT K H' r ds' (es++[(ds.length:Int)])->Jt ds es s ds'->Q (.ref r) H')/\((∀s,x= .str s->Hs.Sg s->(∀ps∈ds,Hs.dr ps s=none)->ds.length<40->False)-> ∀H',Same H H'->E (.ref n6) none H')
abbrev Fy (K:W.Frag):Sp:=λ vs H Q _=>lO K vs H Q E0
def xN (K:W.Frag) (E:XK) (Eh:XK):TS:=
  (aN (cu (mU (kY K (aX (jx K) [] E0 (ak (aj 1) aF)))) (fj E n6 (ak (tC (V.str (Str.ofString "the filler is no sign"))) aF)) bD)
  (aN (dG (mW K (aW (bu K) (aj 0) (tC (V.int 0)))) (aB 2) (cu (bh (aW ir (aX (mO K) [] E0 (ak (aj 2) (ak (aj 1) aF))) (tC V.non))) (fj E n6 (ak (tC (V.str (Str.ofString "the filler is the sign of a door"))) aF)) bD))
  (aN (b7 (d7 (cB K) (ak (aW (bu K) (aj 0) (tC (V.int 0))) aF)) (aB 3))
  (aN (b7 (aW Gu (qt [none] (mW K (aW (bu K) (aj 0) (tC (V.int 0)))) (aB 0) eY (d7 (nF K) (ak (aj 0) aF))) (ig (ak (ig aF) aF))) (aB 4))
  (aN (b7 (aW Gu (d7 (nF K) (ak (aW (bu K) (aj 0) (tC (V.int 1))) aF)) (ig (ak (aj 3) aF))) (aB 5))
  (aN (dG (dF K (aj 5)) (aB 6) (eV (vO K "list" eQ (aW (gJ K) (aj 4) (aj 6)) (ak (ie (ak (aj 1) (ak (aj 3) aF))) aF))))
  (bV (aX (jj K) [] E (ak (aj 4) (ak (aj 5) aF))))))))))
theorem Mq (h:lO K vs H Q E): ∃Eh,xN K E Eh { nx:=λ _ H'=>Q .non H',rt:=Q } (start ["house","filler","pairs","last","doors","ends","end"] vs) H:=by
 unfold lO at h;obtain ⟨h,x,ds,es,rfl,hH,gd,hx,q,qe⟩:=h;refine ⟨E0,?_⟩;unfold xN;symm;refine ⟨x,rfl,hx,?_⟩;symm;by_cases hsx:sgn x=true
 case neg=>
  rw [Bool.not_eq_true] at hsx;rw [hsx];symm;refine qe (λ s e sg _ _=> ?_) _ (Same.refl _);rw [e,EY sg] at hsx
  cases hsx
 rw [hsx];obtain ⟨s,rfl,sg⟩:=Fe hsx;obtain ⟨d,e,rs,h1,ers,h3,h4,h5⟩:=hH;have hrl:rs.length=ds.length:=by rw [<- ers,Qr]
 have hr2:=gd.r2;have i0: ∀ {H':Hp} {Q:VK},Same H H'->Q (.ref d) H'->bu K (.ref h) (.int 0) H' Q:=λ s h=>bj (SqT.of (s.get h1)) (aJ (j:=0) (v:= .ref d) rfl) h
 have i1: ∀ {H':Hp} {Q:VK},Same H H'->Q (.ref e) H'->bu K (.ref h) (.int 1) H' Q:=λ s h=>bj (SqT.of (s.get h1)) (aJ (j:=1) (v:= .ref e) rfl) h
 symm;refine i0 (Same.refl _) ?_;refine p6 (λ r:Addr×L1S=>V.ref r.1) (SqT.of h3) (λ i σ H'=>H'=H/\(∀ (j:Nat) ps,j<i->ds[j]? =some ps->Hs.dr ps s=none)/\ ∃o,σ=[some (.ref h),some (.str s),o,none,none,none,none]) ⟨rfl,by rfl',none,rfl⟩ ?_ ?_ ?_
 ·rintro i σ _ ⟨rfl,_⟩;exact SqT.of h3
 ·rintro i r σ _ hi ⟨rfl,hn,o,rfl⟩;have hds:ds[i]? =some r.2:=by rw [<- ers,Zg,hi];rfl
  symm;refine ⟨r.1,r.2,s,rfl,h4 r (Zj hi),?_⟩
  cases edr:Hs.dr r.2 s with
  | some k=>
   symm;refine gr (by intro z;cases z) ?_;symm;refine qe (λ s' e' _ hno _=> ?_) _ (Same.refl _)
   cases e';rw [hno r.2 (Zj hds)] at edr
   cases edr
  | none=>
   symm;refine iw rfl ?_;symm;refine ⟨rfl,λ j ps hj ej=> ?_,_,rfl⟩;rcases Wl j i with w | w
   ·exact hn j ps w ej
   ·obtain rfl:j=i:=by rfl'
    rw [hds] at ej
    cases ej;exact edr
 ·rintro σ _ ⟨rfl,hn,o,rfl⟩;rename_i H;have hno: ∀ps∈ds,Hs.dr ps s=none:=λ ps mp=>by
   obtain ⟨j,hj,ej⟩:=Zu.mp mp;exact hn j ps (by rfl') (by rw [Qb hj,ej])
  symm;refine i0 (Same.refl _) ?_;symm;refine gA (SqT.of h3) ?_;rw [Qr,hrl];symm;refine i0 (Same.refl _) ?_;refine Q0 (λ r:Addr×L1S=>V.ref r.1) (SqT.of h3) (by rfl') (λ i ys H'=> ∃rows:List (Addr×List Dz),ys=rows.map (λ r:Addr×List Dz=>V.ref r.1)/\rows.map (λ r=>r.2.map (·.2))=ds.take i/\Rws H' rows/\Same H H'/\ ∀r∈rows,H r.1=none) ⟨[],rfl,rfl,⟨by simp,by simp⟩,Same.refl _,by simp⟩ ?_ ?_ ?_ ?_
  ·rintro i ys H' ⟨rows,_,_,_,s',_⟩;exact SqT.of (s'.get h3)
  ·rintro i ys H' ⟨rows,rfl,er,_⟩;have:=Yn List.length er;rw [Qr,Ys] at this;rw [Qr];rfl'
  ·rintro i r ys H' hi ⟨rows,rfl,er,hR,s',hf⟩;have hds:ds[i]? =some r.2:=by rw [<- ers,Zg,hi];rfl
   obtain ⟨zs,ez,z1,z2⟩:=(h4 r (Zj hi)).same s';symm;refine qI (SqT.of z1) λ l hl=> ?_
   refine ⟨rows++[(l,zs)],by simp,?_,⟨?_,λ row mr=> ?_⟩,s'.new hl,λ r' mr'=> ?_⟩
   ·rw [Zq,er,Yj,hds];show _++[zs.map (·.2)]=_;rw [ez];rfl
   ·rw [Zq,Yq];refine ⟨hR.1,by simp,λ u mu w mw e=> ?_⟩;obtain ⟨row,mrow,rfl⟩:=Zc.mp mu;have mw':w=l:=by simpa using mw
    have:=(hR.2 row mrow).1;rw [e,mw',hl] at this
    cases this
   ·rcases Zv.mp mr with mr | mr
    ·exact (hR.same (aH hl _)).2 row mr
    ·rw [Ze.mp mr];exact ⟨au,λ z mz=>aO hl (z2 z mz)⟩
   ·rcases Zv.mp mr' with mr' | mr'
    ·exact hf r' mr'
    ·rw [Ze.mp mr'];exact s'.free hl
  ·rintro ys H1 ⟨rows0,rfl,er0,hR0,s1,hf0⟩ p1 hp1;rw [hrl,Yy] at er0;have hl0:rows0.length=ds.length:=by have:=Yn List.length er0;rwa [Qr] at this
   symm;intro pe hpe;symm;intro p2 hp2;symm;refine Jm (by walk_at "hp") au (by rw [Qr,hl0];show ds.length+1<=_;rfl') λ D hD=> ?_
   symm;have S1:Same H1 (upd (upd (upd (upd H1 p1 (.lst (rows0.map λ r:Addr×List Dz=>V.ref r.1))) pe (.lst [])) p2 (.lst [.ref pe])) D (.lst ((rows0.map λ r:Addr×List Dz=>V.ref r.1)++[.ref pe]))):=by walk_at "sm"
   have hR1:Rws (upd (upd (upd (upd H1 p1 (.lst (rows0.map λ r:Addr×List Dz=>V.ref r.1))) pe (.lst [])) p2 (.lst [.ref pe])) D (.lst ((rows0.map λ r:Addr×List Dz=>V.ref r.1)++[.ref pe]))) (rows0++[(pe,[])]):=by
    refine ⟨?_,λ row mr=> ?_⟩
    ·rw [Zq,Yq];refine ⟨hR0.1,by simp,λ u mu w mw e=> ?_⟩;obtain ⟨row,mrow,rfl⟩:=Zc.mp mu;have mw':w=pe:=by simpa using mw
     have:=aO (o':=HO.lst (rows0.map λ r:Addr×List Dz=>V.ref r.1)) hp1 (hR0.2 row mrow).1;rw [e,mw',hpe] at this
     cases this
    ·rcases Zv.mp mr with mr | mr
     ·exact (hR0.same S1).2 row mr
     ·rw [Ze.mp mr];exact ⟨by walk_at "hp",λ z mz=>absurd mz Yi⟩
   have hDe:(upd (upd (upd (upd H1 p1 (.lst (rows0.map λ r:Addr×List Dz=>V.ref r.1))) pe (.lst [])) p2 (.lst [.ref pe])) D (.lst ((rows0.map λ r:Addr×List Dz=>V.ref r.1)++[.ref pe]))) D=some (.lst ((rows0++[(pe,[])]).map λ r:Addr×List Dz=>V.ref r.1)):=by rw [au,Zq];rfl
   have hDn:D∉(rows0++[(pe,([]:List Dz))]).map (λ r:Addr×List Dz=>r.1):=λ m=>by
    obtain ⟨row,mrow,e⟩:=Zc.mp m;rcases Zv.mp mrow with mr | mr
    ·have:=(hR0.same ((((aH hp1 (HO.lst (rows0.map λ r:Addr×List Dz=>V.ref r.1))).new hpe (o:=HO.lst [])).new hp2 (o:=HO.lst [.ref pe])))).2 row mr;rw [e,hD] at this
     cases this.1
    ·rw [Ze.mp mr] at e;have e':pe=D:=e;have:upd (upd (upd H1 p1 (.lst (rows0.map λ r:Addr×List Dz=>V.ref r.1))) pe (.lst [])) p2 (.lst [.ref pe]) pe=some (.lst []):=by walk_at "hp"
     rw [e',<- e'] at this;rw [<- e'] at hD;rw [hD] at this
     cases this
   have fD:H D=none:=s1.free ((((aH hp1 (HO.lst (rows0.map λ r:Addr×List Dz=>V.ref r.1))).new hpe (o:=HO.lst [])).new hp2 (o:=HO.lst [.ref pe])).free hD);have fpe:H pe=none:=s1.free ((aH hp1 (HO.lst (rows0.map λ r:Addr×List Dz=>V.ref r.1))).free hpe);have hf1: ∀r∈rows0++[(pe,[])],H r.1=none:=λ r mr=>by
    rcases Zv.mp mr with mr | mr
    ·exact hf0 r mr
    ·rw [Ze.mp mr];exact fpe
   have hb1:(rows0++[(pe,([]:List Dz))]).map (λ r:Addr×List Dz=>r.2.map λ z:Dz=>z.2)=ds++[[]]:=by rw [Zq,er0];rfl
   have hl1:(rows0++[(pe,([]:List Dz))]).length=ds.length+1:=by simp [hl0]
   have S2:=s1.trans S1;generalize (upd (upd (upd (upd H1 p1 (.lst (rows0.map λ r:Addr×List Dz=>V.ref r.1))) pe (.lst [])) p2 (.lst [.ref pe])) D (.lst ((rows0.map λ r:Addr×List Dz=>V.ref r.1)++[.ref pe])))=H2 at*;generalize rows0++[(pe,([]:List Dz))]=rows1 at*;clear hR0 s1 hp1 hpe hp2 hD S1 hf0 fpe er0 hl0;refine i1 S2 ?_;symm;refine qI (SqT.of (S2.get h5)) λ p3 hp3=> ?_
   symm;intro p4 hp4;symm;refine Jm (by walk_at "hp") au (by rw [Qr];have:=gd.el;simp;rfl') λ F hF=> ?_
   symm;have S3:Same H2 (upd (upd (upd H2 p3 (.lst (es.map V.int))) p4 (.lst [.int (ds.length:Nat)])) F (.lst (es.map V.int++[.int (ds.length:Nat)]))):=by walk_at "sm"
   have hFe:(upd (upd (upd H2 p3 (.lst (es.map V.int))) p4 (.lst [.int (ds.length:Nat)])) F (.lst (es.map V.int++[.int (ds.length:Nat)]))) F=some (.lst ((es++[(ds.length:Int)]).map V.int)):=by rw [au,Zq];rfl
   have fF:H2 F=none:=((aH hp3 (HO.lst (es.map V.int))).new hp4 (o:=HO.lst [.int (ds.length:Nat)])).free hF;generalize (upd (upd (upd H2 p3 (.lst (es.map V.int))) p4 (.lst [.int (ds.length:Nat)])) F (.lst (es.map V.int++[.int (ds.length:Nat)])))=H3 at S3 hFe;clear hp3 hp4 hF;walk_at "ns";have hFn:F∉rows1.map (λ r:Addr×List Dz=>r.1):=λ m=>by
    obtain ⟨row,mrow,e⟩:=Zc.mp m;have:=(hR1.2 row mrow).1;rw [e,fF] at this
    cases this
   have hD3:=S3.get hDe;have hR3:=hR1.same S3;have SH:=S2.trans S3;have fin: ∀ {H':Hp},Sb (rows1.map λ r:Addr×List Dz=>r.1) H3 H'->Same H H':=λ sb b o e=>sb b o (λ m=>by
    obtain ⟨row,mrow,er⟩:=Zc.mp m;rw [<- er,hf1 row mrow] at e
    cases e) (SH b o e)
   have e9:(rows1.map λ r:Addr×List Dz=>V.ref r.1)=(rows1.map λ r:Addr×List Dz=>r.1).map V.ref:=by rw [Zk];rfl
   refine jQ V.int (zs:=es++[(ds.length:Int)]) (SqL.of hFe) (λ i σ H'=> ∃rows:List (Addr×List Dz),Rws H' rows/\rows.map (λ r:Addr×List Dz=>r.1)=rows1.map (λ r:Addr×List Dz=>r.1)/\(∀ (j:Nat) row,rows[j]? =some row->row.2.map (λ z:Dz=>z.2)=(ds++[[]]).getD j []++if (j:Int)∈(es++[(ds.length:Int)]).take i then [(s,(ds.length:Int))] else [])/\Sb (rows1.map λ r:Addr×List Dz=>r.1) H3 H'/\ ∃o6,σ=[some (V.ref h),some (V.str s),o,some (V.int (ds.length:Nat)),some (V.ref D),some (V.ref F),o6]) ⟨rows1,hR3,rfl,λ j row hj=> ?_,Sb.of (Same.refl _),none,rfl⟩ ?_ ?_ ?_
   ·have:=Yn (λ l=>l[j]?) hb1;simp only [Zg,hj,Option.map_some] at this;rw [getD_at this.symm];simp
   ·rintro i σ H' ⟨rows,_,_,_,sb,_⟩;exact SqL.of (sb.get hFn hFe)
   ·rintro i x σ H' hi ⟨rows,hR,ea,hrw,sb,o6,rfl⟩;have mx:=Zj hi;have hxr:0<=x/\x<(ds.length+1:Nat):=by
     rcases Zv.mp mx with mx | mx
     ·have:=gd.er x mx;rfl'
     ·rw [Ze.mp mx];rfl'
    obtain ⟨j,rfl⟩: ∃j:Nat,x=(j:Int):=⟨x.toNat,by rfl'⟩;have hrows:rows.length=ds.length+1:=by have:=Yn List.length ea;rw [Qr,Qr] at this;rfl'
    have hj:j<rows.length:=by rfl'
    have hnew:(j:Int)∉(es++[(ds.length:Int)]).take i:=λ m=>by
     have nd:((es++[(ds.length:Int)]).take (i+1)).Nodup:=List.Nodup.sublist (List.take_sublist _ _) (by
      rw [Yq];exact ⟨gd.ei.imp λ h e=>by rfl',by simp,λ u mu w mw e=>by have:=gd.er u mu;rw [Ze.mp mw] at e;rfl'⟩)
     rw [Yj,hi,Yq] at nd;exact nd.2.2 _ m _ (by simp) rfl
    symm;refine gh (SqL.of (sb.get hDn hD3)) (aJ (v:= .ref rows[j].1) ?_) ?_
    ·rw [e9,<- ea,Zk,Zg,Qb hj];rfl
    have hrow:=hR.2 _ (Zl hj);symm;refine jP (SqL.of hrow.1) ?_;symm;intro t ht;symm;have hln:rows[j].2.length<=1000:=by
     have h9:=Yn List.length (hrw j rows[j] (Qb hj));rw [Qr,if_neg hnew,Xd] at h9;rw [h9,Zb];rcases Wl j ds.length with w | w
     ·rw [Ye w,Qb w];have:=gd.ln _ (Zl w);show ds[j].length<=1000;rfl'
     ·rw [Yp w,show j-ds.length=0 by rfl'];exact Yu _
    refine mH (aO ht hrow.1) (by rw [Qr];rfl') ?_;symm;have hR2:=(hR.same (aH ht (HO.tup [V.str s,V.int (ds.length:Nat)]))).app (t:=t) (s:=s) (r:=(ds.length:Int)) hj au;rw [Zq] at hR2;refine ⟨rows.set j (rows[j].1,rows[j].2++[(t,s,(ds.length:Int))]),hR2,(nM hj _).trans ea,λ k row hk=> ?_,(sb.new ht).set (by rw [<- ea];exact Zc.mpr ⟨_,Zl hj,rfl⟩),_,rfl⟩;rw [Yj,hi];rw [List.getElem?_set] at hk;by_cases ejk:j=k
    ·subst ejk;rw [if_pos rfl,if_pos hj] at hk
     cases hk;rw [Zq,hrw j rows[j] (Qb hj),if_neg hnew,Xd,if_pos (Yg _ (by simp))];rfl
    ·rw [if_neg ejk] at hk;rw [hrw k row hk];congr 1;have:(k:Int)∈(es++[(ds.length:Int)]).take i++(some (j:Int)).toList↔(k:Int)∈(es++[(ds.length:Int)]).take i:=by
      rw [Zv];refine ⟨λ h=>h.elim id λ h=> ?_, .inl⟩;have:(k:Int)=j:=by simpa using h
      rfl'
     by_cases c:(k:Int)∈(es++[(ds.length:Int)]).take i
     ·rw [if_pos c,if_pos (this.mpr c)]
     ·rw [if_neg c,if_neg (λ z=>c (this.mp z))]
   ·rintro σ H' ⟨rows,hR,ea,hrw,sb,o6,rfl⟩;rw [Yy] at hrw;have hrows:rows.length=ds.length+1:=by have:=Yn List.length ea;rw [Qr,Qr] at this;rfl'
    have sf:=fin sb;have pzd: ∀row∈rows,∃ (j:Nat),rows[j]? =some row/\j<ds.length+1:=λ row mr=>by
     obtain ⟨j,hj,ej⟩:=Zu.mp mr;exact ⟨j,by rw [Qb hj,ej],by rfl'⟩
    have base: ∀ (j:Nat) p,p∈(ds++[[]]).getD j []-> ∃ps∈ds,p∈ps:=λ j p mp=>by
     rw [Zb] at mp;rcases Wl j ds.length with w | w
     ·rw [Ye w,Qb w] at mp;exact ⟨_,Zl w,mp⟩
     ·rw [Yp w] at mp;rcases Nat.eq_zero_or_pos (j-ds.length) with z | z
      ·rw [z] at mp;cases mp
      ·rw [Yb (by simp;rfl')] at mp;cases mp
    have good: ∀row∈rows,RowG (ds.length+1) row.2/\row.2.length<64:=λ row mr=>by
     obtain ⟨j,hj,hjl⟩:=pzd row mr;have e:=hrw j row hj;have hz: ∀z∈row.2,Hs.Sg z.2.1/\0<=z.2.2/\z.2.2<(ds.length+1:Nat):=λ z mz=>by
      have:z.2∈row.2.map (λ z:Dz=>z.2):=Zc.mpr ⟨z,mz,rfl⟩;rw [e] at this;rcases Zv.mp this with m | m
      ·obtain ⟨ps,mps,mp⟩:=base j _ m;obtain ⟨g1,g2,g3⟩:=gd.sg ps mps _ mp;exact ⟨g1,g2,by rfl'⟩
      ·split at m
       ·rw [Ze.mp m];exact ⟨sg,by show (0:Int)<=(ds.length:Int);rfl',by show (ds.length:Int)<_;rfl'⟩
       ·cases m
     have hd0:((ds++[[]]).getD j []).length<=62/\(((ds++[[]]).getD j []).map (λ p:Str×Int=>p.1)).Nodup/\s∉((ds++[[]]).getD j []).map (λ p:Str×Int=>p.1):=by
      rw [Zb];rcases Wl j ds.length with w | w
      ·rw [Ye w,Qb w];exact ⟨gd.ln _ (Zl w),fU (gd.sr _ (Zl w)),sW.mp (hno _ (Zl w))⟩
      ·rw [Yp w,show j-ds.length=0 by rfl'];exact ⟨by decide,List.nodup_nil,Yi⟩
     refine ⟨⟨?_,hz⟩,?_⟩
     ·have e2:row.2.map (·.2.1)=(row.2.map (λ z:Dz=>z.2)).map (·.1):=by rw [Zk];rfl
      rw [e2,e,Zq,Yq];refine ⟨hd0.2.1,by split<;>simp,λ u mu w mw ee=>hd0.2.2 ?_⟩;split at mw
      ·have:w=s:=by simpa using mw
       rw [<- this,<- ee];exact mu
      ·cases mw
     ·have h9: ∀ (c:Prop) [Decidable c],(if c then [(s,(ds.length:Int))] else []).length<=1:=λ c _=>by split<;>simp
      have h8:=Yn List.length e;rw [Qr,Yl] at h8;have h7:=h9 ((j:Int)∈es++[(ds.length:Int)]);have h6:=hd0.1;rfl'
    have eqE:sO (ds.length+1) (es++[(ds.length:Int)]):=⟨by
      rw [Yq];exact ⟨gd.ei.imp λ h e=>by rfl',by simp,λ u mu w mw e=>by have:=gd.er u mu;rw [Ze.mp mw] at e;rfl'⟩,λ u mu=>by
     rcases Zv.mp mu with mu | mu
     ·have:=gd.er u mu;rfl'
     ·rw [Ze.mp mu];rfl'⟩
    symm;refine M6 ⟨D,F,rows.map zj,(es++[(ds.length:Int)]).map V.int,rfl,SqL.of ?_,by rw [Qr];rfl',λ row mr=> ?_,SqL.of (sb.get hFn hFe),λ x mx=> ?_,by rw [Qr,Yl];have:=gd.el;simp;rfl',λ rs' is' e1 e2 g1 g2 _ _ r' H5 ds' es' s5 hH5 hs5 pe5 se5=> ?_,λ ne H5 s5=>qe (λ s' e' _ _ hlt=> ?_) _ (sf.trans s5)⟩
    ·rw [Zk];show H' D=some (.lst (rows.map λ r:Addr×List Dz=>V.ref r.1));rw [sb.get hDn hD3,e9,<- ea,Zk];rfl
    ·obtain ⟨row',mr',rfl⟩:=Zc.mp mr;obtain ⟨w1,w2⟩:=hR.2 row' mr';obtain ⟨⟨_,g2⟩,g3⟩:=good row' mr';refine ⟨SqL.of (by show H' row'.1=some (.lst ((row'.2.map ofD).map _));rw [w1,Zk];rfl),λ g mg=> ?_,by show (row'.2.map ofD).length<64;rw [Qr];exact g3⟩;obtain ⟨z,mz,rfl⟩:=Zc.mp (show g∈row'.2.map ofD from mg);exact ⟨SqT.of (w2 z mz),sY (g2 z mz).1,trivial⟩
    ·obtain ⟨i,_,rfl⟩:=Zc.mp mx;trivial
    ·have ers':rows=rs':=(Xg (λ _ _ e=>sX e)).mp e1;have eis:es++[(ds.length:Int)]=is':=(Xg (λ _ _ e=>V.int.inj e)).mp e2;subst ers';subst eis;have hes:es'=es++[(ds.length:Int)]:=Hs.Es pe5 se5 (.refl _) (List.pairwise_append.mpr ⟨gd.ei,by simp,λ u mu w mw=>by have:=gd.er u mu;rw [Ze.mp mw];rfl'⟩);rw [hes] at hH5;refine q s rfl sg hno (by rfl') r' H5 ds' (sf.trans s5) hH5 ⟨by rw [hs5.1,hrows],λ j ps' hj=> ?_⟩;have hjl:j<rows.length:=by rw [<- hs5.1];exact (Zf.mp hj).1
     obtain ⟨a1,a2⟩:=hs5.2 j ps' rows[j] hj (Qb hjl);rw [<- hrw j rows[j] (Qb hjl)];exact ⟨a1,a2⟩
    ·exact ne rows (es++[(ds.length:Int)]) rfl rfl (by rfl') (by rfl') (λ r mr=>by rw [hrows];exact (good r mr).1) (by rw [hrows];exact eqE)
theorem Mr (h:lO K vs H Q E):vs.length=2:=by
 unfold lO at h;obtain ⟨_,_,_,_,rfl,_⟩:=h;rfl
def kh (K:W.Frag):Sp:=λ vs H Q _=> ∃ (a:Addr) (ns:List Int) (k:Nat),vs=[.ref a, .int k]/\SqL K H a (ns.map V.int)/\Q (.int (Mm.cellAt ns k)) H
def Fz (K:W.Frag) (E:XK) (Eh:XK):TS:=
  (aN (cu (bh (aW Ke (aj 1) (d7 (cB K) (ak (aj 0) aF)))) (bV (aW (gJ K) (aj 0) (aj 1))) bD)
  (bV (tC (V.int 0))))
theorem Qo (h:kh K vs H Q E): ∃Eh,Fz K E Eh { nx:=λ _ H'=>Q .non H',rt:=Q } (start ["script","k"] vs) H:=by
 unfold kh at h;obtain ⟨a,ns,k,rfl,hS,q⟩:=h;refine ⟨E0,?_⟩;unfold Fz;symm;refine fP hS ?_;symm;rw [Qr];refine fG (λ c=> ?_) λ c=> ?_
 ·symm;refine gh hS (aJ (v:=V.int (Mm.cellAt ns k)) ?_) ?_
  ·rw [Zg,Qb (by rfl'),Option.map_some,Mm.getD_some (Qb (by rfl'))]
  ·exact q
 ·symm;rw [Mm.getD_none (by rfl')] at q;exact q
theorem Qp (h:kh K vs H Q E):vs.length=2:=by
 unfold kh at h;obtain ⟨_,_,_,rfl,_⟩:=h;rfl
theorem Ms: ∀c∈Hs.Bd.cps.toList,Hs.Sg (tx [c]):=λ c mc=>by
 obtain ⟨k,hk,rfl⟩:=Zu.mp mc;have hl:Hs.Bd.cps.toList.length=94:=by ac_nf
 refine ⟨(k:Int),?_⟩;unfold Hs.El;rw [show ((k:Int)%94).toNat=k by rfl',Zb,Qb hk];rfl
theorem Ig {fs cs:List Nat} {j:Nat} (hj:j<cs.length) (h:(fs++cs).Nodup):((fs++[cs[j]])++(cs.take j++cs.drop (j+1))).Nodup:=by
 have e:cs=cs.take j++cs[j]::cs.drop (j+1):=by rw [<- Wt hj,List.take_append_drop]
 have p:((fs++[cs[j]])++(cs.take j++cs.drop (j+1))).Perm (fs++cs):=by
  rw [Wx];refine List.Perm.append_left _ ?_
  conv=>rhs;rw [e]
  exact (List.perm_middle (a:=cs[j]) (l₁:=cs.take j) (l₂:=cs.drop (j+1))).symm
 exact p.nodup_iff.mpr h
theorem Ih {fs cs:List Nat} {j:Nat} (hj:j<cs.length):((fs++[cs[j]])++(cs.take j++cs.drop (j+1))).Perm (fs++cs):=by
 have e:cs=cs.take j++cs[j]::cs.drop (j+1):=by rw [<- Wt hj,List.take_append_drop]
 rw [Wx];refine List.Perm.append_left _ ?_
 conv=>rhs;rw [e]
 exact (List.perm_middle (a:=cs[j]) (l₁:=cs.take j) (l₂:=cs.drop (j+1))).symm
def lQ (K:W.Frag):Sp:=λ vs H Q _=> ∃ (c:Int) (n:Nat),vs=[.int c, .int (n:Nat)]/\PySem.Builtin.Int.intBits c<=2^20/\n<=94/\ ∀fs:List Nat,fs.length=n->fs.Nodup->(∀c∈fs,Hs.Sg (tx [c]))->Q (.str (tx fs)) H
def xO (K:W.Frag) (E:XK) (Eh:XK):TS:=
  (aN (b7 (tC (V.str (Str.ofString " !\"#$&'()*+,-./0123456789:;<=>?@ABCDEFGHIJKLMNOPQRSTUVWXYZ[\\]^_`"))) (aB 2))
  (aN (b7 (aW eF (aj 2) (tC (V.str (Str.ofString "abcdefghijklmnopqrstuvwxyz{|}~")))) (aB 2))
  (aN (b7 (aW cJ (aj 0) (tC (V.int 2))) (aB 3))
  (aN (cu (bh (aW pJ (aW bZ (aj 0) (tC (V.int 2))) (tC (V.int 1)))) (b7 (aW dO (aW ww (aj 3) (aW O7 (tC (V.int 48271)) (tC (V.int 32)))) (tC (V.int 48271))) (aB 3)) bD)
  (aN (b7 (tC (V.str (Str.ofString ""))) (aB 4))
  (aN (dG (iG (ak (aj 1) aF)) (aB 5) (aN (b7 (aW bZ (aj 3) (d7 (cB K) (ak (aj 2) aF))) (aB 6))
  (aN (b7 (aW cJ (aj 3) (d7 (cB K) (ak (aj 2) aF))) (aB 3))
  (aN (b7 (aW eF (aj 4) (aW pK (aj 2) (aj 6))) (aB 4))
  (b7 (aW eF (BL rH (aj 2) fB (gH (aj 6))) (BL rH (aj 2) (gH (aW dO (aj 6) (tC (V.int 1)))) fB)) (aB 2))))))
  (bV (aj 4))))))))
theorem Mt (h:lQ K vs H Q E): ∃Eh,xO K E Eh { nx:=λ _ H'=>Q .non H',rt:=Q } (start ["cell","many","some","number","found","k","at"] vs) H:=by
 unfold lQ at h;obtain ⟨c,n,rfl,hb,hn,q⟩:=h;refine ⟨E0,?_⟩;unfold xO;have hl:Hs.Bd.cps.toList.length=94:=by ac_nf
 have hnd:Hs.Bd.cps.toList.Nodup:=by ac_nf
 symm;refine lz (by decide) ?_;walk_at "gj";walk_at "ns";with_reducible refine iy (λ σ' H'=>H'=H/\ ∃w:Int,σ'=[some (.int c),some (.int (n:Nat)),some (.str Hs.Bd),some (.int w),none,none,none]) ?_ ?_
 ·rintro σ' _ ⟨rfl,w,rfl⟩;rename_i H;symm;refine uY n (Zi _) (by rfl') (by rfl') (λ i σ H'=>H'=H/\ ∃ (fs cs:List Nat) (w:Int) (o5 o6:Option V),fs.length=i/\cs.length+i=94/\(fs++cs).Nodup/\(∀c∈fs++cs,Hs.Sg (tx [c]))/\σ=[some (.int c),some (.int (n:Nat)),some (.str (tx cs)),some (.int w),some (.str (tx fs)),o5,o6]) ⟨rfl,[],Hs.Bd.cps.toList,w,_,_,rfl,hl,hnd,Ms,rfl⟩ ?_ ?_
  ·rintro i σ _ hi ⟨rfl,fs,cs,w,o5,o6,hfl,hcl,hnd',hsg,rfl⟩;have hcp:0<cs.length:=by rfl'
   obtain ⟨j,ej,hj⟩:=Mm.dR w cs.length hcp;symm;refine gD (by rw [bw];rfl') ?_;rw [bw];refine Et hcp ej ?_;symm;refine gD (by rw [bw];rfl') ?_;rw [bw];symm;walk_at "ns";refine qH (c:=cs[j]) (by rw [bw];rfl') (aJ (Qb hj)) ?_;symm;refine lz (by rw [bw];show fs.length+1<=_;rfl') ?_;symm;walk_at "ns";refine p8 (by rw [bw];rfl') ?_;rw [v4 (Xh hj)];symm;refine p8 (by rw [bw];rfl') ?_;rw [show (j:Int)+1=((j+1:Nat):Int) by rfl',Hw hj];symm;refine lz (by rw [bw,bw,Ys,List.length_drop];rfl') ?_;symm;walk_at "ns";refine ⟨rfl,fs++[cs[j]],cs.take j++cs.drop (j+1),_,_,_,by simp [hfl],by rw [Yl,Ys,List.length_drop];rfl',Ig hj hnd',λ x mx=>hsg x ?_,by rw [<- jw,<- jw];rfl⟩;have hp:=Ih (fs:=fs) hj;exact hp.mem_iff.mp mx
  ·rintro σ _ ⟨rfl,fs,cs,w,o5,o6,hfl,hcl,hnd',hsg,rfl⟩;symm;exact q fs hfl (Yq.mp hnd').1 λ c mc=>hsg c (Xo _ mc)
 ·intro N hN;symm;refine fG (λ d1=> ?_) λ d1=> ?_
  ·symm;refine KN (Eo (k:=2) (by decide) hb) (n:=1000) (by ac_nf) (by decide) ?_;symm;exact hN _ _ ⟨rfl,_,rfl⟩
  ·symm;exact hN _ _ ⟨rfl,_,rfl⟩
theorem Mu (h:lQ K vs H Q E):vs.length=2:=by
 unfold lQ at h;obtain ⟨_,_,rfl,_⟩:=h;rfl
def qO (K:W.Frag):Sp:=λ vs H Q _=> ∃ (a:Addr) (cs:List Int) (many:Nat) (ss:List Nat),vs=[.ref a, .int many, .str (tx ss)]/\SqL K H a (cs.map V.int)/\cs.length<=62/\(1<=many/\many<=3)/\1<=ss.length/\ss.length<=60/\(∀c∈ss,Hs.Sg (tx [c]))/\ ∀r H' ds es,Same H H'->HsT K H' r ds es->ds.length=many->GoodH ds es->Hs.Wf ds->(∀ps∈ds,∀p∈ps,∃c∈ss,p.1=tx [c])->Q (.ref r) H'
def FJ (K:W.Frag) (E:XK) (Eh:XK):TS:=
  (aN (b7 (qt [none] (iG (ak (aj 1) aF)) (aB 0) eY (ig aF)) (aB 3))
  (aN (b7 (ig aF) (aB 4))
  (aN (dG (dF K (aj 0)) (aB 5) (aN (b7 (aW bZ (aj 5) (aj 1)) (aB 6))
  (aN (b7 (aW pK (aj 2) (aW bZ (aW cJ (aj 5) (aj 1)) (d7 (cB K) (ak (aj 2) aF)))) (aB 7))
  (aN (b7 (aW cJ (aW cJ (aj 5) (aj 1)) (d7 (cB K) (ak (aj 2) aF))) (aB 8))
  (aN (cu (bh (aW (vN K true) (aj 7) (qt [none] (dF K (aW (gJ K) (aj 3) (aj 6))) (aB 0) eY (aW (bu K) (aj 0) (tC (V.int 0)))))) (eV (vO K "list" eQ (aW (gJ K) (aj 3) (aj 6)) (ak (ie (ak (aj 7) (ak (aW bZ (aj 8) (aj 1)) aF))) aF))) bD)
  (aN (b7 (aW bZ (aW cJ (aW cJ (aj 8) (aj 1)) (tC (V.int 3))) (aj 1)) (aB 9))
  (cu (jk (bh (aW pJ (aW bZ (aW cJ (aj 8) (aj 1)) (tC (V.int 3))) (tC (V.int 0)))) (bh (aW (vN K true) (aj 9) (aj 4)))) (eV (vO K "list" eQ (aj 4) (ak (aj 9) aF))) bD)))))))
  (bV (ie (ak (d7 (dN K) (ak (qt [none] (dF K (aj 3)) (aB 0) eY (d7 (dN K) (ak (d7 (oK K) (ak (aj 0) aF)) aF))) aF)) (ak (d7 (dN K) (ak (d7 (rJ K) (ak (aj 4) aF)) aF)) aF)))))))
theorem Qq (h:qO K vs H Q E): ∃Eh,FJ K E Eh { nx:=λ _ H'=>Q .non H',rt:=Q } (start ["cells","many","signs","doors","ends","cell","room","sign","rest","last"] vs) H:=by
 unfold qO at h;obtain ⟨a,cs,many,ss,rfl,hS,h63,⟨hm1,hm2⟩,hf1,hf2,hsg0,q⟩:=h;refine ⟨E0,?_⟩;unfold FJ;symm;refine KH many (Zi _) (by rfl') (by rfl') (λ i H' hi A kA=> ?_) λ d H1 as s1 hd0 hal hand hdas hae hd1=> ?_
 ·symm;intro p hp;exact kA p hp
 symm;intro e he;symm;have he1:H e=none:=s1.free he;have hde:d≠e:=aU hd1 he;have hea:e∉as:=λ m=>by rw [(hae e m).2] at he;cases he
 have hfr: ∀p∈d::e::as,H p=none:=by
  intro p hp;rcases Zp.mp hp with rfl | hp
  ·exact hd0
  rcases Zp.mp hp with rfl | hp
  ·exact he1
  ·exact (hae p hp).1
 have S0:Same H (upd H1 e (.lst [])):=s1.new he;refine jQ V.int (zs:=cs) (S0.seq hS) (λ i σ H'=> ∃ (rows:List (Addr×List Dz)) (ends:List Int),Rws H' rows/\rows.map (·.1)=as/\(∀row∈rows,Hs.RowOk many i row.2/\ ∀z∈row.2,∃c∈ss,z.2.1=tx [c])/\Sb (d::e::as) H H'/\H' d=some (.lst (as.map V.ref))/\H' e=some (.lst (ends.map V.int))/\ends.Nodup/\ends.length<=i/\(∀x∈ends,0<=x/\x<many)/\ ∃o1 o2 o3 o4 o5,σ=[some (.ref a),some (.int (many:Nat)),some (.str (tx ss)),some (.ref d),some (.ref e),o1,o2,o3,o4,o5]) ?_ ?_ ?_ ?_
 ·refine ⟨as.map λ b=>(b,[]),[],⟨by rw [Zk];simpa [Function.comp_def] using hand,λ row hr=> ?_⟩,by rw [Zk];simp [Function.comp_def],λ row hr=> ?_,Sb.of S0,aO he hd1,au,by simp,by simp,by simp,none,none,none,none,none,rfl⟩
  ·obtain ⟨b,hb,rfl⟩:=Zc.mp hr;exact ⟨aO he (hae b hb).2,by simp⟩
  ·obtain ⟨b,hb,rfl⟩:=Zc.mp hr;exact ⟨⟨by simp,by simp,by simp⟩,by simp⟩
 ·rintro i σ H' ⟨rows,ends,hR,e1,hok,sb,hd',he',hnd,hel,her,o1,o2,o3,o4,o5,rfl⟩;exact sb.seq hfr hS
 ·rintro i c σ H' hc ⟨rows,ends,hR,e1,hok,sb,hd',he',hnd,hel,her,o1,o2,o3,o4,o5,rfl⟩;have hic:i<cs.length:=(Zf.mp hc).1;obtain ⟨j,ej,hj⟩:=Mm.dR c many (by rfl');have hrl:rows.length=many:=by rw [<- hal,<- e1,Qr]
  have hjr:j<rows.length:=by rfl'
  have hjm:rows[j]∈rows:=Zl hjr;have haj:qW (as.map V.ref) (j:Int)=some (.ref rows[j].1):=by
   refine aJ ?_;rw [<- e1,Zk,Zg,Qb hjr];rfl
  symm;rw [ej];obtain ⟨k,ek,hk⟩:=Mm.dR (c / (many:Int)) ss.length (by rfl');refine gD (show (tx ss).length<=1000000 by rw [bw];rfl') ?_;rw [bw];symm;rw [ek];refine qH (c:=ss[k]) (show (tx ss).length<=1000000 by rw [bw];rfl') (aJ (by show ss[k]? =_;rw [Qb hk])) ?_;show aB 7 (V.str (tx [ss[k]])) _ _ _;have hsc: ∃c∈ss,tx [ss[k]]=tx [c]:=⟨_,Zl hk,rfl⟩;have hsg:Hs.Sg (tx [ss[k]]):=hsg0 _ (Zl hk);generalize tx [ss[k]]=sg at hsg hsc;symm;refine gD (show (tx ss).length<=1000000 by rw [bw];rfl') ?_;rw [bw];walk_at "gj";have rs1:0<=c / (many:Int) / (ss.length:Int)%(many:Int):=Wp _ (by rfl');have rs2:c / (many:Int) / (ss.length:Int)%(many:Int)<many:=Wh _ (by rfl');generalize c / (many:Int) / (ss.length:Int)=rest at rs1 rs2;with_reducible refine iy (λ σ' H'=> ∃ (rows:List (Addr×List Dz)),Rws H' rows/\rows.map (·.1)=as/\(∀row∈rows,Hs.RowOk many (i+1) row.2/\ ∀z∈row.2,∃c∈ss,z.2.1=tx [c])/\Sb (d::e::as) H H'/\H' d=some (.lst (as.map V.ref))/\H' e=some (.lst (ends.map V.int))/\σ'=[some (.ref a),some (.int (many:Nat)),some (.str (tx ss)),some (.ref d),some (.ref e),some (.int c),some (.int (j:Int)),some (.str sg),some (.int rest),o5]) ?_ ?_
  ·rintro σ' H2 ⟨rows,hR,e1,hok,sb,hd',he',rfl⟩;have l1:0<=rest / (many:Int) / 3%(many:Int):=Wp _ (by rfl');have l2:rest / (many:Int) / 3%(many:Int)<many:=Wh _ (by rfl');symm;generalize rest / (many:Int) / 3%(many:Int)=last at l1 l2;refine fG (λ c1=> ?_) λ c1=> ?_
   ·symm;refine zg (.inl (SqL.of he')) rfl (eZ _) ?_;rw [fH];symm;refine uW (λ c2=> ?_) λ c2=> ?_
    ·symm;refine jP (SqL.of he') ?_;symm;refine mH he' (by rw [Qr];rfl') ?_;symm;refine ⟨rows,ends++[last],hR.setO he' (by rw [e1];exact hea),e1,hok,sb.set (by simp),by rw [aD hde];exact hd',by rw [au,Zq];rfl,?_,by simp;rfl',?_,_,_,_,_,_,rfl⟩
     ·rw [Yq];refine ⟨hnd,by simp,λ x m y my ee=>c2 ?_⟩;rw [Ze.mp my] at ee;rw [<- ee];exact m
     ·intro x m;rcases Zv.mp m with m | m
      ·exact her x m
      ·rw [Ze.mp m];exact ⟨l1,l2⟩
    ·symm;exact ⟨rows,ends,hR,e1,hok,sb,hd',he',hnd,by rfl',her,_,_,_,_,_,rfl⟩
   ·symm;exact ⟨rows,ends,hR,e1,hok,sb,hd',he',hnd,by rfl',her,_,_,_,_,_,rfl⟩
  ·intro N hN;symm;refine gh (SqL.of hd') haj ?_;have hrow:=hR.2 _ hjm;refine Ea (λ z:Dz=>V.ref z.1) (SqL.of hrow.1) (by have:=(hok _ hjm).1.2.1;rfl') (λ z=>V.str z.2.1) (λ k z hz A kA=> ?_) λ p hp=> ?_
   ·have tz:=hrow.2 z (Zj hz);symm;exact bj (SqT.of tz) (aJ (j:=0) (v:= .str z.2.1) rfl) kA
   ·symm;refine zg (xs:=(rows[j].2.map (·.2.1)).map V.str) (.inl (SqL.of (by rw [au,Zk];rfl))) rfl (Av _) ?_;rw [Hz];symm;refine uW (λ c2=> ?_) λ c2=> ?_
    ·symm;refine gh (SqL.of (aO hp hd')) haj ?_;symm;refine jP (SqL.of (aO hp hrow.1)) ?_;symm;intro t ht;symm;refine mH (aO ht (aO hp hrow.1)) (by rw [Qr];have:=(hok _ hjm).1.2.1;rfl') ?_;symm;have hR2:=((hR.same (aH hp (HO.lst (rows[j].2.map λ z=>V.str z.2.1)))).same (aH ht (HO.tup [V.str sg,V.int (rest%(many:Int))]))).app (t:=t) hjr au;have ndj:d≠rows[j].1:=λ z=>hdas (by rw [z,<- e1];exact Zc.mpr ⟨_,hjm,rfl⟩)
     have nej:e≠rows[j].1:=λ z=>hea (by rw [z,<- e1];exact Zc.mpr ⟨_,hjm,rfl⟩)
     refine hN _ _ ⟨rows.set j (rows[j].1,rows[j].2++[(t,sg,rest%(many:Int))]),?_,(nM hjr _).trans e1,λ row hr=> ?_,((sb.new hp).new ht).set (Zr _ (Zr _ (by rw [<- e1];exact Zc.mpr ⟨_,hjm,rfl⟩))),?_,?_,rfl⟩
     ·rw [Zq] at hR2;exact hR2
     ·rcases List.mem_or_eq_of_mem_set hr with m | rfl
      ·exact ⟨(hok row m).1.more (Nat.le_succ _),(hok row m).2⟩
      ·obtain ⟨⟨k1,k2,k3⟩,k4⟩:=hok _ hjm;refine ⟨⟨?_,by simp;rfl',λ z hz=> ?_⟩,λ z hz=> ?_⟩
       ·rw [Zq,Yq];refine ⟨k1,by simp,λ x m y my ee=>c2 ?_⟩;rw [Zz,List.map_nil,Ze] at my;have my':y=sg:=my;rw [<- my',<- ee];exact m
       ·rcases Zv.mp hz with m | m
        ·exact k3 z m
        ·rw [Ze.mp m];exact ⟨hsg,rs1,rs2⟩
       ·rcases Zv.mp hz with m | m
        ·exact k4 z m
        ·rw [Ze.mp m];exact hsc
     ·rw [aD ndj];exact aO ht (aO hp hd')
     ·rw [aD nej];exact aO ht (aO hp he')
    ·symm;exact hN _ _ ⟨rows,hR.same (aH hp _),e1,λ row hr=>⟨(hok row hr).1.more (Nat.le_succ _),(hok row hr).2⟩,sb.new hp,aO hp hd',aO hp he',rfl⟩
 rintro σ H2 ⟨rows,ends,hR,e1,hok,sb,hd',he',hnd,hel,her,o1,o2,o3,o4,o5,rfl⟩;have hrl:rows.length=many:=by rw [<- hal,<- e1,Qr]
 have S2:Same H H2:=sb.off hfr;symm;refine DY V.ref (zs:=as) (SqL.of hd') (by rfl') (λ k ys H'=> ∃ts:List (Addr×L1S),ys=ts.map (λ t=>V.ref t.1)/\ts.length=k/\Same H2 H'/\ ∀ (j:Nat) t,ts[j]? =some t->DrT K H' t.1 t.2/\ ∀row,rows[j]? =some row->t.2.Perm (row.2.map (·.2))/\(t.2.map (·.1)).Pairwise gY) ⟨[],rfl,rfl,Same.refl _,by simp⟩ ?_ ?_ ?_ ?_
 ·rintro k ys H' ⟨ts,rfl,_,s',_⟩;exact SqL.of (s'.get hd')
 ·rintro k ys H' ⟨ts,rfl,rfl,_⟩;simp
 ·rintro k b ys H' hb ⟨ts,rfl,hk,s',ht⟩;have hkl:k<rows.length:=by
   have:=(Zf.mp hb).1;rfl'
  have hkm:rows[k]∈rows:=Zl hkl;have eb:b=rows[k].1:=by
   rw [<- e1,Zg,Qb hkl] at hb
   cases hb;rfl
  subst eb;have hrow:=(hR.same s').2 _ hkm;obtain ⟨⟨k1,k2,k3⟩,k4⟩:=hok _ hkm;symm;refine HD (zs:=rows[k].2) (SqL.of hrow.1) (λ z m=>SqT.of (hrow.2 z m)) k1 (by rfl') λ r ws hp hs hr=> ?_
  symm;refine iz (SqL.of au) λ l hl=> ?_
  refine ⟨ts++[(l,ws.map (·.2))],by simp,by simp [hk],(s'.new hr).new hl,λ j t hj=> ?_⟩;rcases Wl j ts.length with q | q
  ·rw [Ye q] at hj;exact ⟨(ht j t hj).1.same ((aH hr _).new hl),(ht j t hj).2⟩
  ·rw [Yp q] at hj;have e0:j-ts.length=0:=by
    have:=(Zf.mp hj).1;simp at this;rfl'
   rw [e0] at hj
   cases hj;have ej:j=k:=by rfl'
   subst ej;refine ⟨⟨ws,rfl,au,λ z m=>aO hl (aO hr (hrow.2 z (hp.mem_iff.mp m)))⟩,λ row hrow'=> ?_⟩;rw [Qb hkl] at hrow'
   cases hrow';refine ⟨hp.map _,?_⟩;rw [Zk];exact hs
 rintro ys H3 ⟨ts,rfl,hk,s3,ht⟩ p hp;have s4:Same H2 (upd H3 p (.lst (ts.map λ t=>V.ref t.1))):=s3.new hp;have e4:upd H3 p (.lst (ts.map λ t=>V.ref t.1)) p=some (.lst (ts.map λ t=>V.ref t.1)):=au;replace ht: ∀ (j:Nat) t,ts[j]? =some t->DrT K (upd H3 p (.lst (ts.map λ t=>V.ref t.1))) t.1 t.2/\ ∀row,rows[j]? =some row->t.2.Perm (row.2.map (·.2))/\(t.2.map (·.1)).Pairwise gY:=λ j t h=>⟨(ht j t h).1.same (aH hp _),(ht j t h).2⟩
 generalize upd H3 p (.lst (ts.map λ t=>V.ref t.1))=H4 at s4 e4 ht;symm;refine iz (SqL.of e4) λ td htd=> ?_
 symm;refine Hx (ns:=ends) (SqL.of (aO htd (s4.get he'))) (by rfl') λ r ns hpn hsn hr=> ?_
 symm;refine iz (SqL.of au) λ te hte=> ?_
 symm;intro h hh;have htl:ts.length=rows.length:=by rfl'
 have hwf:Hs.Wf (ts.map (·.2)):=⟨by rw [Qr];rfl',λ ps hps q hq=>by
  obtain ⟨t,mt,rfl⟩:=Zc.mp hps;obtain ⟨j,hj,ej⟩:=Zu.mp mt;have h1:=(ht j t (by rw [Qb hj,ej])).2 rows[j] (Qb (by rfl'));obtain ⟨z,mz,rfl⟩:=Zc.mp (h1.1.mem_iff.mp hq);have:=(hok _ (Zl (by rfl':j<rows.length))).1.2.2 z mz;rw [Qr,htl,hrl];exact this.2⟩
 have hsgs: ∀ps∈ts.map (·.2),∀q∈ps,Hs.Sg q.1:=λ ps hps q hq=>by
  obtain ⟨t,mt,rfl⟩:=Zc.mp hps;obtain ⟨j,hj,ej⟩:=Zu.mp mt;have h1:=(ht j t (by rw [Qb hj,ej])).2 rows[j] (Qb (by rfl'));obtain ⟨z,mz,rfl⟩:=Zc.mp (h1.1.mem_iff.mp hq);exact ((hok _ (Zl (by rfl':j<rows.length))).1.2.2 z mz).1
 have hHs:HsT K (upd (upd (upd (upd H4 td (.tup (ts.map λ t=>V.ref t.1))) r (.lst (ns.map V.int))) te (.tup (ns.map V.int))) h (.tup [V.ref td,V.ref te])) h (ts.map (·.2)) ns:=by
  refine ⟨td,te,ts,au,rfl,by walk_at "hp",λ t m=> ?_,by walk_at "hp"⟩;obtain ⟨j,hj,ej⟩:=Zu.mp m;exact (ht j t (by rw [Qb hj,ej])).1.same (by walk_at "sm")
 have S5:Same H (upd (upd (upd (upd H4 td (.tup (ts.map λ t=>V.ref t.1))) r (.lst (ns.map V.int))) te (.tup (ns.map V.int))) h (.tup [V.ref td,V.ref te])):=S2.trans (s4.trans (by walk_at "sm"));have hgd:GoodH (ts.map (·.2)) ns:=by
  have at': ∀ps∈ts.map (·.2),∃row∈rows,ps.Perm (row.2.map (·.2))/\(ps.map (·.1)).Pairwise gY:=λ ps hps=>by
   obtain ⟨t,mt,rfl⟩:=Zc.mp hps;obtain ⟨j,hj,ej⟩:=Zu.mp mt;exact ⟨rows[j]'(by rfl'),Zl _,(ht j t (by rw [Qb hj,ej])).2 rows[j] (Qb (by rfl'))⟩
  refine ⟨by rw [Qr];rfl',by rw [Qr];rfl',λ ps hps=> ?_,λ ps hps=> ?_,λ ps hps p mp=>⟨hsgs ps hps p mp,hwf.2 ps hps p mp⟩,Hs.HF hsn (hpn.nodup_iff.mpr hnd),by rw [hpn.length_eq];rfl',λ e me=> ?_⟩
  ·obtain ⟨row,mr,_,h2⟩:=at' ps hps;exact h2
  ·obtain ⟨row,mr,h1,_⟩:=at' ps hps;have:=(hok row mr).1.2.1;rw [h1.length_eq,Qr];rfl'
  ·have:=her e (hpn.mem_iff.mp me);rw [Qr];rfl'
 exact q h _ _ ns S5 hHs (by rw [Qr];rfl') hgd hwf λ ps hps q hq=>by
  obtain ⟨t,mt,rfl⟩:=Zc.mp hps;obtain ⟨j,hj,ej⟩:=Zu.mp mt;have h1:=(ht j t (by rw [Qb hj,ej])).2 rows[j] (Qb (by rfl'));obtain ⟨z,mz,rfl⟩:=Zc.mp (h1.1.mem_iff.mp hq);exact (hok _ (Zl (by rfl':j<rows.length))).2 z mz
theorem Qs (h:qO K vs H Q E):vs.length=3:=by
 unfold qO at h;obtain ⟨_,_,_,_,rfl,_⟩:=h;rfl
def jB (K:W.Frag):Sp:=λ vs H Q _=> ∃ (a:Addr) (ds:L2S) (es:List Int) (o:Option Int) (s:Str),vs=[.ref a,ov o, .str s]/\HsT K H a ds es/\(∀r,o=some r->0<=r/\r<ds.length)/\Q (ov (Hs.stp ds o s)) H
def xP (K:W.Frag) (E:XK) (Eh:XK):TS:=
  (aN (cu (bh (aW ir (aj 1) (tC V.non))) (dG (mW K (aW (bu K) (aW (bu K) (aj 0) (tC (V.int 0))) (aj 1))) (aB 3) (cu (bh (aW pJ (aW (bu K) (aj 3) (tC (V.int 0))) (aj 2))) (bV (aW (bu K) (aj 3) (tC (V.int 1)))) bD)) bD)
  (bV (tC V.non)))
theorem Mv (h:jB K vs H Q E): ∃Eh,xP K E Eh { nx:=λ _ H'=>Q .non H',rt:=Q } (start ["house","room","sign","pair"] vs) H:=by
 unfold jB at h;obtain ⟨a,ds,es,o,s,rfl,hH,hr,q⟩:=h;refine ⟨E0,?_⟩;unfold xP;obtain ⟨d,e,h1,h2,rs,h3,hlr,h4⟩:=hH.at;symm
 cases o with
 | none=>
  refine iw rfl ?_;symm;exact q
 | some r=>
  obtain ⟨g0,g1⟩:=hr r rfl;obtain ⟨b,hb,hd⟩:=h4 g0 g1;refine gr (by intro h;cases h) ?_;symm;refine bj h1 (aJ (j:=0) (v:= .ref d) rfl) ?_;symm;refine bj h3 hb ?_;obtain ⟨zs,ez,hT,hz⟩:=hd.sq;have q':Q (ov (Hs.dr (zs.map (·.2)) s)) H:=by rw [ez];exact q
  refine p6 (λ z:Addr×Str×Int=>V.ref z.1) hT (λ i σ H'=>H=H'/\Hs.dr (zs.map (·.2)) s=Hs.dr ((zs.map (·.2)).drop i) s/\ ∃o1,σ=[some (.ref a),some (.int r),some (.str s),o1]) ⟨rfl,rfl,none,rfl⟩ ?_ ?_ ?_
  ·rintro i σ _ ⟨rfl,_⟩;exact hT
  ·rintro i ⟨b,l,r'⟩ σ _ hi ⟨rfl,e,o1,rfl⟩;have tz:=hz _ (Zj hi);dsimp only at tz;have hl:i<zs.length:=(Zf.mp hi).1;have hdrop:(zs.map (·.2)).drop i=(l,r')::(zs.map (·.2)).drop (i+1):=by
    rw [Wt (by simpa using hl),Xf,(Zf.mp hi).2]
   rw [hdrop,Hs.fJ] at e;symm;refine bj tz (aJ (j:=0) (v:= .str l) rfl) ?_;symm;refine fG (λ c=> ?_) λ c=> ?_
   ·symm;refine bj tz (aJ (j:=1) (v:= .int r') rfl) ?_;rw [e,if_pos c] at q';exact q'
   ·symm;exact ⟨rfl,by rw [e,if_neg c],_,rfl⟩
  ·rintro σ _ ⟨rfl,e,o1,rfl⟩;symm;rw [e,<- Qr (f:=(·.2)),List.drop_length] at q';exact q'
theorem Mw (h:jB K vs H Q E):vs.length=3:=by
 unfold jB at h;obtain ⟨_,_,_,_,_,rfl,_⟩:=h;rfl
def lR (K:W.Frag):Sp:=λ vs H Q _=> ∃ (a p:Addr) (ds:L2S) (es cs:List Int) (ss:List Nat),vs=[.ref a, .str (tx ss), .ref p]/\HsT K H a ds es/\Hs.Wf ds/\(∀ps∈ds,∀p∈ps,∃c∈ss,p.1=tx [c])/\1<=ss.length/\ss.length<=60/\(∀c∈ss,Hs.Sg (tx [c]))/\SqL K H p (cs.map V.int)/\cs.length<=63/\ ∀H' (ts:List Nat),Same H H'->ts.length<=63->(∀c∈ts,c∈ss)->Q (.str (tx ts)) H'
def xQ (K:W.Frag) (E:XK) (Eh:XK):TS:=
  (aN (b7 (tC (V.str (Str.ofString ""))) (aB 3))
  (aN (b7 (tC (V.int 0)) (aB 4))
  (aN (dG (dF K (aj 2)) (aB 5) (aN (b7 (ie aF) (aB 6))
  (aN (cu (bh (aW ir (aj 4) (tC V.non))) (b7 (aW (bu K) (aW (bu K) (aj 0) (tC (V.int 0))) (aj 4)) (aB 6)) bD)
  (aN (b7 (aW pK (aj 1) (aW bZ (aW cJ (aj 5) (tC (V.int 30))) (d7 (cB K) (ak (aj 1) aF)))) (aB 7))
  (aN (cu (jk (bh (aW Cq (aW bZ (aj 5) (tC (V.int 30))) (tC (V.int 0)))) (bh (aW (rNeD K) (aj 6) (ie aF)))) (b7 (aW (bu K) (aW (bu K) (aj 6) (aW bZ (aW cJ (aj 5) (tC (V.int 30))) (d7 (cB K) (ak (aj 6) aF)))) (tC (V.int 0))) (aB 7)) bD)
  (aN (b7 (aW eF (aj 3) (aj 7)) (aB 3))
  (b7 (aX (jB K) [] E0 (ak (aj 0) (ak (aj 4) (ak (aj 7) aF)))) (aB 4))))))))
  (bV (aj 3)))))
theorem Mx (h : lR K vs H Q E) : ∃ Eh, xQ K E Eh { nx := λ _ H' => Q .non H', rt := Q } (start ["house", "signs", "cells", "text", "room", "cell", "pairs", "sign"] vs) H := by
 unfold lR at h;obtain ⟨a,p,ds,es,cs,ss,rfl,hH,wf,hsg,hs1,hs2,hsg0,hS,h63,q⟩:=h;refine ⟨E0,?_⟩;unfold xQ;symm;refine jQ V.int (zs:=cs) hS (λ i σ H'=>Same H H'/\ ∃ts:List Nat,ts.length=i/\(∀c∈ts,c∈ss)/\ ∃o1 o2 o3,σ=[some (.ref a),some (.str (tx ss)),some (.ref p),some (.str (tx ts)),some (ov (Hs.go ds ts)),o1,o2,o3]) ⟨Same.refl _,[],rfl,by simp,none,none,none,rfl⟩ ?_ ?_ ?_
 ·rintro i σ H' ⟨s',_⟩;exact s'.seq hS
 ·rintro i c σ H' hc ⟨s',ts,hts,htc,o1,o2,o3,rfl⟩;have hic:i<cs.length:=(Zf.mp hc).1;have hH':HsT K H' a ds es:=hH.same s';obtain ⟨d,e,h1,h2,rs,h3,hlr,h4⟩:=hH'.at;symm;intro p0 hp0;walk_at "gj";have s1:Same H' (upd H' p0 (.tup [])):=aH hp0 _;have e0:upd H' p0 (.tup []) p0=some (.tup []):=au;generalize upd H' p0 (.tup [])=H1 at s1 e0;with_reducible refine iy (λ σ' H2=>H1=H2/\ ∃ (pa:Addr) (ps:L1S),DrT K H1 pa ps/\(∀p∈ps,∃c∈ss,p.1=tx [c])/\σ'=[some (.ref a),some (.str (tx ss)),some (.ref p),some (.str (tx ts)),some (ov (Hs.go ds ts)),some (.int c),some (.ref pa),o3]) ?_ ?_
  ·rintro σ' _ ⟨rfl,pa,ps,hdr,hps,rfl⟩;symm;refine gD (show (tx ss).length<=1000000 by rw [bw];rfl') ?_;rw [bw];symm;obtain ⟨k,ek,hk⟩:=Mm.dR (c / 30) ss.length (by rfl');rw [ek];refine qH (c:=ss[k]) (show (tx ss).length<=1000000 by rw [bw];rfl') (aJ (by show ss[k]? =_;rw [Qb hk])) ?_;show aB 7 (V.str (tx [ss[k]])) _ _ _;walk_at "gj";with_reducible refine iy (λ σ' H2=>Same H1 H2/\ ∃n:Nat,n∈ss/\σ'=[some (.ref a),some (.str (tx ss)),some (.ref p),some (.str (tx ts)),some (ov (Hs.go ds ts)),some (.int c),some (.ref pa),some (.str (tx [n]))]) ?_ ?_
   ·rintro σ' H2 ⟨s2,n,hn,rfl⟩;symm;refine lz (by rw [bw,bw];simp;rfl') ?_;rw [jw];symm;refine ⟨a,ds,es,Hs.go ds ts,tx [n],rfl,hH'.same (s1.trans s2),λ r er=>Hs.mJ wf er,?_⟩;rw [<- Hs.cD];symm;refine ⟨(s'.trans s1).trans s2,ts++[n],by simp [hts],λ x mx=> ?_,_,_,_,rfl⟩;rcases Zv.mp mx with mx | mx
    ·exact htc x mx
    ·rw [Ze.mp mx];exact hn
   ·intro N hN;symm;refine fG (λ c1=> ?_) λ c1=> ?_
    ·symm;intro p1 hp1;refine ⟨_,_,(hdr.same (aH hp1 (HO.tup []))).dp, .tup (SqT.of au) .nil,?_,?_,?_⟩
     ·exact Sh.shaped (n:=2) (wQ λ d hd=>by
       obtain ⟨x,mx,rfl⟩:=Zc.mp hd;refine wQ λ y hy=> ?_
       simp only [Zp,Yi,Ws] at hy;rcases hy with rfl | rfl
       ·obtain ⟨c,mc,ec⟩:=hps x mx;obtain ⟨n,en⟩:=hsg0 c mc;rw [ec,en];exact Ky 0 λ c hc=>by rw [Ze.mp hc];exact Hs.KJ n
       ·exact Ef 0 _) (by decide)
     ·exact Sh.shaped (n:=1) (wQ (ds:=[]) (λ d hd=>nomatch hd)) (by decide)
     ·cases ps with
      | nil=>
       rw [show PyData.eqv (.tuple (List.map (λ s:Str×Int=>PyData.tuple [.str s.1, .int s.2]) [])) (.tuple [])=true from by simp [PyData.eqv,PyData.eqvAll]];symm;exact hN _ _ ⟨aH hp1 _,_,Zl hk,rfl⟩
      | cons x xs=>
       rw [show PyData.eqv (.tuple (List.map (λ s:Str×Int=>PyData.tuple [.str s.1, .int s.2]) (x::xs))) (.tuple [])=false from by simp [PyData.eqv,PyData.eqvAll]];symm;obtain ⟨zs,ez,hT,hz⟩:=(hdr.same (aH hp1 (HO.tup []))).sq;have hlz:zs.length=xs.length+1:=by rw [<- Qr (f:=(·.2)),ez];rfl
       refine gA hT ?_;rw [Qr];symm;obtain ⟨j,ej,hj⟩:=Mm.dR (c / 30) zs.length (by rfl');have hjm:zs[j]∈zs:=Zl hj;obtain ⟨n,mn,en⟩:=hps zs[j].2 (by rw [<- ez];exact Zc.mpr ⟨_,hjm,rfl⟩);rw [ej];refine bj hT (aJ (v:= .ref zs[j].1) (by rw [Zg,Qb hj];rfl)) ?_;symm;refine bj (hz _ hjm) (aJ (j:=0) (v:= .str zs[j].2.1) rfl) ?_;rw [en];symm;exact hN _ _ ⟨aH hp1 _,_,mn,rfl⟩
    ·symm;exact hN _ _ ⟨Same.refl _,_,Zl hk,rfl⟩
  ·intro N hN;symm
   cases er:Hs.go ds ts with
   | none=>
    refine iw rfl ?_;symm;exact hN _ _ ⟨rfl,p0,[],⟨[],rfl,e0,by simp⟩,by simp,by rw [er];rfl⟩
   | some r=>
    obtain ⟨g0,g1⟩:=Hs.mJ wf er;obtain ⟨b2,hb2,hd2⟩:=h4 g0 g1;refine gr (by intro h;cases h) ?_;symm;refine bj (s1.tup h1) (aJ (j:=0) (v:= .ref d) rfl) ?_;symm;refine bj (s1.tup h3) hb2 ?_;symm;refine hN _ _ ⟨rfl,b2,_,hd2.same s1,λ x mx=> ?_,by rw [er];rfl⟩;rw [Hs.getD_at g0 g1] at mx;exact hsg _ (Zl _) x mx
 ·rintro σ H' ⟨s',ts,hts,htc,o1,o2,o3,rfl⟩;symm;exact q _ ts s' (by rfl') htc
theorem My (h:lR K vs H Q E):vs.length=3:=by
 unfold lR at h;obtain ⟨_,_,_,_,_,_,rfl,_⟩:=h;rfl
theorem jC {ps:L1S} {s:Str} {r:Int} (nd:(ps.map (·.1)).Nodup):Hs.dr ps s=some r↔(s,r)∈ps:=by
 refine ⟨Hs.gF,λ m=> ?_⟩
 cases e:Hs.dr ps s with
 | none=>exact absurd (Zc.mpr ⟨_,m,rfl⟩) (sW.mp e)
 | some r'=>
  have m2:=Hs.gF e;obtain ⟨i,hi,ei⟩:=Zu.mp m;obtain ⟨j,hj,ej⟩:=Zu.mp m2;have:i=j:=(List.getElem_inj (h₀:=by rw [Qr];exact hi) (h₁:=by rw [Qr];exact hj) nd).mp (by rw [Xf,Xf,ei,ej]);subst this;rw [ei] at ej;injection ej with _ e2
  rw [e2]
theorem zy {ps qs:L1S} (h:ps.Perm qs) (nd:(ps.map (·.1)).Nodup) (s:Str):Hs.dr ps s=Hs.dr qs s:=by
 have nd2:(qs.map (·.1)).Nodup:=(h.map _).nodup_iff.mp nd;apply Option.ext;intro r;rw [jC nd,jC nd2,h.mem_iff]
theorem Az (ps qs:L1S) (s:Str):Hs.dr (ps++qs) s=(Hs.dr ps s).or (Hs.dr qs s):=by
 unfold Hs.dr;rw [List.find?_append]
 cases ps.find? λ p=>decide (p.1=s)<;>rfl
theorem lU {ds ds':L2S} {es:List Int} {f:Nat} (pd:Jt ds es (tx [f]) ds') (hno: ∀ps∈ds,Hs.dr ps (tx [f])=none) {r:Int} (h0:0<=r) (h1:r<(ds.length+1:Nat)) (c:Nat):
  Hs.dr (ds'.getD r.toNat []) (tx [c])=if c=f then (if r∈es++[(ds.length:Int)] then some (ds.length:Int) else none) else Hs.dr (ds.getD r.toNat []) (tx [c]):=by
 obtain ⟨j,rfl⟩: ∃j:Nat,r=(j:Int):=⟨r.toNat,by rfl'⟩;rw [Zi];have hj:j<ds'.length:=by rw [pd.1];rfl'
 obtain ⟨p1,p2⟩:=pd.2 j ds'[j] (Qb hj);have eb:(ds++[[]]).getD j []=ds.getD j []:=by
  rw [Zb,Zb];rcases Wl j ds.length with w | w
  ·rw [Ye w]
  ·rw [Yp w,Yb w,show j-ds.length=0 by rfl'];rfl
 have hn:Hs.dr (ds.getD j []) (tx [f])=none:=by
  rw [Zb];rcases Wl j ds.length with w | w
  ·rw [Qb w];exact hno _ (Zl w)
  ·rw [Yb w];rfl
 rw [getD_at (Qb hj),zy p1 (fU p2),eb,Az];by_cases hc:c=f
 ·subst hc;rw [hn,if_pos rfl];by_cases hm:(j:Int)∈es++[(ds.length:Int)]
  ·rw [if_pos hm,if_pos hm];show Hs.dr [(tx [c],(ds.length:Int))] (tx [c])=_;rw [Hs.fJ,if_pos rfl]
  ·rw [if_neg hm,if_neg hm];rfl
 ·rw [if_neg hc];have:Hs.dr (if (j:Int)∈es++[(ds.length:Int)] then [(tx [f],(ds.length:Int))] else []) (tx [c])=none:=by
   split
   ·rw [Hs.fJ,if_neg (λ e=>hc (by have:=lA.mp e;simpa using this.symm))];rfl
   ·rfl
  rw [this,Option.or_none]
theorem cR (ds:L2S) (r:Int) (s:Str):Hs.stp ds (some r) s=Hs.dr (ds.getD r.toNat []) s:=rfl
theorem tH {ds ds':L2S} {es:List Int} {f:Nat} (wf:Hs.Wf ds) (pd:Jt ds es (tx [f]) ds') (hno: ∀ps∈ds,Hs.dr ps (tx [f])=none): ∀ (n:Nat) (u:List Nat),u.length=n->(∀r,Hs.go ds u=some r->Hs.go ds' u=some r)/\ ∀r,Hs.go ds' u=some r->Hs.go ds u=some r\/(r=(ds.length:Int)/\u.getLast?=some f)
 | 0,u,hu=>by
  obtain rfl:u=[]:=We hu;exact ⟨λ r h=>h,λ r h=> .inl h⟩
 | n + 1, u, hu => by
  obtain ⟨v,c,rfl⟩: ∃v c,u=v++[c]:=by
   rcases List.eq_nil_or_concat u with rfl | ⟨v,c,e⟩
   ·cases hu
   ·exact ⟨v,c,by rw [e];simp⟩
  obtain ⟨i1,i2⟩:=tH wf pd hno n v (by simpa using hu);have lt0: ∀r,Hs.go ds v=some r->0<=r/\r<(ds.length+1:Nat)/\r<ds.length:=λ r h=>by
   have:=Hs.mJ wf h;rfl'
  refine ⟨λ r h=> ?_,λ r h=> ?_⟩
  ·rw [Hs.cD] at h ⊢
   cases e:Hs.go ds v with
   | none=>rw [e] at h;cases h
   | some r0=>
    rw [e,cR] at h;obtain ⟨l1,l2,l3⟩:=lt0 r0 e;rw [i1 r0 e,cR,lU pd hno l1 l2];by_cases hc:c=f
    ·subst hc;rw [Hs.getD_at l1 l3] at h;rw [hno _ (Zl _)] at h
     cases h
    ·rw [if_neg hc];exact h
  ·rw [Hs.cD] at h
   cases e:Hs.go ds' v with
   | none=>rw [e] at h;cases h
   | some r0=>
    rw [e,cR] at h;rcases i2 r0 e with h2 | ⟨h2,h3⟩
    ·obtain ⟨l1,l2,l3⟩:=lt0 r0 h2;rw [lU pd hno l1 l2] at h;by_cases hc:c=f
     ·rw [if_pos hc] at h;split at h
      ·cases h;exact .inr ⟨rfl,by simp [hc]⟩
      ·cases h
     ·rw [if_neg hc] at h;refine .inl ?_;rw [Hs.cD,h2,cR];exact h
    ·subst h2;rw [lU pd hno (by rfl') (by rfl')] at h;by_cases hc:c=f
     ·rw [if_pos hc,if_pos (by simp)] at h
      cases h;exact .inr ⟨rfl,by simp [hc]⟩
     ·rw [if_neg hc,Zi,Zb,Yb (Zn _)] at h
      cases h
theorem zz {ds ds':L2S} {es:List Int} {f:Nat} (pd:Jt ds es (tx [f]) ds') (hno: ∀ps∈ds,Hs.dr ps (tx [f])=none) {w:List Nat} {r:Int} (hr:Hs.go ds' w=some r) (h0:0<=r) (h1:r<(ds.length+1:Nat)) (hm:r∈es++[(ds.length:Int)]): ∀k:Nat,Hs.go ds' (w++List.replicate (k+1) f)=some (ds.length:Int)
 | 0=>by
  show Hs.go ds' (w++[f])=_;rw [Hs.cD,hr,cR,lU pd hno h0 h1,if_pos rfl,if_pos hm]
 | k+1=>by
  rw [List.replicate_succ',<- Wx,Hs.cD,zz pd hno hr h0 h1 hm k,cR,lU pd hno (by rfl') (by rfl'),if_pos rfl,if_pos (by simp)]
theorem FN {ds ds':L2S} {es:List Int} {f:Nat} (wf:Hs.Wf ds) (her: ∀e∈es,0<=e/\e<ds.length) (pd:Jt ds es (tx [f]) ds') (hno: ∀ps∈ds,Hs.dr ps (tx [f])=none) {w:List Nat} (hw: ∀x,w.getLast?=some x->x≠f) (k:Nat):
  inV (ov (Hs.go ds' (w++List.replicate k f))) ((es++[(ds.length:Int)]).map V.int)=inV (ov (Hs.go ds w)) (es.map V.int):=by
 obtain ⟨g1,g2⟩:=tH wf pd hno _ w rfl;have ni: ∀l:List Int,inV (ov none) (l.map V.int)=false:=λ l=>by
  induction l with
  | nil=>rfl
  | cons a l ih=>exact ih
 have hin: ∀ (r:Int) (l:List Int),inV (ov (some r)) (l.map V.int)=decide (r∈l):=λ r l=>fH r l
 cases e:Hs.go ds w with
 | none=>
  have e':Hs.go ds' w=none:=by
   cases h:Hs.go ds' w with
   | none=>rfl
   | some r=>
    rcases g2 r h with h2 | ⟨_,h3⟩
    ·rw [e] at h2;cases h2
    ·exact absurd rfl (hw f h3)
  rw [Hs.nJ (ys:=List.replicate k f) e',ni,ni]
 | some r=>
  have hr:=g1 r e;have hlt:=Hs.mJ wf e;have hne:r≠(ds.length:Int):=by rfl'
  have hiff:decide (r∈es++[(ds.length:Int)])=decide (r∈es):=decide_eq_decide.mpr (by simp [hne]);rw [hin r es]
  cases k with
  | zero=>rw [List.replicate_zero,Xd,hr,hin,hiff]
  | succ k=>
   by_cases hm:r∈es
   ·rw [zz pd hno hr hlt.1 (by rfl') (Xo _ hm),hin,Yh hm];exact Yh (by simp)
   ·have e1:Hs.go ds' (w++[f])=none:=by
     rw [Hs.cD,hr,cR,lU pd hno hlt.1 (by rfl'),if_pos rfl,if_neg (by simp [hne,hm])]
    have e2:w++List.replicate (k+1) f=(w++[f])++List.replicate k f:=by rw [List.replicate_succ];simp
    rw [e2,Hs.nJ e1,ni,Yo hm]
structure SumH (cs:List Nat) (m:Nat) (ws:List Int) (ds:L2S) (es:List Int):Prop where
 len:ds.length=m*ws.length
 row: ∀ (j:Nat) ps,ds[j]? =some ps->ps.Perm (zr cs m ws j)/\(ps.map (·.1)).Pairwise gY
 en:es=(List.range ws.length).map (λ t:Nat=>((t*m:Nat):Int))
theorem SumH.wf {cs:List Nat} {m:Nat} {ws:List Int} {ds:L2S} {es:List Int} (h:SumH cs m ws ds es) (hm:1<=m) (hw:ws≠[]):Hs.Wf ds:=⟨by rw [h.len];exact Nat.mul_pos hm (List.length_pos_iff.mpr hw),λ ps mp p mpp=>by
 obtain ⟨j,hj,ej⟩:=Zu.mp mp;have h1:=(h.row j ps (by rw [Qb hj,ej])).1.mem_iff.mp mpp;have h2:=(iW hm hw h1).2;rw [h.len];exact h2⟩
theorem SumH.dr {cs:List Nat} {m:Nat} {ws:List Int} {ds:L2S} {es:List Int} (h:SumH cs m ws ds es) {j:Nat} (hj:j<m*ws.length) (c:Nat):(c∉cs->Hs.dr (ds.getD j []) (tx [c])=none)/\ ∀i:Nat,cs[i]? =some c->Hs.dr (ds.getD j []) (tx [c])=some ((((j / m+1)%ws.length*m:Nat):Int)+(((j%m:Nat):Int)+((i+1:Nat):Int)*ws.getD (j / m) 0)%(m:Int)):=by
 have hjd:j<ds.length:=by rw [h.len];exact hj
 obtain ⟨p1,p2⟩:=h.row j ds[j] (Qb hjd);have nd:=fU p2;have nd2:((zr cs m ws j).map (·.1)).Nodup:=(p1.map _).nodup_iff.mp nd;rw [getD_at (Qb hjd),zy p1 nd];refine ⟨λ hc=> ?_,λ i hi=> ?_⟩
 ·rw [sW];unfold zr;rw [xF];intro hm;obtain ⟨c',mc,ec⟩:=Zc.mp hm;have:=lA.mp ec;injection this with e1
  exact hc (e1▸mc)
 ·rw [jC nd2];have hil:i<cs.length:=(Zf.mp hi).1;refine Zc.mpr ⟨i,Xn.mpr hil,?_⟩;rw [Zb,hi];rfl
theorem SumH.sg {cs:List Nat} {m:Nat} {ws:List Int} {ds:L2S} {es:List Int} (h:SumH cs m ws ds es) (hm:1<=m) (hw:ws≠[]) (hsg: ∀c∈cs,Hs.Sg (tx [c])) {ps:L1S} (mp:ps∈ds):(∀z∈ps,Hs.Sg z.1)/\ps.length=cs.length:=by
 obtain ⟨j,hj,ej⟩:=Zu.mp mp;have p1:=(h.row j ps (by rw [Qb hj,ej])).1;refine ⟨λ z mz=> ?_,by rw [p1.length_eq];unfold zr;rw [nO]⟩;obtain ⟨⟨c,mc,ec⟩,_⟩:=iW hm hw (p1.mem_iff.mp mz);rw [ec];exact hsg c mc
theorem jD {α:Type} {p q:α->Bool}: ∀ {l:List α},(∀x∈l,p x=q x)->l.find? p=l.find? q
 | [],_=>rfl
 | x::l,h=>by
  rw [Wo,Wo,h x Zy,jD λ y m=>h y (Zr _ m)]
theorem Dep.fin2 {ds:L2S} {es:List Int} {a:List (Option Int)} {n:Nat} (h:Dep ds es a (n:Int)) (hn:ds.length<=n+1) {r:Nat} (hr:r<ds.length) (e:a.getD r none=none) (d:Int): ¬qJ ds a r d:=λ hh=>by
 by_cases c:d<n
 ·exact h.no r hr e d c hh
 ·obtain ⟨p,_,ep⟩:=hh;have hu:=h.up _ _ ep;have ed:d=(n:Int):=by rfl'
  rw [ed] at ep;have hm:=h.down (by rfl') n _ ep;have hnone:(none:Option Int)∈a:=by
   rw [Zb,Qb (by rw [h.len];exact hr)] at e;have e':a[r]'(by rw [h.len];exact hr)=none:=e;rw [<- e'];exact Zl _
  have:=gU (l:=none::(List.range (n+1)).map λ j:Nat=>some (j:Int)) (m:=a) (Xv.mpr ⟨by simp,Xl.mpr (List.pairwise_lt_range.imp λ {a b} h e=>by have:=Zx e;rfl')⟩) λ x mx=>by
   rcases Zp.mp mx with rfl | mx
   ·exact hnone
   ·obtain ⟨j,hj,rfl⟩:=Zc.mp mx;exact hm j (by have:=Xn.mp hj;rfl')
  rw [Xx,Qr,Yv,h.len] at this;rfl'
structure CDep (ds:L2S) (es:List Int) (a:List (Option Int)):Prop where
 z: ∀r:Nat,r<ds.length->(a.getD r none=some 0↔(r:Int)∈es)
 up: ∀ (r:Nat) d,a.getD r none=some d->0<=d
 st: ∀ (r:Nat) d,a.getD r none=some d->1<=d->qJ ds a r (d-1)/\ ∀d'<d-1,¬qJ ds a r d'
 no: ∀r:Nat,r<ds.length->a.getD r none=none-> ∀d,¬qJ ds a r d
theorem Dep.c {ds:L2S} {es:List Int} {a:List (Option Int)} {n:Nat} (h:Dep ds es a (n:Int)) (hn:ds.length<=n+1):CDep ds es a:=⟨h.z,λ r d e=>(h.up r d e).1,h.st,λ _ hr e d=>h.fin2 hn hr e d⟩
theorem CDep.F {ds:L2S} (es:List Int) (h:0<ds.length):CDep ds es (gW ds es):=(Jr es h).c (by rfl')
theorem CDep.le {ds:L2S} {es:List Int} {a:List (Option Int)} (c:CDep ds es a) {r:Nat} (hr:r<ds.length) {d:Int} (h:qJ ds a r d): ∃d',a.getD r none=some d'/\d'<=d+1:=by
 cases e:a.getD r none with
 | none=>exact absurd h (c.no r hr e d)
 | some d'=>
  refine ⟨d',rfl,?_⟩;obtain ⟨p,_,ep⟩:=id h;have h0:=c.up _ _ ep;by_cases w:1<=d'
  ·have:=(c.st r d' e w).2 d;by_cases z:d<d'-1
   ·exact absurd h (this z)
   ·rfl'
  ·rfl'
structure Bis (d1:L2S) (e1:List Int) (d2:L2S) (e2:List Int) (n:Nat) (φ:Nat->Nat):Prop where
 l1: ∀i<n,i<d1.length
 l2: ∀i<n,φ i<d2.length
 en: ∀i<n,((i:Int)∈e1↔((φ i:Nat):Int)∈e2)
 rw: ∀i<n,(i:Int)∉e1->d2.getD (φ i) []=(d1.getD i []).map λ q=>(q.1,((φ q.2.toNat:Nat):Int))
 rn: ∀i<n,(i:Int)∉e1-> ∀q∈d1.getD i [],q.2.toNat<n/\0<=q.2
theorem Bis.has {d1 d2:L2S} {e1 e2:List Int} {n:Nat} {φ:Nat->Nat} (b:Bis d1 e1 d2 e2 n φ) {a1 a2:List (Option Int)} {i:Nat} (hi:i<n) (ne:(i:Int)∉e1) {d:Int} (h: ∀j<n,a1.getD j none=some d↔a2.getD (φ j) none=some d):qJ d1 a1 i d↔qJ d2 a2 (φ i) d:=by
 unfold qJ;rw [b.rw i hi ne];constructor
 ·rintro ⟨p,mp,ep⟩;refine ⟨_,Zc.mpr ⟨p,mp,rfl⟩,?_⟩;show a2.getD ((φ p.2.toNat:Nat):Int).toNat none=_;rw [Zi];exact (h _ (b.rn i hi ne p mp).1).mp ep
 ·rintro ⟨p',mp',ep⟩;obtain ⟨p,mp,rfl⟩:=Zc.mp mp';refine ⟨p,mp,(h _ (b.rn i hi ne p mp).1).mpr ?_⟩;have ep:a2.getD ((φ p.2.toNat:Nat):Int).toNat none=_:=ep;rw [Zi] at ep;exact ep
theorem Bis.eqN {d1 d2:L2S} {e1 e2:List Int} {n:Nat} {φ:Nat->Nat} (b:Bis d1 e1 d2 e2 n φ) {a1 a2:List (Option Int)} (c1:CDep d1 e1 a1) (c2:CDep d2 e2 a2): ∀d:Nat,∀i<n,a1.getD i none=some (d:Int)↔a2.getD (φ i) none=some (d:Int):=by
 intro d;induction d using Nat.strongRecOn with
 | ind d ih=>
  intro i hi;by_cases z:d=0
  ·subst z;exact (c1.z i (b.l1 i hi)).trans ((b.en i hi).trans (c2.z (φ i) (b.l2 i hi)).symm)
  have lt: ∀ {d':Int},0<=d'->d'<d-> ∀j<n,a1.getD j none=some d'↔a2.getD (φ j) none=some d':=λ {d'} h0 h1 j hj=>by
   have:=ih d'.toNat (by rfl') j hj;rw [Yx h0] at this;exact this
  constructor
  ·intro e;have ne:(i:Int)∉e1:=λ m=>by
    have:=(c1.z i (b.l1 i hi)).mpr m;rw [e] at this;have:=Zx this;rfl'
   obtain ⟨h1,h2⟩:=c1.st i _ e (by rfl');have g1:=(b.has hi ne (lt (d':=(d:Int)-1) (by rfl') (by rfl'))).mp h1;obtain ⟨d',e',hd'⟩:=c2.le (b.l2 i hi) g1;by_cases w:d'=d
   ·rw [e',w]
   ·have:=(lt (c2.up _ _ e') (by rfl') i hi).mpr e';rw [e] at this;have:=Zx this;rfl'
  ·intro e;have ne:(i:Int)∉e1:=λ m=>by
    have:=(c2.z (φ i) (b.l2 i hi)).mpr ((b.en i hi).mp m);rw [e] at this;have:=Zx this;rfl'
   obtain ⟨h1,h2⟩:=c2.st _ _ e (by rfl');have g1:=(b.has hi ne (lt (d':=(d:Int)-1) (by rfl') (by rfl'))).mpr h1;obtain ⟨d',e',hd'⟩:=c1.le (b.l1 i hi) g1;by_cases w:d'=d
   ·rw [e',w]
   ·have:=(lt (c1.up _ _ e') (by rfl') i hi).mp e';rw [e] at this;have:=Zx this;rfl'
theorem Bis.eq {d1 d2:L2S} {e1 e2:List Int} {n:Nat} {φ:Nat->Nat} (b:Bis d1 e1 d2 e2 n φ) {a1 a2:List (Option Int)} (c1:CDep d1 e1 a1) (c2:CDep d2 e2 a2) {i:Nat} (hi:i<n):a1.getD i none=a2.getD (φ i) none:=by
 have k: ∀d:Int,0<=d->(a1.getD i none=some d↔a2.getD (φ i) none=some d):=λ d h0=>by
  have:=b.eqN c1 c2 d.toNat i hi;rw [Yx h0] at this;exact this
 cases e1:a1.getD i none with
 | some d=>exact ((k d (c1.up _ _ e1)).mp e1).symm
 | none=>
  cases e2:a2.getD (φ i) none with
  | none=>rfl
  | some d=>
   have:=(k d (c2.up _ _ e2)).mpr e2;rw [e1] at this
   cases this
theorem Bis.tail {d1 d2:L2S} {e1 e2:List Int} {n:Nat} {φ:Nat->Nat} (b:Bis d1 e1 d2 e2 n φ) {a1 a2:List (Option Int)} (c1:CDep d1 e1 a1) (c2:CDep d2 e2 a2) {r d:Int} {us:List Nat} (h:TailR d1 a1 r d us):0<=r->r.toNat<n->TailR d2 a2 ((φ r.toNat:Nat):Int) d us:=by
 induction h with
 | @nil r e=>
  intro _ hr;refine .nil ?_;rw [Zi,<- b.eq c1 c2 hr];exact e
 | @cons r d r' c us e hd hf ht ih=>
  intro _ hr;have ne:((r.toNat:Nat):Int)∉e1:=λ m=>by
   have:=(c1.z _ (b.l1 _ hr)).mpr m;rw [e] at this;have:=Zx this;rfl'
  have mr:=List.mem_of_find?_eq_some hf;obtain ⟨hr',w⟩:=b.rn _ hr ne _ mr;have er':=List.find?_some hf;have e':a1.getD r'.toNat none=some d:=by simpa using er'
  refine .cons (r':=((φ r'.toNat:Nat):Int)) (by rw [Zi,<- b.eq c1 c2 hr];exact e) hd ?_ (ih w hr');rw [Zi,b.rw _ hr ne,List.find?_map];rw [show (d1.getD r.toNat []).find? ((λ p:Str×Int=>decide (a2.getD p.2.toNat none=some d))∘λ q=>(q.1,((φ q.2.toNat:Nat):Int)))=some (tx [c],r') from ?_]
  ·rfl
  ·rw [<- hf];refine jD λ q mq=> ?_
   show decide (a2.getD ((φ q.2.toNat:Nat):Int).toNat none=some d)=_;rw [Zi,<- b.eq c1 c2 (b.rn _ hr ne q mq).1]
theorem TailR.det {ds:L2S} {a:List (Option Int)} {r d:Int} {us:List Nat} (h:TailR ds a r d us): ∀ {us':List Nat},TailR ds a r d us'->us=us':=by
 induction h with
 | @nil r e=>intro us' h';cases us' with
  | nil=>rfl
  | cons c us'=>have:=h'.len;rw [Xx] at this;rfl'
 | @cons r d r' c us e hd hf ht ih=>
  intro us' h';generalize hg:d+1=d1 at h'
  cases h' with
  | nil _=>rfl'
  | @cons _ d2 r2 c2 us2 e2 hd2 hf2 ht2=>
   obtain rfl:d=d2:=by rfl'
   rw [hf] at hf2;have e3:=Zx hf2;have e4:=Yn Prod.fst e3;have e5:r'=r2:=Yn Prod.snd e3;subst e5;have e6:c=c2:=by injection (L2.lA.mp (show tx [c]=tx [c2] from e4))
   rw [e6,ih ht2]
def wS (cs:List Nat) (s:Str):Nat:=(cs.map λ c=>tx [c]).idxOf s
def fX (cs:List Nat) (m:Nat) (ws:List Int) (j:Nat) (s:Str):Nat:=(j / m+1)%ws.length*m+((((j%m:Nat):Int)+((wS cs s+1:Nat):Int)*ws.getD (j / m) 0)%(m:Int)).toNat
def jT (cs:List Nat) (m:Nat) (ws:List Int) (ts:List Nat):Nat:=ts.foldl (λ j c=>fX cs m ws j (tx [c])) 0
theorem zA (cs:List Nat) (m:Nat) (ws:List Int) (ts:List Nat) (c:Nat):jT cs m ws (ts++[c])=fX cs m ws (jT cs m ws ts) (tx [c]):=by unfold jT;rw [List.foldl_append];rfl
theorem tK {cs:List Nat} {m:Nat} {ws:List Int} {j:Nat} {s:Str} (hm:1<=m):fX cs m ws j s / m=(j / m+1)%ws.length/\((fX cs m ws j s%m:Nat):Int)=(((j%m:Nat):Int)+((wS cs s+1:Nat):Int)*ws.getD (j / m) 0)%(m:Int):=by
 have h0:=Wp (((j%m:Nat):Int)+((wS cs s+1:Nat):Int)*ws.getD (j / m) 0) (show (m:Int)≠0 by rfl');have h1:=Wh (((j%m:Nat):Int)+((wS cs s+1:Nat):Int)*ws.getD (j / m) 0) (show (0:Int)<m by rfl');unfold fX;generalize (((j%m:Nat):Int)+((wS cs s+1:Nat):Int)*ws.getD (j / m) 0)%(m:Int)=z at h0 h1 ⊢;have hz:z.toNat<m:=by rfl'
 rw [Xz,Nat.mul_add_div hm,Nat.div_eq_of_lt hz,Nat.mul_add_mod,Nat.mod_eq_of_lt hz];exact ⟨rfl,by rfl'⟩
theorem tL {cs:List Nat} {m:Nat} {ws:List Int} {j:Nat} {s:Str} (hm:1<=m) (hw:1<=ws.length):fX cs m ws j s<m*ws.length:=by
 refine (Nat.div_lt_iff_lt_mul hm).mp ?_|>λ h=>by rw [Xz];exact h
 rw [(tK hm).1];exact Nat.mod_lt _ hw
theorem Jv {cs:List Nat} {i c:Nat} (nd:cs.Nodup) (h:cs[i]? =some c):wS cs (tx [c])=i:=by
 unfold wS;have nd2:(cs.map λ c=>tx [c]).Nodup:=lJ.mpr nd;obtain ⟨hi,e⟩:=Zf.mp h;have hi2:i<(cs.map λ c=>tx [c]).length:=by rw [Qr];exact hi
 have:=nd2.idxOf_getElem i hi2;rw [Xf,e] at this;exact this
theorem SumH.nx {cs:List Nat} {m:Nat} {ws:List Int} {ds:L2S} {es:List Int} (h:SumH cs m ws ds es) (nd:cs.Nodup) (hm:1<=m) {j c:Nat} (hj:j<m*ws.length) (hc:c∈cs):Hs.dr (ds.getD j []) (tx [c])=some ((fX cs m ws j (tx [c]):Nat):Int):=by
 obtain ⟨i,hi,e⟩:=Zu.mp hc;have e2:cs[i]? =some c:=by rw [Qb hi,e]
 rw [(h.dr hj c).2 i e2];have h0:=Wp (((j%m:Nat):Int)+((i+1:Nat):Int)*ws.getD (j / m) 0) (show (m:Int)≠0 by rfl');unfold fX;rw [Jv nd e2];generalize (((j%m:Nat):Int)+((i+1:Nat):Int)*ws.getD (j / m) 0)%(m:Int)=z at h0 ⊢;congr 1;rfl'
theorem SumH.goJ {cs:List Nat} {m:Nat} {ws:List Int} {ds:L2S} {es:List Int} (h:SumH cs m ws ds es) (nd:cs.Nodup) (hm:1<=m) (hw:1<=ws.length) {ts:List Nat} (hc: ∀c∈ts,c∈cs):Hs.go ds ts=some ((jT cs m ws ts:Nat):Int)/\jT cs m ws ts<m*ws.length:=by
 have key: ∀ (ts:List Nat) (j:Nat),j<m*ws.length->(∀c∈ts,c∈cs)->ts.foldl (λ o c=>Hs.stp ds o (tx [c])) (some (j:Int))=some ((ts.foldl (λ j c=>fX cs m ws j (tx [c])) j:Nat):Int)/\ts.foldl (λ j c=>fX cs m ws j (tx [c])) j<m*ws.length:=by
  intro ts;induction ts with
  | nil=>intro j hj _;exact ⟨rfl,hj⟩
  | cons c ts ih=>
   intro j hj hc;rw [List.foldl_cons,List.foldl_cons,cR,Zi,h.nx nd hm hj (hc c Zy)];exact ih _ (tL hm hw) λ x mx=>hc x (Zr _ mx)
 exact key ts 0 (Nat.mul_pos hm hw) hc
theorem Ii {cs:List Nat} {c:Nat} (nd:cs.Nodup) (hc:c∈cs):Txt.find (tx cs) (tx [c])=((wS cs (tx [c]):Nat):Int):=by
 rcases Q4 cs c with ⟨_,h⟩ | ⟨i,h1,h2⟩
 ·exact absurd hc h
 ·rw [Jv nd h2];exact h1
theorem zB {H:Hp} {Q:VK} {cs:List Nat} {c:Nat} (nd:cs.Nodup) (hc:c∈cs) (h:Q (.int ((wS cs (tx [c]):Nat):Int)) H):yM (.str (tx cs)) [.str (tx [c])] H Q:=⟨_,_,rfl,rfl,by rw [Ii nd hc];exact h⟩
theorem Jw {cs:List Nat} {c:Nat} (hc:c∈cs):wS cs (tx [c])<cs.length:=by
 unfold wS;have:=Yr (Zc.mpr ⟨c,hc,rfl⟩:tx [c]∈cs.map λ c=>tx [c]);rw [Qr] at this;exact this
theorem Ij {cs:List Nat} {m:Nat} {ws:List Int} {ts:List Nat} {c k:Nat} {T:Int} (hm:1<=m) (h:jT cs m ws ts=k%ws.length*m+(T%(m:Int)).toNat):jT cs m ws (ts++[c])=(k+1)%ws.length*m+((T+((wS cs (tx [c])+1:Nat):Int)*ws.getD (k%ws.length) 0)%(m:Int)).toNat:=by
 have h0:=Wp T (show (m:Int)≠0 by rfl');have h1:=Wh T (show (0:Int)<m by rfl');have hz:(T%(m:Int)).toNat<m:=by rfl'
 have e1:jT cs m ws ts / m=k%ws.length:=by rw [h,Xz,Nat.mul_add_div hm,Nat.div_eq_of_lt hz,Nat.add_zero]
 have e2:((jT cs m ws ts%m:Nat):Int)=T%(m:Int):=by rw [h,Xz,Nat.mul_add_mod,Nat.mod_eq_of_lt hz];rfl'
 rw [zA];unfold fX;rw [e1,e2,Nat.mod_add_mod,Int.emod_add_emod]
def nV (m:Nat) (ws:List Int) (ds:L2S):Nat:=m*ws.length*ds.length
def tM (cs:List Nat) (m:Nat) (ws:List Int) (ds:L2S) (p:Nat):L1S:=(ds.getD (p%ds.length) []).map λ q=>(q.1,((fX cs m ws (p / ds.length) q.1*ds.length:Nat):Int)+q.2)
def gk (cs:List Nat) (m:Nat) (ws:List Int) (ds:L2S):L2S:=(List.range (nV m ws ds)).map (tM cs m ws ds)
def jE (m:Nat) (ws:List Int) (ds:L2S) (es:List Int):List Int:=((List.range (nV m ws ds)).filter λ p=>decide (p / ds.length%m=0)&&decide (((p%ds.length:Nat):Int)∈es)).map λ p:Nat=>(p:Int)
theorem nR {m:Nat} {ws:List Int} {ds:L2S} {es:List Int} {p:Nat} (hp:p<nV m ws ds):(p:Int)∈jE m ws ds es↔p / ds.length%m=0/\((p%ds.length:Nat):Int)∈es:=by
 unfold jE;rw [Zc];constructor
 ·rintro ⟨x,mx,ex⟩;obtain rfl:x=p:=by rfl'
  have:=(List.mem_filter.mp mx).2;rw [Xw] at this;exact ⟨of_decide_eq_true this.1,Ww this.2⟩
 ·rintro ⟨h1,h2⟩;exact ⟨p,List.mem_filter.mpr ⟨List.mem_range.mpr hp,by rw [Yh h1,Yh h2];rfl⟩,rfl⟩
theorem xR {cs:List Nat} {m:Nat} {ws:List Int} {ds:L2S} {p:Nat} (hp:p<nV m ws ds):(gk cs m ws ds).getD p []=tM cs m ws ds p:=by
 unfold gk;rw [Zb,Zg,List.getElem?_range hp];rfl
theorem gm (cs:List Nat) (m:Nat) (ws:List Int) (ds:L2S):(gk cs m ws ds).length=nV m ws ds:=by unfold gk;simp
structure MdH (cs:List Nat) (m:Nat) (ws:List Int) (ds:L2S) (es:List Int) (f:Nat) (ds':L2S) (es':List Int):Prop where
 wf:Hs.Wf ds'
 gd:GdB ds'
 le:ds'.length<=40
 bi: ∃n φ,Bis ds' es' (gk cs m ws ds) (jE m ws ds es) n φ/\ ∀ts,(∀c∈ts,c∈cs)-> ∀x,Hs.go ds ts=some x-> ∃i:Nat,i<n/\Hs.go ds' ts=some (i:Int)/\φ i=jT cs m ws ts*ds.length+x.toNat
 gn: ∀ts,(∀c∈ts,c∈cs)->Hs.go ds ts=none->Hs.go ds' ts=none
 tk: ∀ts,(∀c∈ts,c∈cs)-> ∀k,(inV (ov (Hs.go ds' (ts++List.replicate k f))) (es'.map V.int)=true↔ ∃x,Hs.go ds ts=some x/\x∈es/\jT cs m ws ts%m=0)
theorem FP {α β:Type} {f:α->Option β} {g:α->β}: ∀ {l:List α},(∀x∈l,f x=some (g x))->l.filterMap f=l.map g
 | [],_=>rfl
 | x::l,h=>by rw [Wu,h x Zy,Zz,FP λ y my=>h y (Zr _ my)]
theorem j9 {x:Int} {l:List Int}:inV (ov (some x)) (l.map V.int)=true↔x∈l:=by
 show inV (V.int x) (l.map V.int)=true↔_;rw [fH];exact decide_eq_true_iff
theorem zE {cs:List Nat} {m:Nat} {ws:List Int} {ds:L2S} {es:List Int} {f N:Nat} {d1 d2 ds':L2S} {e1 e2:List Int} (hN:(bx d1 d2 N).length<=N) (h39:(bx d1 d2 N).length<=39) (w1:Hs.Wf d1) (w2:Hs.Wf d2) (g1:GdB d1) (hl: ∀ps∈d1,ps.length<=60) (fs:Hs.Sg (tx [f])) (hfc:f∉cs)
  (pd:Jt ((bx d1 d2 N).map (bF d1 d2 (bx d1 d2 N))) (dU e1 e2 (bx d1 d2 N)) (tx [f]) ds') (hno: ∀ps∈(bx d1 d2 N).map (bF d1 d2 (bx d1 d2 N)),Hs.dr ps (tx [f])=none)
  {ψ:Int×Int->Nat} (h1: ∀p,Ju d1 d2 p->ψ p<nV m ws ds) (h2: ∀p,Ju d1 d2 p->(p.1∈e1/\p.2∈e2↔((ψ p:Nat):Int)∈jE m ws ds es)) (h3: ∀p,Ju d1 d2 p->tM cs m ws ds (ψ p)=(vg d1 d2 p).map λ q=>(q.1,((ψ q.2:Nat):Int)))
  (hgo: ∀ts,(∀c∈ts,c∈cs)-> ∀x,Hs.go ds ts=some x-> ∃p,Hs.go d1 ts=some p.1/\Hs.go d2 ts=some p.2/\ψ p=jT cs m ws ts*ds.length+x.toNat/\(p.1∈e1/\p.2∈e2↔x∈es/\jT cs m ws ts%m=0))
  (hgn: ∀ts,(∀c∈ts,c∈cs)->Hs.go ds ts=none->Hs.go d1 ts=none\/Hs.go d2 ts=none):MdH cs m ws ds es f ds' (dU e1 e2 (bx d1 d2 N)++[(((bx d1 d2 N).map (bF d1 d2 (bx d1 d2 N))).length:Int)]):=by
 have hb:=Fv hN;have hin:=lM w1 w2 N;have hcl:=λ {j:Nat} {p:Int×Int} {q:Str×(Int×Int)}=>fW (d1:=d1) (d2:=d2) (k:=N) (j:=j) (p:=p) (q:=q)
 have hnd:=j0 d1 d2 N;have hz:=jX d1 d2 N;have hrs:=λ p=>jZ (d2:=d2) g1 (bx d1 d2 N) p
 have hrg: ∀p,∀z∈bF d1 d2 (bx d1 d2 N) p,Hs.Sg z.1:=λ p z mz=>nQ g1 mz
 have hem:=λ {x:Int×Int}=>vm (e1:=e1) (e2:=e2) (P:=bx d1 d2 N) (x:=x)
 have hei:=tG (e1:=e1) (e2:=e2) (P:=bx d1 d2 N);have hrl: ∀p,(bF d1 d2 (bx d1 d2 N) p).length<=60:=λ p=>by
  unfold bF;rw [Qr];exact nP hl p
 generalize bx d1 d2 N=P at*;have hP0:0<P.length:=(Zf.mp hz).1;have hlen:(P.map (bF d1 d2 P)).length=P.length:=Qr ..;have hl':ds'.length=P.length+1:=by rw [pd.1,hlen]
 have hwB:Hs.Wf (P.map (bF d1 d2 P)):=by
  refine ⟨by rw [hlen];exact hP0,λ ps mp q mq=> ?_⟩;obtain ⟨p,mp',rfl⟩:=Zc.mp mp;obtain ⟨z,mz,rfl⟩:=Zc.mp mq;obtain ⟨j,hj,ej⟩:=Zu.mp mp';have:=Yr (hcl (Zs hj hN) (by rw [Qb hj,ej]) mz);rw [hlen];exact ⟨by show (0:Int)<=((P.idxOf z.2:Nat):Int);rfl',by show ((P.idxOf z.2:Nat):Int)<_;rfl'⟩
 have rowD: ∀ {i:Nat} (hi:i<P.length),(P.map (bF d1 d2 P)).getD i []=bF d1 d2 P P[i]:=λ {i} hi=>by
  rw [Zb,Zg,Qb hi];rfl
 have row': ∀ {i:Nat} (hi:i<P.length),(i:Int)∉dU e1 e2 P->ds'.getD i []=bF d1 d2 P P[i]:=λ {i} hi ne=>by
  have hi':i<ds'.length:=by rfl'
  obtain ⟨q1,q2⟩:=pd.2 i ds'[i] (Qb hi');rw [if_neg (by rw [Zv,Ze,hlen];exact λ h=>h.elim ne λ h=>by rfl'),Xd] at q1;have eb:(P.map (bF d1 d2 P)++[[]]).getD i []=bF d1 d2 P P[i]:=by
   rw [Zb,Ye (by rw [hlen];exact hi),<- Zb,rowD hi]
  rw [eb] at q1;rw [Zb,Qb hi'];exact Hs.Er q1 q2 (List.Perm.refl _) (hrs _)
 have hall: ∀ (j:Nat) ps',ds'[j]? =some ps'-> ∀q∈ps',(q∈(P.map (bF d1 d2 P)++[[]]).getD j [])\/q=(tx [f],((P.map (bF d1 d2 P)).length:Int)):=λ j ps' hj q mq=>by
  have:=(pd.2 j ps' hj).1.mem_iff.mp mq;rcases Zv.mp this with h | h
  ·exact .inl h
  ·split at h
   ·exact .inr (Ze.mp h)
   ·cases h
 have hold: ∀ (j:Nat),∀q∈(P.map (bF d1 d2 P)++[[]]).getD j [],∃p∈P,q∈bF d1 d2 P p:=λ j q mq=>by
  rw [Zb] at mq;by_cases c:j<P.length
  ·rw [Ye (by rw [hlen];exact c),Zg,Qb c] at mq;exact ⟨_,Zl c,mq⟩
  ·exfalso;rw [Yp (by rw [hlen];rfl')] at mq
   cases e:j-(P.map (bF d1 d2 P)).length with
   | zero=>rw [e] at mq;cases mq
   | succ k=>rw [e] at mq;cases mq
 have hg1: ∀ts,(∀c∈ts,c∈cs)-> ∀r,Hs.go ds' ts=some r->Hs.go (P.map (bF d1 d2 P)) ts=some r:=λ ts hc r hr=>by
  rcases (tH hwB pd hno _ ts rfl).2 r hr with h | ⟨_,h⟩
  ·exact h
  ·exact absurd (hc f (List.mem_of_getLast? h)) hfc
 refine ⟨⟨by rfl',λ ps mp q mq=> ?_⟩,⟨by rfl',λ ps mp=> ?_,λ ps mp=> ?_,λ ps mp q mq=> ?_⟩,by rfl',⟨P.length,λ i=>ψ (P.getD i (0,0)),⟨λ i hi=>by rfl',λ i hi=> ?_,λ i hi=> ?_,λ i hi ne=> ?_,λ i hi ne q mq=> ?_⟩,λ ts hc x hx=> ?_⟩,λ ts hc hx=> ?_,λ ts hc k=> ?_⟩
 ·obtain ⟨j,hj,ej⟩:=Zu.mp mp;rcases hall j ps (by rw [Qb hj,ej]) q mq with h | rfl
  ·obtain ⟨p,mp',mq'⟩:=hold j q h;have:=hwB.rm _ (Zc.mpr ⟨p,mp',rfl⟩) q mq';rw [hlen] at this;exact ⟨this.1,by rfl'⟩
  ·rw [hlen];exact ⟨by show (0:Int)<=((P.length:Nat):Int);rfl',by show ((P.length:Nat):Int)<_;rfl'⟩
 ·obtain ⟨j,hj,ej⟩:=Zu.mp mp;exact (pd.2 j ps (by rw [Qb hj,ej])).2
 ·obtain ⟨j,hj,ej⟩:=Zu.mp mp;have:=(pd.2 j ps (by rw [Qb hj,ej])).1.length_eq;rw [Yl] at this;have b1:((P.map (bF d1 d2 P)++[[]]).getD j []).length<=60:=by
   rw [Zb];by_cases c:j<P.length
   ·rw [Ye (by rw [hlen];exact c),Zg,Qb c];exact hrl _
   ·rw [Yp (by rw [hlen];rfl')]
    cases e:j-(P.map (bF d1 d2 P)).length with
    | zero=>exact Yu _
    | succ k=>exact Yu _
  split at this
  ·rw [Wy] at this;rfl'
  ·rw [Wc] at this;rfl'
 ·obtain ⟨j,hj,ej⟩:=Zu.mp mp;rcases hall j ps (by rw [Qb hj,ej]) q mq with h | rfl
  ·obtain ⟨p,mp',mq'⟩:=hold j q h;exact hrg p q mq'
  ·exact fs
 ·rw [gm,Zb,Qb hi];exact h1 _ (hin _ (Zl hi))
 ·rw [Zb,Qb hi,Option.getD_some];rw [<- h2 _ (hin _ (Zl hi)),Zv,Ze,hlen];have:=hem (Zl hi);rw [hnd.idxOf_getElem i hi] at this;rw [this];exact ⟨λ h=>h.elim id λ h=>by rfl', .inl⟩
 ·have ne':(i:Int)∉dU e1 e2 P:=λ h=>ne (Xo _ h)
  rw [row' hi ne',Zb (l:=P),Qb hi];show (gk cs m ws ds).getD (ψ P[i]) []=_;rw [xR (h1 _ (hin _ (Zl hi))),h3 _ (hin _ (Zl hi))];unfold bF;rw [Zk];refine Xu λ q mq=> ?_
  have mqP:=hcl (Zs hi hN) (Qb hi) mq;show (q.1,((ψ q.2:Nat):Int))=(q.1,((ψ (P.getD ((P.idxOf q.2:Nat):Int).toNat (0,0)):Nat):Int));rw [Zi,Zb,Qb (Yr mqP),Option.getD_some,List.getElem_idxOf]
 ·have ne':(i:Int)∉dU e1 e2 P:=λ h=>ne (Xo _ h)
  rw [row' hi ne',<- rowD hi] at mq;have:=hwB.rm _ (by rw [rowD hi];exact Zc.mpr ⟨_,Zl hi,rfl⟩) q mq;rw [hlen] at this;exact ⟨by rfl',this.1⟩
 ·obtain ⟨p,p1,p2,p3,_⟩:=hgo ts hc x hx;obtain ⟨b1,b2⟩:=hb ts;have mp:=b2 _ _ p1 p2;have hlt:=Yr mp;refine ⟨P.idxOf p,hlt,(tH hwB pd hno _ ts rfl).1 _ (by rw [b1,p1,p2];rfl),?_⟩;show ψ (P.getD (P.idxOf p) (0,0))=_;rw [Zb,Qb hlt,Option.getD_some,List.getElem_idxOf,p3]
 ·cases e:Hs.go ds' ts with
  | none=>rfl
  | some r=>
   have:=hg1 ts hc r e;rw [(hb ts).1] at this;rcases hgn ts hc hx with h | h
   ·rw [h] at this;cases this
   ·cases e1:Hs.go d1 ts with
    | none=>rw [e1] at this;cases this
    | some a=>rw [e1,h] at this;cases this
 ·rw [FN hwB (λ e me=>by rw [hlen];exact hei e me) pd hno (λ x hx e=>hfc (by rw [<- e];exact hc x (List.mem_of_getLast? hx))) k];obtain ⟨b1,b2⟩:=hb ts
  cases eg:Hs.go ds ts with
  | none=>
   have:Hs.go (P.map (bF d1 d2 P)) ts=none:=by
    rw [b1];rcases hgn ts hc eg with h | h
    ·rw [h];rfl
    ·rw [h];cases Hs.go d1 ts<;>rfl
   rw [this];refine ⟨λ h=> ?_,λ ⟨x,h,_⟩=>nomatch h⟩;exfalso
   revert h
   show ¬ (inV V.non _=true);intro h;have:inV V.non ((dU e1 e2 P).map V.int)=false:=by
    generalize dU e1 e2 P=l;induction l with
    | nil=>rfl
    | cons a l ih=>exact ih
   rw [this] at h;cases h
  | some x=>
   obtain ⟨p,p1,p2,p3,p4⟩:=hgo ts hc x eg;have mp:=b2 _ _ p1 p2;rw [b1,p1,p2];show inV (ov (some ((P.idxOf p:Nat):Int))) _=true↔_;rw [j9,hem mp,p4];exact ⟨λ h=>⟨x,rfl,h⟩,λ ⟨y,e,h⟩=>by cases e;exact h⟩
theorem zF {j R x n:Nat} (hj:j<n) (hx:x<R):j*R+x<n*R:=Zs (Nat.add_lt_add_left hx _) (by rw [<- Nat.succ_mul];exact Nat.mul_le_mul_right _ hj)
theorem xT {j R x:Nat} (hx:x<R):(j*R+x) / R=j:=by rw [Xz,Nat.mul_add_div (by rfl'),Nat.div_eq_of_lt hx,Nat.add_zero]
theorem xU {j R x:Nat} (hx:x<R):(j*R+x)%R=x:=by rw [Xz,Nat.mul_add_mod,Nat.mod_eq_of_lt hx]
theorem xV {m W j:Nat} (hm:1<=m) (hj:j<m*W):(j:Int)∈(List.range W).map (λ t:Nat=>((t*m:Nat):Int))↔j%m=0:=by
 rw [Zc];constructor
 ·rintro ⟨t,_,e⟩;obtain rfl:t*m=j:=Int.ofNat.inj e;exact Nat.mul_mod_left t m
 ·intro h;refine ⟨j / m,Xn.mpr ((Nat.div_lt_iff_lt_mul hm).mpr (by rw [Xz];exact hj)),?_⟩;congr 1;exact Nat.div_mul_cancel (Nat.dvd_of_mod_eq_zero h)
section
variable {cs:List Nat} {m:Nat} {ws:List Int} {ds dS:L2S} {es eS:List Int}
structure HsS (cs:List Nat) (m:Nat) (ws:List Int) (ds dS:L2S) (es eS:List Int):Prop where
 su:SumH cs m ws dS eS
 nd:cs.Nodup
 hm:1<=m
 hw:1<=ws.length
 wf:Hs.Wf ds
 sg: ∀ps∈ds,∀p∈ps,∃c∈cs,p.1=tx [c]
 sr: ∀ps∈ds,(ps.map (·.1)).Pairwise gY
theorem HsS.row (h:HsS cs m ws ds dS es eS) {x:Nat} (hx:x<ds.length):ds.getD x []∈ds:=by
 rw [Zb,Qb hx];exact Zl hx
theorem HsS.h1 (_h:HsS cs m ws ds dS es eS) {j x:Nat} (hj:j<m*ws.length) (hx:x<ds.length):j*ds.length+x<nV m ws ds:=zF hj hx
theorem HsS.h2 (h:HsS cs m ws ds dS es eS) {j x:Nat} (hj:j<m*ws.length) (hx:x<ds.length):((x:Int)∈es/\(j:Int)∈eS)↔((j*ds.length+x:Nat):Int)∈jE m ws ds es:=by
 rw [nR (h.h1 hj hx),xT hx,xU hx,h.su.en,xV h.hm hj];exact ⟨λ ⟨a,b⟩=>⟨b,a⟩,λ ⟨a,b⟩=>⟨b,a⟩⟩
theorem HsS.rw (h:HsS cs m ws ds dS es eS) {j x:Nat} (hx:x<ds.length):tM cs m ws ds (j*ds.length+x)=(ds.getD x []).map λ q=>(q.1,((fX cs m ws j q.1*ds.length+q.2.toNat:Nat):Int)):=by
 unfold tM;rw [xT hx,xU hx];refine Xu λ q mq=> ?_
 have:=h.wf.rm _ (h.row hx) q mq;congr 1;rfl'
theorem HsS.door (h:HsS cs m ws ds dS es eS) {j x:Nat} (hj:j<m*ws.length) (hx:x<ds.length) {q:Str×Int} (mq:q∈ds.getD x []):Hs.dr (dS.getD j []) q.1=some ((fX cs m ws j q.1:Nat):Int):=by
 obtain ⟨c,mc,e⟩:=h.sg _ (h.row hx) q mq;rw [e];exact h.su.nx h.nd h.hm hj mc
theorem HsS.inb (h:HsS cs m ws ds dS es eS) {p:Int×Int}:(Ju ds dS p-> ∃x j:Nat,p=((x:Int),(j:Int))/\x<ds.length/\j<m*ws.length)/\(Ju dS ds p-> ∃x j:Nat,p=((j:Int),(x:Int))/\x<ds.length/\j<m*ws.length):=by
 obtain ⟨p1,p2⟩:=p;have:=h.su.len;constructor
 ·rintro ⟨⟨a,b⟩,c,d⟩;exact ⟨p1.toNat,p2.toNat,by rw [Yx a,Yx c],by rfl',by have d:p2<dS.length:=d;rfl'⟩
 ·rintro ⟨⟨a,b⟩,c,d⟩;exact ⟨p2.toNat,p1.toNat,by rw [Yx a,Yx c],by have d:p2<ds.length:=d;rfl',by have b:p1<dS.length:=b;rfl'⟩
theorem HsS.len (h:HsS cs m ws ds dS es eS) {n:Nat} (hn:cs.length<=n): ∀ps∈ds,ps.length<=n:=λ ps mp=>by
 have:=gU (l:=ps.map (·.1)) (m:=cs.map λ c=>tx [c]) (fU (h.sr ps mp)) λ s ms=>by
  obtain ⟨p,mpp,rfl⟩:=Zc.mp ms;obtain ⟨c,mc,e⟩:=h.sg ps mp p mpp;rw [e];exact Zc.mpr ⟨c,mc,rfl⟩
 rw [Qr,Qr] at this;rfl'
theorem HsS.rowB2 (h:HsS cs m ws ds dS es eS) {j x:Nat} (hj:j<m*ws.length) (hx:x<ds.length):(vg dS ds ((j:Int),(x:Int))).map (λ q=>(q.1,((q.2.1.toNat*ds.length+q.2.2.toNat:Nat):Int)))=(ds.getD x []).map λ q=>(q.1,((fX cs m ws j q.1*ds.length+q.2.toNat:Nat):Int)):=by
 have hjl:j<dS.length:=by rw [h.su.len];exact hj
 have srd:=h.sr _ (h.row hx);have srS:=(h.su.row j _ (Qb hjl)).2;have eS':dS.getD j []=dS[j]:=by rw [Zb,Qb hjl];rfl
 have nS:((dS.getD j []).map (·.1)).Nodup:=by rw [eS'];exact fU srS
 have nd2:((ds.getD x []).map (·.1)).Nodup:=fU srd;have hs1:(((vg dS ds ((j:Int),(x:Int))).map (λ q=>(q.1,((q.2.1.toNat*ds.length+q.2.2.toNat:Nat):Int)))).map (·.1)).Pairwise gY:=by
  rw [Zk];refine List.Pairwise.sublist (tD ds (x:Int) (dS.getD j [])) ?_;rw [eS'];exact srS
 have hs2:(((ds.getD x []).map λ q:Str×Int=>(q.1,((fX cs m ws j q.1*ds.length+q.2.toNat:Nat):Int))).map (·.1)).Pairwise gY:=by
  rw [Zk];exact srd
 refine Hs.Er ?_ hs1 (List.Perm.refl _) hs2;refine (List.perm_ext_iff_of_nodup ?_ ?_).mpr λ z=> ?_
 ·exact (Xl.mp (fU hs1)).imp λ h e=>h (by rw [e])
 ·exact (Xl.mp (fU hs2)).imp λ h e=>h (by rw [e])
 ·rw [Zc,Zc];constructor
  ·rintro ⟨q,mq,rfl⟩;obtain ⟨y,my,ey⟩:=List.mem_filterMap.mp mq;obtain ⟨b,eb,rfl⟩:=Yd.mp ey;have mb:=Hs.gF eb;rw [Zi] at mb my;refine ⟨_,mb,?_⟩;have e1:=h.door hj hx mb;have e2:=(jC nS).mpr (show (y.1,y.2)∈dS.getD j [] from my);have e3:some y.2=some ((fX cs m ws j y.1:Nat):Int):=e2.symm.trans e1;have e4:=Zx e3;show (y.1,((fX cs m ws j y.1*ds.length+b.toNat:Nat):Int))=(y.1,((y.2.toNat*ds.length+b.toNat:Nat):Int));rw [e4,Zi]
  ·rintro ⟨q,mq,rfl⟩;have e1:=h.door hj hx mq;refine ⟨(q.1,(((fX cs m ws j q.1:Nat):Int),q.2)),List.mem_filterMap.mpr ⟨(q.1,((fX cs m ws j q.1:Nat):Int)),?_,?_⟩,?_⟩
   ·have:=Hs.gF e1;rw [Zi];exact this
   ·have:=(jC nd2).mpr (show (q.1,q.2)∈ds.getD x [] from mq);show (Hs.dr (ds.getD ((x:Nat):Int).toNat []) q.1).map _=_;rw [Zi,this];rfl
   ·show (q.1,((((fX cs m ws j q.1:Nat):Int).toNat*ds.length+q.2.toNat:Nat):Int))=_;rw [Zi]
theorem HsS.rowA2 (h:HsS cs m ws ds dS es eS) {j x:Nat} (hj:j<m*ws.length) (hx:x<ds.length):(vg ds dS ((x:Int),(j:Int))).map (λ q=>(q.1,((q.2.2.toNat*ds.length+q.2.1.toNat:Nat):Int)))=(ds.getD x []).map λ q=>(q.1,((fX cs m ws j q.1*ds.length+q.2.toNat:Nat):Int)):=by
 unfold vg;show List.map _ ((ds.getD ((x:Nat):Int).toNat []).filterMap λ q=>(Hs.dr (dS.getD ((j:Nat):Int).toNat []) q.1).map λ b=>(q.1,(q.2,b)))=_;rw [Zi,Zi,FP (g:=λ q:Str×Int=>(q.1,(q.2,((fX cs m ws j q.1:Nat):Int)))) (λ q mq=>by rw [h.door hj hx mq];rfl),Zk];refine Xu λ q mq=> ?_
 show (q.1,((((fX cs m ws j q.1:Nat):Int).toNat*ds.length+q.2.toNat:Nat):Int))=_;rw [Zi]
theorem HsS.mdA (h:HsS cs m ws ds dS es eS) {f N:Nat} {ds':L2S} (hN:(bx ds dS N).length<=N) (h39:(bx ds dS N).length<=39) (g1:GdB ds) (hl:cs.length<=60) (fs:Hs.Sg (tx [f])) (hfc:f∉cs)
  (pd:Jt ((bx ds dS N).map (bF ds dS (bx ds dS N))) (dU es eS (bx ds dS N)) (tx [f]) ds') (hno: ∀ps∈(bx ds dS N).map (bF ds dS (bx ds dS N)),Hs.dr ps (tx [f])=none):MdH cs m ws ds es f ds' (dU es eS (bx ds dS N)++[(((bx ds dS N).map (bF ds dS (bx ds dS N))).length:Int)]):=by
 have wS:=h.su.wf h.hm (List.length_pos_iff.mp h.hw);refine zE hN h39 h.wf wS g1 (h.len hl) fs hfc pd hno (ψ:=λ p=>p.2.toNat*ds.length+p.1.toNat) (λ p hp=> ?_) (λ p hp=> ?_) (λ p hp=> ?_) (λ ts hc x hx=> ?_) λ ts hc hx=> .inl hx
 ·obtain ⟨x,j,rfl,hx,hj⟩:=h.inb.1 hp;exact h.h1 hj hx
 ·obtain ⟨x,j,rfl,hx,hj⟩:=h.inb.1 hp;exact h.h2 hj hx
 ·obtain ⟨x,j,rfl,hx,hj⟩:=h.inb.1 hp;show tM cs m ws ds (((j:Nat):Int).toNat*ds.length+((x:Nat):Int).toNat)=_;rw [Zi,Zi,h.rw hx,h.rowA2 hj hx]
 ·obtain ⟨g1,g2⟩:=h.su.goJ h.nd h.hm h.hw hc;refine ⟨(x,((jT cs m ws ts:Nat):Int)),hx,g1,by show ((jT cs m ws ts:Nat):Int).toNat*_+_=_;rw [Zi],?_⟩;show x∈es/\((jT cs m ws ts:Nat):Int)∈eS↔_;rw [h.su.en,xV h.hm g2]
theorem HsS.mdB (h:HsS cs m ws ds dS es eS) {f N:Nat} {ds':L2S} (hN:(bx dS ds N).length<=N) (h39:(bx dS ds N).length<=39) (g1:GdB dS) (hl:cs.length<=60) (hsg: ∀c∈cs,Hs.Sg (tx [c])) (fs:Hs.Sg (tx [f])) (hfc:f∉cs)
  (pd:Jt ((bx dS ds N).map (bF dS ds (bx dS ds N))) (dU eS es (bx dS ds N)) (tx [f]) ds') (hno: ∀ps∈(bx dS ds N).map (bF dS ds (bx dS ds N)),Hs.dr ps (tx [f])=none):MdH cs m ws ds es f ds' (dU eS es (bx dS ds N)++[(((bx dS ds N).map (bF dS ds (bx dS ds N))).length:Int)]):=by
 have wn:=List.length_pos_iff.mp h.hw;have wS:=h.su.wf h.hm wn;refine zE hN h39 wS h.wf g1 (λ ps mp=>by rw [(h.su.sg h.hm wn hsg mp).2];exact hl) fs hfc pd hno (ψ:=λ p=>p.1.toNat*ds.length+p.2.toNat) (λ p hp=> ?_) (λ p hp=> ?_) (λ p hp=> ?_) (λ ts hc x hx=> ?_) λ ts hc hx=> .inr hx
 ·obtain ⟨x,j,rfl,hx,hj⟩:=h.inb.2 hp;exact h.h1 hj hx
 ·obtain ⟨x,j,rfl,hx,hj⟩:=h.inb.2 hp;exact And.comm.trans (h.h2 hj hx)
 ·obtain ⟨x,j,rfl,hx,hj⟩:=h.inb.2 hp;show tM cs m ws ds (((j:Nat):Int).toNat*ds.length+((x:Nat):Int).toNat)=_;rw [Zi,Zi,h.rw hx,h.rowB2 hj hx]
 ·obtain ⟨g1,g2⟩:=h.su.goJ h.nd h.hm h.hw hc;refine ⟨(((jT cs m ws ts:Nat):Int),x),g1,hx,by show ((jT cs m ws ts:Nat):Int).toNat*_+_=_;rw [Zi],?_⟩;show ((jT cs m ws ts:Nat):Int)∈eS/\x∈es↔_;rw [h.su.en,xV h.hm g2];exact And.comm
end
def mQ (R m p:Nat):List Key:=[Sum.inl ((p / R / m:Nat):Int),Sum.inl ((p / R%m:Nat):Int),Sum.inl ((p%R:Nat):Int)]
theorem tO {R m p q:Nat} (h:mQ R m p=mQ R m q):p=q:=by
 unfold mQ at h;injection h with h1 h
 injection h with h2 h
 injection h with h3 _
 have e1:p / R / m=q / R / m:=Int.ofNat.inj (Sum.inl.inj h1);have e2:p / R%m=q / R%m:=Int.ofNat.inj (Sum.inl.inj h2);have e3:p%R=q%R:=Int.ofNat.inj (Sum.inl.inj h3);have e4:p / R=q / R:=by rw [<- Nat.div_add_mod (p / R) m,<- Nat.div_add_mod (q / R) m,e1,e2]
 rw [<- Nat.div_add_mod p R,<- Nat.div_add_mod q R,e4,e3]
def dS (R m:Nat) (a:List (Option Int)):List (List Key×V):=(List.range a.length).map λ p=>(mQ R m p,ov (a.getD p none))
theorem tQ {α κ:Type} [DecidableEq κ] {f:α->κ} {g:α->V} (inj: ∀x y,f x=f y->x=y) {p:α}: ∀ {l:List α},(p∈l->dh (l.map λ x=>(f x,g x)) (f p)=some (g p))/\(p∉l->dh (l.map λ x=>(f x,g x)) (f p)=none)
 | []=>⟨λ h=>absurd h Yi,λ _=>rfl⟩
 | x::l=>by
  rw [Zz];by_cases c:f x=f p
  ·obtain rfl:=inj _ _ c;exact ⟨λ _=>gK rfl,λ h=>absurd Zy h⟩
  ·rw [fM (p:=(f x,g x)) c];exact ⟨λ h=>(tQ inj).1 ((Zp.mp h).resolve_left λ e=>c (by rw [e])),λ h=>(tQ inj).2 λ m=>h (Zr _ m)⟩
theorem lV (R m:Nat) (a:List (Option Int)):(dS R m a).length=a.length:=by unfold dS;rw [Qr,Yv]
theorem xW {R m p:Nat} {a:List (Option Int)} (hp:p<a.length):dh (dS R m a) (mQ R m p)=some (ov (a.getD p none)):=(tQ (g:=λ p=>ov (a.getD p none)) λ _ _=>tO).1 (Xn.mpr hp)
theorem Mz (R m:Nat) (a:List (Option Int)):dh (dS R m a) (mQ R m a.length)=none:=(tQ (g:=λ p=>ov (a.getD p none)) λ _ _=>tO).2 λ h=>Wd _ (Xn.mp h)
theorem Ik (R m:Nat) (a:List (Option Int)) (v:Option Int):putK (dS R m a) (mQ R m a.length) (ov v)=dS R m (a++[v]):=by
 rw [gO _ (Mz R m a)];unfold dS;rw [Yl,Wy,List.range_succ,Zq];congr 1
 ·refine Xu λ p mp=> ?_
  rw [Zb,Zb,Ye (Xn.mp mp)]
 ·show _=[(mQ R m a.length,ov ((a++[v]).getD a.length none))];rw [Zb,Yp (Zn _),Nat.sub_self];rfl
theorem FQ {R m p:Nat} {a:List (Option Int)} (hp:p<a.length) (v:Option Int):putK (dS R m a) (mQ R m p) (ov v)=dS R m (a.set p v):=by
 unfold putK;rw [gM,xW hp];show (dS R m a).map _=_;unfold dS;rw [Zk,List.length_set];refine Xu λ q mq=> ?_
 show (if mQ R m q=mQ R m p then (mQ R m q,ov v) else (mQ R m q,ov (a.getD q none)))=_;by_cases c:q=p
 ·subst c;rw [if_pos rfl,Zb,List.getElem?_set_self hp];rfl
 ·rw [if_neg λ e=>c (tO e),Zb (l:=a.set p v),List.getElem?_set_ne λ e=>c e.symm,<- Zb]
theorem xX {R m j x:Nat} (hx:x<R):mQ R m (j*R+x)=[Sum.inl ((j / m:Nat):Int),Sum.inl ((j%m:Nat):Int),Sum.inl ((x:Nat):Int)]:=by
 unfold mQ;rw [xT hx,xU hx]
theorem FT {d1 d2:L2S} (w1:Hs.Wf d1) (w2:Hs.Wf d2) (k:Nat):(bx d1 d2 k).length<=d1.length*d2.length:=by
 have:=gU (l:=bx d1 d2 k) (m:=(List.range d1.length).flatMap λ i:Nat=>(List.range d2.length).map λ j:Nat=>((i:Int),(j:Int))) (j0 d1 d2 k) λ p mp=>by
  obtain ⟨⟨a,b⟩,c,d⟩:=lM w1 w2 k p mp;exact List.mem_flatMap.mpr ⟨p.1.toNat,Xn.mpr (by rfl'),Zc.mpr ⟨p.2.toNat,Xn.mpr (by rfl'),by rw [Yx a,Yx c]⟩⟩
 rw [List.length_flatMap] at this;have e: ∀l:List Nat,(l.map λ i:Nat=>((List.range d2.length).map λ j:Nat=>((i:Int),(j:Int))).length).sum=l.length*d2.length:=λ l=>by
  induction l with
  | nil=>rw [List.map_nil,List.sum_nil,Wc,Nat.zero_mul]
  | cons i l ih=>rw [Zz,List.sum_cons,ih,Qr,Yv,Xx,Nat.succ_mul,Nat.add_comm]
 rw [e,Yv] at this;exact this
theorem tR {d1 d2:L2S} {e1 e2:List Int} {N:Nat} (w1:Hs.Wf d1) (w2:Hs.Wf d2) (g1:GdB d1) (hl: ∀ps∈d1,ps.length<=62) (hN:(bx d1 d2 N).length<=N) (h40:(bx d1 d2 N).length<=40):GoodH ((bx d1 d2 N).map (bF d1 d2 (bx d1 d2 N))) (dU e1 e2 (bx d1 d2 N))/\Hs.Wf ((bx d1 d2 N).map (bF d1 d2 (bx d1 d2 N))):=by
 have hz:=jX d1 d2 N;have hcl:=λ {j:Nat} {p:Int×Int} {q:Str×(Int×Int)}=>fW (d1:=d1) (d2:=d2) (k:=N) (j:=j) (p:=p) (q:=q)
 have hnd:=j0 d1 d2 N;have hrs:=λ p=>jZ (d2:=d2) g1 (bx d1 d2 N) p
 have hrg: ∀p,∀z∈bF d1 d2 (bx d1 d2 N) p,Hs.Sg z.1:=λ p z mz=>nQ g1 mz
 have hrl: ∀p,(bF d1 d2 (bx d1 d2 N) p).length<=62:=λ p=>by
  unfold bF;rw [Qr];exact nP hl p
 have hel:=vo (e1:=e1) (e2:=e2) (P:=bx d1 d2 N);have hei:=tG (e1:=e1) (e2:=e2) (P:=bx d1 d2 N);have hes:=tE (e1:=e1) (e2:=e2) hnd;generalize bx d1 d2 N=P at*;have hP0:0<P.length:=(Zf.mp hz).1;have hlen:(P.map (bF d1 d2 P)).length=P.length:=Qr ..;have hrm: ∀ps∈P.map (bF d1 d2 P),∀q∈ps,0<=q.2/\q.2<((P.map (bF d1 d2 P)).length:Int):=λ ps mp q mq=>by
  obtain ⟨p,mp',rfl⟩:=Zc.mp mp;obtain ⟨z,mz,rfl⟩:=Zc.mp mq;obtain ⟨j,hj,ej⟩:=Zu.mp mp';have:=Yr (hcl (Zs hj hN) (by rw [Qb hj,ej]) mz);rw [hlen];exact ⟨by show (0:Int)<=((P.idxOf z.2:Nat):Int);rfl',by show ((P.idxOf z.2:Nat):Int)<_;rfl'⟩
 refine ⟨⟨by rfl',by rfl',λ ps mp=> ?_,λ ps mp=> ?_,λ ps mp q mq=>⟨?_,hrm ps mp q mq⟩,hes,by rfl',λ e me=>by rw [hlen];exact hei e me⟩,⟨by rfl',hrm⟩⟩
 ·obtain ⟨p,_,rfl⟩:=Zc.mp mp;exact hrs p
 ·obtain ⟨p,_,rfl⟩:=Zc.mp mp;exact hrl p
 ·obtain ⟨p,_,rfl⟩:=Zc.mp mp;exact hrg p q mq
theorem zG {d1 d2:L2S} {ss:List Nat} {f N:Nat} (h: ∀ps∈d1,∀p∈ps,∃c∈ss,p.1=tx [c]) (hf:f∉ss): ∀ps∈(bx d1 d2 N).map (bF d1 d2 (bx d1 d2 N)),Hs.dr ps (tx [f])=none:=λ ps mp=>by
 obtain ⟨p,_,rfl⟩:=Zc.mp mp;refine sW.mpr λ m=> ?_
 have:=(pF d1 d2 (bx d1 d2 N) p).subset m;rcases getD_mem' (ds:=d1) (r:=p.1) with h' | h'
 ·rw [h'] at this;cases this
 ·obtain ⟨z,mz,ez⟩:=Zc.mp this;obtain ⟨c,mc,ec⟩:=h _ h' z mz;rw [ec] at ez;have:c=f:=by injection (L2.lA.mp ez)
  exact hf (this▸mc)
theorem GoodH.b {ds:L2S} {es:List Int} (g:GoodH ds es):GdB ds:=⟨by have:=g.r2;rfl',g.sr,g.ln,λ ps mp p mpp=>(g.sg ps mp p mpp).1⟩
def jF (K:W.Frag):Sp:=λ vs H Q _=> ∃ (a w:Addr) (ds:L2S) (es ws:List Int) (ss ts:List Nat) (m:Nat),vs=[.ref a, .str (tx ss), .int m, .ref w, .str (tx ts)]/\HsT K H a ds es/\Hs.Wf ds/\SqL K H w (ws.map V.int)/\1<=m/\1<=ws.length/\(∀x∈ws,0<=x/\x<=1000)/\ts.length<=63/\m<=100/\ws.length<=100/\ss.length<=60/\ss.Nodup/\(∀c∈ts,c∈ss)/\ ∀r H',Same H H'->H r=none->H' r=some (.tup [.int ((jT ss m ws ts / m:Nat):Int), .int ((jT ss m ws ts%m:Nat):Int),ov (Hs.go ds ts)])->Q (.ref r) H'
def xY (K:W.Frag) (E:XK) (Eh:XK):TS:=
  (aN (b7 (tC (V.int 0)) (aB 5))
  (aN (b7 (tC (V.int 0)) (aB 6))
  (aN (dG (iG (ak (d7 (cB K) (ak (aj 4) aF)) aF)) (aB 7) (aN (b7 (aX (jB K) [] E0 (ak (aj 0) (ak (aj 5) (ak (aW pK (aj 4) (aj 7)) aF)))) (aB 5))
  (b7 (aW dO (aj 6) (aW jL (aW dO (vO K "str" yM (aj 1) (ak (aW pK (aj 4) (aj 7)) aF)) (tC (V.int 1))) (aW (gJ K) (aj 3) (aW bZ (aj 7) (d7 (cB K) (ak (aj 3) aF)))))) (aB 6))))
  (bV (ie (ak (aW bZ (d7 (cB K) (ak (aj 4) aF)) (d7 (cB K) (ak (aj 3) aF))) (ak (aW bZ (aj 6) (aj 2)) (ak (aj 5) aF))))))))
theorem MF (h:jF K vs H Q E): ∃Eh,xY K E Eh { nx:=λ _ H'=>Q .non H',rt:=Q } (start ["house","signs","many","wheel","text","room","total","k"] vs) H:=by
 unfold jF at h;obtain ⟨a,w,ds,es,ws,ss,ts,m,rfl,hH,wf,hW,hm,hw,hwr,ht,hm2,hw2,hss,hnd,hc,q⟩:=h;refine ⟨E0,?_⟩;unfold xY;have hxl:(tx ts).length<=1000000:=by rw [bw];rfl'
 symm;refine gD hxl ?_;rw [bw];refine uY ts.length (Zi _) (by rfl') (by rfl') (λ k σ H'=>Same H H'/\ ∃ (T:Int) (o:Option V),0<=T/\T<=k*100000/\jT ss m ws (ts.take k)=k%ws.length*m+(T%(m:Int)).toNat/\σ=[some (.ref a),some (.str (tx ss)),some (.int m),some (.ref w),some (.str (tx ts)),some (ov (Hs.go ds (ts.take k))),some (.int T),o]) ⟨Same.refl _,0,none,by rfl',by rfl',by rw [List.take_zero];show 0=0%_*m+(0%(m:Int)).toNat;simp,rfl⟩ ?_ ?_
 ·rintro k σ H' hk ⟨s',T,o,h0,h1,hj,rfl⟩;have mc:ts[k]∈ss:=hc _ (Zl hk);have etk:ts.take (k+1)=ts.take k++[ts[k]]:=by rw [Yj,Qb hk];rfl
  have ix: ∀ {H':Hp} {Q:VK},Q (.str (tx [ts[k]])) H'->pK (.str (tx ts)) (.int (k:Int)) H' Q:=λ h=>qH (c:=ts[k]) hxl (aJ (by show ts[k]? =_;rw [Qb hk])) h
  symm;refine ix ?_;symm;refine ⟨a,ds,es,Hs.go ds (ts.take k),tx [ts[k]],rfl,hH.same s',λ r er=>Hs.mJ wf er,?_⟩;rw [<- Hs.cD,<- etk];symm;refine ix ?_;symm;refine zB hnd mc ?_;have hwl:=Jw mc;symm;refine fP (s'.seq hW) ?_;rw [Qr];symm;have hkw:k%ws.length<ws.length:=Nat.mod_lt _ hw;rw [show (k:Int)%(ws.length:Int)=((k%ws.length:Nat):Int) from rfl];refine gh (s'.seq hW) (v:= .int (ws.getD (k%ws.length) 0)) (aJ (by rw [Zg,Qb hkw,Zb,Qb hkw];rfl)) ?_;have hwv:0<=ws.getD (k%ws.length) 0/\ws.getD (k%ws.length) 0<=1000:=by
   rw [Zb,Qb hkw];exact hwr _ (Zl hkw)
  rw [show ((wS ss (tx [ts[k]]):Nat):Int)+1=((wS ss (tx [ts[k]])+1:Nat):Int) from rfl];refine wV (by rfl') (by rfl') ?_;have hjn:=Ij (c:=ts[k]) hm hj;rw [<- etk] at hjn;have hb:0<=((wS ss (tx [ts[k]])+1:Nat):Int)*ws.getD (k%ws.length) 0:=Int.mul_nonneg (by rfl') hwv.1;have hb2:((wS ss (tx [ts[k]])+1:Nat):Int)*ws.getD (k%ws.length) 0<=60*1000:=Int.mul_le_mul (by rfl') hwv.2 hwv.1 (by decide);generalize ((wS ss (tx [ts[k]])+1:Nat):Int)*ws.getD (k%ws.length) 0=z at hjn hb hb2;symm;exact ⟨s',T+z,_,by rfl',by rfl',hjn,rfl⟩
 ·rintro σ H' ⟨s',T,o,h0,h1,hj,rfl⟩;rw [Yy] at hj;have g0:=Wp T (show (m:Int)≠0 by rfl');have g1:=Wh T (show (0:Int)<m by rfl');have hz:(T%(m:Int)).toNat<m:=by rfl'
  have e1:jT ss m ws ts / m=ts.length%ws.length:=by rw [hj,Xz,Nat.mul_add_div hm,Nat.div_eq_of_lt hz,Nat.add_zero]
  have e2:((jT ss m ws ts%m:Nat):Int)=T%(m:Int):=by rw [hj,Xz,Nat.mul_add_mod,Nat.mod_eq_of_lt hz];rfl'
  symm;refine gD hxl ?_;rw [bw];symm;refine fP (s'.seq hW) ?_;rw [Qr];symm;intro r hr;refine q r _ (s'.new hr) (s'.free hr) ?_;rw [au,e1,e2,Yy];rfl
theorem MJ (h:jF K vs H Q E):vs.length=5:=by
 unfold jF at h;obtain ⟨_,_,_,_,_,_,_,_,rfl,_⟩:=h;rfl
def jG (K:W.Frag):Sp:=λ vs H Q _=> ∃ (st pa w:Addr) (ws:List Int) (ss:List Nat) (m j c:Nat) (x y:Int),vs=[.ref st, .ref pa, .str (tx ss), .int m, .ref w]/\SqT K H st [.int ((j / m:Nat):Int), .int ((j%m:Nat):Int), .int x]/\SqT K H pa [.str (tx [c]), .int y]/\c∈ss/\SqL K H w (ws.map V.int)/\ss.Nodup/\ss.length<=60/\1<=m/\j / m<ws.length/\ ∀r H',Same H H'->H r=none->H' r=some (.tup [.int ((fX ss m ws j (tx [c]) / m:Nat):Int), .int ((fX ss m ws j (tx [c])%m:Nat):Int), .int y])->Q (.ref r) H'
def xZ (K:W.Frag) (E:XK) (Eh:XK):TS:=
  (aN (b7 (aj 0) (km K 3 (cN (aB 5) (cN (aB 6) (cN (aB 7) mV)))))
  (aN (b7 (aW dO (vO K "str" yM (aj 2) (ak (aW (bu K) (aj 1) (tC (V.int 0))) aF)) (tC (V.int 1))) (aB 8))
  (bV (ie (ak (aW bZ (aW dO (aj 5) (tC (V.int 1))) (d7 (cB K) (ak (aj 4) aF))) (ak (aW bZ (aW dO (aj 6) (aW jL (aj 8) (aW (gJ K) (aj 4) (aj 5)))) (aj 3)) (ak (aW (bu K) (aj 1) (tC (V.int 1))) aF)))))))
theorem MK (h:jG K vs H Q E): ∃Eh,xZ K E Eh { nx:=λ _ H'=>Q .non H',rt:=Q } (start ["state","pair","signs","many","wheel","turn","rest","room","worth"] vs) H:=by
 unfold jG at h;obtain ⟨st,pa,w,ws,ss,m,j,c,x,y,rfl,hst,hpa,hc,hW,hnd,hss,hm,hj,q⟩:=h;refine ⟨E0,?_⟩;unfold xZ;have hwl:=Jw hc;have hw:0<ws.length:=Xa (Yu _) hj;symm;refine gw hst rfl ?_;symm;refine bj hpa (aJ (j:=0) (v:= .str (tx [c])) rfl) ?_;symm;refine zB hnd hc ?_;symm;refine fP hW ?_;rw [Qr];symm;refine gh hW (v:= .int (ws.getD (j / m) 0)) (aJ (by rw [Zg,Qb hj,Zb,Qb hj];rfl)) ?_;rw [show ((wS ss (tx [c]):Nat):Int)+1=((wS ss (tx [c])+1:Nat):Int) from rfl];refine wV (by rfl') (by rfl') ?_;symm;refine bj hpa (aJ (j:=1) (v:= .int y) rfl) ?_;symm;intro r hr;refine q r _ (aH hr _) hr ?_;rw [au,(tK hm).1,(tK hm).2];rfl
theorem MN (h:jG K vs H Q E):vs.length=5:=by
 unfold jG at h;obtain ⟨_,_,_,_,_,_,_,_,_,_,rfl,_⟩:=h;rfl
def lW (K:W.Frag):Sp:=λ vs H Q _=> ∃ (h w:Addr) (ds:L2S) (es ws:List Int) (ss:List Nat) (m:Nat),vs=[.ref h, .str (tx ss), .int m, .ref w]/\HsT K H h ds es/\Hs.Wf ds/\(∀ps∈ds,∀p∈ps,∃c∈ss,p.1=tx [c])/\(∀ps∈ds,ps.length<=60)/\SqL K H w (ws.map V.int)/\ss.Nodup/\ss.length<=60/\1<=m/\1<=ws.length/\nV m ws ds<=1000/\ ∀ (d:Addr) (H':Hp),H d=none->Same H H'->H' d=some (.dT (dS ds.length m (bR (gk ss m ws ds) (jE m ws ds es) (nV m ws ds))))->Q (.ref d) H'
def yc (K:W.Frag) (E:XK) (Eh:XK):TS:=
  (aN (b7 vQ (aB 4))
  (aN (dG (iG (ak (aW jL (aW jL (d7 (cB K) (ak (aj 3) aF)) (aj 2)) (d7 (cB K) (ak (aW (bu K) (aj 0) (tC (V.int 0))) aF))) aF)) (aB 5) (aN (b7 (aW bZ (aj 5) (d7 (cB K) (ak (aW (bu K) (aj 0) (tC (V.int 0))) aF))) (aB 6))
  (aN (b7 (ie (ak (aW cJ (aW cJ (aj 5) (d7 (cB K) (ak (aW (bu K) (aj 0) (tC (V.int 0))) aF))) (aj 2)) (ak (aW bZ (aW cJ (aj 5) (d7 (cB K) (ak (aW (bu K) (aj 0) (tC (V.int 0))) aF))) (aj 2)) (ak (aj 6) aF)))) (aB 7))
  (aN (je (aj 4) (aj 7) (tC V.non))
  (cu (jk (bh (aW pJ (aW (bu K) (aj 7) (tC (V.int 1))) (tC (V.int 0)))) (bh (aW (vN K false) (aj 6) (aW (bu K) (aj 0) (tC (V.int 1)))))) (je (aj 4) (aj 7) (tC (V.int 0))) bD)))))
  (aN (dG (iG (ak (d7 Dq (ak (aj 4) aF)) aF)) (aB 8) (dG (dF K (d7 sy (ak (aj 4) aF))) (aB 7) (aN (b7 (qt [none,some 7,some 1,some 2,some 3] (mW K (aW (bu K) (aW (bu K) (aj 0) (tC (V.int 0))) (aW (bu K) (aj 7) (tC (V.int 2))))) (aB 0) eY (aX (jG K) [] E0 (ak (aj 1) (ak (aj 0) (ak (aj 2) (ak (aj 3) (ak (aj 4) aF))))))) (aB 9))
  (cu (jk (bh (aW gP (g8 (aj 4) (aj 7)) (tC V.non))) (kY K (d7 (Hr K) (ak (qt [none,some 4,some 8] (dF K (aj 9)) (aB 0) eY (aW pJ (g8 (aj 1) (aj 0)) (aj 2))) aF)))) (je (aj 4) (aj 7) (aW dO (aj 8) (tC (V.int 1)))) bD))))
  (bV (aj 4)))))
theorem MP (h:lW K vs H Q E): ∃Eh,yc K E Eh { nx:=λ _ H'=>Q .non H',rt:=Q } (start ["house","signs","many","wheel","deep","place","room","state","far","ways"] vs) H:=by
 unfold lW at h;obtain ⟨h,w,ds,es,ws,ss,m,rfl,hH,wf,hsg,hrl60,hW,hnd,hss,hm,hw,hn,q⟩:=h;refine ⟨E0,?_⟩;unfold yc;obtain ⟨d,e,rs,h1,ers,h3,h4,h5⟩:=hH;have hrl:rs.length=ds.length:=by rw [<- ers,Qr]
 have hR:=wf.pos;have dsx: ∀ (x:Nat) (hx:x<rs.length),ds[x]? =some rs[x].2:=λ x hx=>by rw [<- ers,Zg,Qb hx];rfl
 have i0: ∀ {H':Hp} {Q:VK},Same H H'->Q (.ref d) H'->bu K (.ref h) (.int 0) H' Q:=λ s h=>bj (SqT.of (s.get h1)) (aJ (j:=0) (v:= .ref d) rfl) h
 have i1: ∀ {H':Hp} {Q:VK},Same H H'->Q (.ref e) H'->bu K (.ref h) (.int 1) H' Q:=λ s h=>bj (SqT.of (s.get h1)) (aJ (j:=1) (v:= .ref e) rfl) h
 have ln: ∀ {H':Hp} {Q:VK},Same H H'->Q (.int (ds.length:Int)) H'->cB K [.ref d] H' Q:=λ s h=>gA (SqT.of (s.get h3)) (by rw [Qr,hrl];exact h)
 have hWm:ws.length*m*ds.length=nV m ws ds:=by unfold nV;rw [Xz ws.length]
 have hWle:ws.length<=1000:=Zw (Zw (Nat.le_mul_of_pos_right _ hm) (Nat.le_mul_of_pos_right _ hR)) (hWm▸hn);have hWm1:ws.length*m<=1000:=Zw (Nat.le_mul_of_pos_right _ hR) (hWm▸hn);have hRle:ds.length<=1000:=Zw (Nat.le_mul_of_pos_left _ (Nat.mul_pos hw hm)) (hWm▸hn);have hmle:m<=1000:=Zw (Nat.le_mul_of_pos_left _ hw) hWm1;symm;intro p hp;symm;refine fP ((aH hp _).seq hW) ?_;rw [Qr];symm;refine i0 (aH hp _) ?_;symm;refine ln (aH hp _) ?_;refine wV (i:=((ws.length*m:Nat):Int)) (by rfl') (by rfl') ?_;rw [show ((ws.length*m:Nat):Int)*(ds.length:Int)=((nV m ws ds:Nat):Int) from by rw [<- hWm];rfl];symm;have hVl:(bR (gk ss m ws ds) (jE m ws ds es) 0).length=nV m ws ds:=by rw [fQ,gm]
 have h0a: ∀i,i<nV m ws ds->(bR (gk ss m ws ds) (jE m ws ds es) 0).take (i+1)=(bR (gk ss m ws ds) (jE m ws ds es) 0).take i++[if (i:Int)∈jE m ws ds es then some 0 else none]:=λ i hi=>by
  rw [Yj,Qb (by rw [hVl];exact hi)];unfold bR;rw [Xf,List.getElem_range];rfl
 refine uY (nV m ws ds) (Zi _) (by rfl') (by rfl') (λ i σ H'=>Same H H'/\H' p=some (.dT (dS ds.length m ((bR (gk ss m ws ds) (jE m ws ds es) 0).take i)))/\ ∃o5 o6 o7 o8 o9:Option V,σ=[some (.ref h),some (.str (tx ss)),some (.int m),some (.ref w),some (.ref p),o5,o6,o7,o8,o9]) ⟨aH hp _,by rw [au];rfl,none,none,none,none,none,rfl⟩ ?_ ?_
 ·rintro i σ H' hi ⟨s',hp',o5,o6,o7,o8,o9,rfl⟩;symm;refine i0 s' ?_;symm;refine ln s' ?_;symm;refine i0 s' ?_;symm;refine ln s' ?_;symm;refine i0 s' ?_;symm;refine ln s' ?_;symm;intro st hst;symm;have hps:p≠st:=aU hp' hst;have htl:((bR (gk ss m ws ds) (jE m ws ds es) 0).take i).length=i:=by rw [Ys,hVl];rfl'
  have est:upd H' st (.tup [.int ((i:Int) / (ds.length:Int) / (m:Int)), .int ((i:Int) / (ds.length:Int)%(m:Int)), .int ((i:Int)%(ds.length:Int))]) st=some (.tup ((mQ ds.length m i).map kV)):=au;have ep:upd H' st (.tup [.int ((i:Int) / (ds.length:Int) / (m:Int)), .int ((i:Int) / (ds.length:Int)%(m:Int)), .int ((i:Int)%(ds.length:Int))]) p=some (.dT (dS ds.length m ((bR (gk ss m ws ds) (jE m ws ds es) 0).take i))):=aO hst hp';have s2:Same H (upd H' st (.tup [.int ((i:Int) / (ds.length:Int) / (m:Int)), .int ((i:Int) / (ds.length:Int)%(m:Int)), .int ((i:Int)%(ds.length:Int))])):=s'.new hst;generalize upd H' st (.tup [.int ((i:Int) / (ds.length:Int) / (m:Int)), .int ((i:Int) / (ds.length:Int)%(m:Int)), .int ((i:Int)%(ds.length:Int))])=H2 at est ep s2;have put: ∀ {H3:Hp} (u:HO),Same H H3->Same H (upd H3 p u):=λ {H3} u s b v hb=>by rw [aD (λ z=>by rw [z,hp] at hb;cases hb)];exact s b v hb
  refine ⟨p,_,rfl, .inr ⟨_,_,st,ep,rfl,est,by rw [lV,htl,PySem.sizeLine_eq];rfl',rfl⟩,?_⟩;have e1:=Ik ds.length m ((bR (gk ss m ws ds) (jE m ws ds es) 0).take i) none;rw [htl] at e1;rw [show (V.non:V)=ov none from rfl,e1];have s3:=put (.dT (dS ds.length m ((bR (gk ss m ws ds) (jE m ws ds es) 0).take i++[none]))) s2;have ep3:upd H2 p (.dT (dS ds.length m ((bR (gk ss m ws ds) (jE m ws ds es) 0).take i++[none]))) p=some (.dT (dS ds.length m ((bR (gk ss m ws ds) (jE m ws ds es) 0).take i++[none]))):=au;have est3:upd H2 p (.dT (dS ds.length m ((bR (gk ss m ws ds) (jE m ws ds es) 0).take i++[none]))) st=some (.tup ((mQ ds.length m i).map kV)):=by rw [aD hps.symm];exact est
  generalize upd H2 p (.dT (dS ds.length m ((bR (gk ss m ws ds) (jE m ws ds es) 0).take i++[none])))=H3 at s3 ep3 est3;symm;refine bj (SqT.of est3) (aJ (j:=1) (v:= .int ((i / ds.length%m:Nat):Int)) rfl) ?_;symm;refine fG (λ c1=> ?_) λ c1=> ?_
  ·symm;refine i1 s3 ?_;refine wR (xs:=es.map V.int) (.inr (SqT.of (s3.get h5))) rfl (eZ _) ?_;rw [fH];symm;refine fG (λ c2=> ?_) λ c2=> ?_
   ·symm;refine ⟨p,_,rfl, .inr ⟨_,_,st,ep3,rfl,est3,by rw [lV,Yl,htl,PySem.sizeLine_eq];simp;rfl',rfl⟩,?_⟩;symm;refine ⟨put _ s3,?_,_,_,_,_,_,rfl⟩;rw [au,h0a i hi,if_pos ((nR hi).mpr ⟨by rfl',c2⟩)];have e2:=FQ (R:=ds.length) (m:=m) (p:=i) (a:=(bR (gk ss m ws ds) (jE m ws ds es) 0).take i++[none]) (by rw [Yl,htl];simp) (some 0);rw [show (V.int 0:V)=ov (some 0) from rfl,e2,List.set_append_right _ _ (by rw [htl];exact Zn _),htl,Nat.sub_self];rfl
   ·symm;refine ⟨s3,?_,_,_,_,_,_,rfl⟩;rw [ep3,h0a i hi,if_neg λ h=>c2 ((nR hi).mp h).2]
  ·symm;refine ⟨s3,?_,_,_,_,_,_,rfl⟩;rw [ep3,h0a i hi,if_neg λ h=>c1 (by have:=((nR hi).mp h).1;rfl')]
 ·rintro σ H1 ⟨s1,hp1,o5,o6,o7,o8,o9,rfl⟩;rw [Xy (by rw [hVl];exact Zn _)] at hp1;symm;refine KR hp1 ?_;rw [lV,hVl];symm;have put: ∀ {H3:Hp} (u:HO),Same H H3->Same H (upd H3 p u):=λ {H3} u s b v hb=>by rw [aD (λ z=>by rw [z,hp] at hb;cases hb)];exact s b v hb
  refine uY (nV m ws ds) (Zi _) (by rfl') (by rfl') (λ i σ H'=>Same H H'/\H' p=some (.dT (dS ds.length m (bR (gk ss m ws ds) (jE m ws ds es) i)))/\ ∃o5 o6 o7 o8 o9:Option V,σ=[some (.ref h),some (.str (tx ss)),some (.int m),some (.ref w),some (.ref p),o5,o6,o7,o8,o9]) ⟨s1,hp1,_,_,_,_,_,rfl⟩ ?_ ?_
  ·rintro i σ H2 hi ⟨s2,hp2,o5,o6,o7,o8,o9,rfl⟩;have hD:=vd (gk ss m ws ds) (jE m ws ds es) i;have hal:(bR (gk ss m ws ds) (jE m ws ds es) i).length=nV m ws ds:=by rw [fQ,gm]
   have ea:some (HO.dT (dS ds.length m (dj (gk ss m ws ds) (bR (gk ss m ws ds) (jE m ws ds es) i) (i:Int))))=some (HO.dT (dS ds.length m (bR (gk ss m ws ds) (jE m ws ds es) (i+1)))):=rfl;generalize eaa:bR (gk ss m ws ds) (jE m ws ds es) i=a at hD hal hp2 ea;symm;refine Ey hp2 (by rw [lV,hal];rfl') λ l zs hl hzk hz=> ?_
   have hzl:zs.length=nV m ws ds:=by have:=Yn List.length hzk;rw [Qr,Qr,lV,hal] at this;exact this
   have hzat: ∀ (j:Nat) z,zs[j]? =some z->z.2=mQ ds.length m j:=λ j z hj=>by
    have:=Yn (λ l:List (List Key)=>l[j]?) hzk;have hjl:j<(List.range a.length).length:=by rw [Yv,hal,<- hzl];exact (Zf.mp hj).1
    simp only [Zg,hj,Option.map_some] at this;unfold dS at this;rw [Zg,Qb hjl,List.getElem_range] at this;exact Zx this
   have hlp:p≠l:=aU hp2 hl;have hzp: ∀z∈zs,z.1≠p:=λ z mz e=>by have:=hz z mz;rw [e,hp2] at this;cases this
   symm;refine jQ (λ z:Addr×List Key=>V.ref z.1) (zs:=zs) (SqL.of au) (λ j σ H'=>Same H H'/\H' l=some (.lst (zs.map λ z=>V.ref z.1))/\(∀z∈zs,H' z.1=some (.tup (z.2.map kV)))/\(∃xs:List (Option Int),H' p=some (.dT (dS ds.length m xs))/\xs.length=nV m ws ds/\ ∀r:Nat,r<nV m ws ds->xs.getD r none=if r<j then tZ (gk ss m ws ds) a (i:Int) r else a.getD r none)/\ ∃o5 o6 o7 o9:Option V,σ=[some (.ref h),some (.str (tx ss)),some (.int m),some (.ref w),some (.ref p),o5,o6,o7,some (.int (i:Int)),o9]) ⟨s2.new hl,au,λ z mz=>aO hl (hz z mz),⟨a,aO hl hp2,hal,λ r hr=>by rw [if_neg (Nat.not_lt_zero _)]⟩,_,_,_,_,rfl⟩ ?_ ?_ ?_
   ·rintro j σ H' ⟨_,hl',_⟩;exact SqL.of hl'
   ·rintro j z σ H' hj ⟨s',hl',hz',⟨xs,hp',hxl,hxs⟩,o5,o6,o7,o9,rfl⟩;have hjn:j<nV m ws ds:=by rw [<- hzl];exact (Zf.mp hj).1
    have hzt:=hz' z (Zj hj);rw [hzat j z hj] at hzt;have hzne:=hzp z (Zj hj);have hx:j%ds.length<ds.length:=Nat.mod_lt _ hR;have hxr:j%ds.length<rs.length:=by rw [hrl];exact hx
    have hJ:j / ds.length / m<ws.length:=by
     rw [Nat.div_lt_iff_lt_mul hm,Nat.div_lt_iff_lt_mul hR,hWm];exact hjn
    have edg:ds.getD (j%ds.length) []=rs[j%ds.length].2:=by rw [Zb,dsx _ hxr];rfl
    obtain ⟨dz,edz,hdz,hdz2⟩:=h4 rs[j%ds.length] (Zl hxr);have hdm:rs[j%ds.length].2∈ds:=Zj (dsx _ hxr);have hdl:dz.length<=60:=by have:=hrl60 _ hdm;rw [<- edz,Qr] at this;exact this
    symm;refine i0 s' ?_;symm;refine bj (SqT.of hzt) (aJ (j:=2) (v:= .int ((j%ds.length:Nat):Int)) rfl) ?_;refine bj (SqT.of (s'.get h3)) (aJ (v:= .ref rs[j%ds.length].1) (by rw [Zg,Qb hxr];rfl)) ?_;refine Q0 (λ y:Addr×Str×Int=>V.ref y.1) (zs:=dz) (SqT.of (s'.get hdz)) (by rfl') (λ k ys H''=> ∃as:List (Addr×Nat),ys=as.map (λ z=>V.ref z.1)/\as.map (·.2)=(dz.take k).map (λ y:Addr×Str×Int=>fX ss m ws (j / ds.length) y.2.1*ds.length+y.2.2.toNat)/\Same H' H''/\ ∀z∈as,H'' z.1=some (.tup ((mQ ds.length m z.2).map kV))) ⟨[],rfl,rfl,Same.refl _,by simp⟩ ?_ ?_ ?_ ?_
    ·rintro k ys H'' ⟨as,_,_,s'',_⟩;exact SqT.of ((s'.trans s'').get hdz)
    ·rintro k ys H'' ⟨as,rfl,e,_⟩;have:=Yn List.length e;rw [Qr,Qr,Ys] at this;rw [Qr];rfl'
    ·rintro k y ys H'' hy ⟨as,rfl,eas,s'',has⟩;have my:=Zj hy;have myr:y.2∈rs[j%ds.length].2:=by rw [<- edz];exact Zc.mpr ⟨y,my,rfl⟩
     obtain ⟨c,mc,ec⟩:=hsg _ hdm _ myr;have hyr:=wf.rm _ hdm _ myr;have hS:=s'.trans s'';symm;refine ⟨z.1,y.1,w,ws,ss,m,j / ds.length,c,((j%ds.length:Nat):Int),y.2.2,rfl,SqT.of (s''.get hzt),SqT.of (by rw [<- ec];exact hS.get (hdz2 y my)),mc,hS.seq hW,hnd,hss,hm,hJ,λ r H3 s3 hr er=> ?_⟩;refine ⟨as++[(r,fX ss m ws (j / ds.length) y.2.1*ds.length+y.2.2.toNat)],by rw [Zq];rfl,?_,s''.trans s3,λ z mz=> ?_⟩
     ·rw [Zq,eas,Yj,hy,Zq];rfl
     ·rcases Zv.mp mz with mz | mz
      ·exact s3.get (has z mz)
      ·rw [Ze.mp mz];show H3 r=some (.tup ((mQ ds.length m (fX ss m ws (j / ds.length) y.2.1*ds.length+y.2.2.toNat)).map kV));rw [xX (by rfl'),er,ec];show _=some (HO.tup [V.int _,V.int _,V.int ((y.2.2.toNat:Nat):Int)]);rw [Yx hyr.1]
    ·rintro ys H3 ⟨as,rfl,eas,s3,has⟩ wy hwy;rw [Yy] at eas;have s4:Same H' (upd H3 wy (.lst (as.map λ z=>V.ref z.1))):=s3.new hwy;have ewy:upd H3 wy (.lst (as.map λ z=>V.ref z.1)) wy=some (.lst (as.map λ z=>V.ref z.1)):=au;replace has: ∀z∈as,upd H3 wy (.lst (as.map λ z=>V.ref z.1)) z.1=some (.tup ((mQ ds.length m z.2).map kV)):=λ z mz=>aO hwy (has z mz)
     generalize upd H3 wy (.lst (as.map λ z=>V.ref z.1))=H4 at s4 ewy has;have hpk:=s4.get hp';have hzk':=s4.get hzt;have ej:xs.getD j none=a.getD j none:=by rw [hxs j hjn,if_neg (Wd _)]
     have eD: ∀r:Nat,xs.getD r none=some (i:Int)↔a.getD r none=some (i:Int):=λ r=>by
      by_cases hr:r<nV m ws ds
      ·rw [hxs r hr];by_cases c:r<j
       ·rw [if_pos c];have:=eN hD r (i:Int) (Int.le_refl _);rw [dC hD.len,if_pos (by rw [gm];exact hr)] at this;exact this
       ·rw [if_neg c]
      ·rw [Zb,Yb (by rfl'),Zb,Yb (by rfl')]
     have keep:(tZ (gk ss m ws ds) a (i:Int) j=a.getD j none)-> ∀r:Nat,r<nV m ws ds->xs.getD r none=if r<j+1 then tZ (gk ss m ws ds) a (i:Int) r else a.getD r none:=λ hk r hr=>by
      rw [hxs r hr];by_cases c:r=j
      ·subst c;rw [if_neg (Wd _),if_pos (Nat.lt_succ_self _),hk]
      ·by_cases c2:r<j
       ·rw [if_pos c2,if_pos (by rfl')]
       ·rw [if_neg c2,if_neg (by rfl')]
     have hasl: ∀q∈as,q.2<nV m ws ds:=λ q mq=>by
      have:q.2∈as.map (·.2):=Zc.mpr ⟨q,mq,rfl⟩;rw [eas] at this;obtain ⟨y,my,ey⟩:=Zc.mp this;have myr:y.2∈rs[j%ds.length].2:=by rw [<- edz];exact Zc.mpr ⟨y,my,rfl⟩
      rw [<- ey];exact zF (tL hm hw) (by have:=wf.rm _ hdm _ myr;rfl')
     have hhas:qJ (gk ss m ws ds) a j (i:Int)↔ ∃q∈as,xs.getD q.2 none=some (i:Int):=by
      unfold qJ;rw [xR hjn];unfold tM;rw [edg,<- edz,Zk];constructor
      ·rintro ⟨y',my',ey⟩;obtain ⟨y,my,rfl⟩:=Zc.mp my';have:fX ss m ws (j / ds.length) y.2.1*ds.length+y.2.2.toNat∈as.map (·.2):=by rw [eas];exact Zc.mpr ⟨y,my,rfl⟩
       obtain ⟨q,mq,eq⟩:=Zc.mp this;have myr:y.2∈rs[j%ds.length].2:=by rw [<- edz];exact Zc.mpr ⟨y,my,rfl⟩
       have:=wf.rm _ hdm _ myr;refine ⟨q,mq,(eD _).mpr ?_⟩;rw [eq,<- ey];congr 1;show _=(((fX ss m ws (j / ds.length) y.2.1*ds.length:Nat):Int)+y.2.2).toNat;rfl'
      ·rintro ⟨q,mq,eq⟩;have:q.2∈as.map (·.2):=Zc.mpr ⟨q,mq,rfl⟩;rw [eas] at this;obtain ⟨y,my,ey⟩:=Zc.mp this;have myr:y.2∈rs[j%ds.length].2:=by rw [<- edz];exact Zc.mpr ⟨y,my,rfl⟩
       have:=wf.rm _ hdm _ myr;refine ⟨_,Zc.mpr ⟨y,my,rfl⟩,?_⟩;rw [<- (eD q.2).mp eq,<- ey];congr 1;show (((fX ss m ws (j / ds.length) y.2.1*ds.length:Nat):Int)+y.2.2).toNat=_;rfl'
     have dg: ∀ {q:Addr×Nat} {H5:Hp},H5 p=some (.dT (dS ds.length m xs))->H5 q.1=some (.tup ((mQ ds.length m q.2).map kV))->q.2<nV m ws ds->DGet H5 p (.ref q.1) (some (ov (xs.getD q.2 none))):=λ {q H5} e1 e2 e3=> .inr ⟨_,_,q.1, .inl e1,rfl,e2,(xW (by rw [hxl];exact e3)).symm⟩
     symm;refine ⟨p,_,rfl,dg (q:=(z.1,j)) hpk hzk' hjn,?_⟩;show tC V.non _ _ _;symm;rw [ej]
     cases eo:a.getD j none with
     | some v=>
      refine mG (λ z=>nomatch z) ?_;symm;refine ⟨s'.trans s4,s4.get hl',λ z mz=>s4.get (hz' z mz),⟨xs,hpk,hxl,keep ?_⟩,_,_,_,_,rfl⟩;unfold tZ;rw [if_neg (λ c=>by rw [eo] at c;cases c.1)]
     | none=>
      show if decide (V.non=V.non)=true then _ else _
      symm;refine Ea (λ q:Addr×Nat=>V.ref q.1) (SqL.of ewy) (by have:=Yn List.length eas;rw [Qr,Qr] at this;rfl') (λ q=>V.bl (decide (xs.getD q.2 none=some (i:Int)))) (λ k q hq A kA=> ?_) λ r hr=> ?_
      ·have mq:=Zj hq;symm;refine ⟨p,_,rfl,dg hpk (has q mq) (hasl q mq),?_⟩;symm;have key:decide (ov (xs.getD q.2 none)= .int (i:Int))=decide (xs.getD q.2 none=some (i:Int)):=by
        cases xs.getD q.2 none with
        | none=>simp [ov]
        | some e=>simp [ov]
       refine s_eq (x:=ov (xs.getD q.2 none)) (y:= .int (i:Int)) (by cases xs.getD q.2 none<;>rfl) ?_;rw [key];exact kA
      ·symm;refine Q3 (bs:=as.map λ q=>decide (xs.getD q.2 none=some (i:Int))) (SqL.of (by rw [au,Zk];rfl)) ?_;symm;have s5:=s4.new (o:=HO.lst (as.map λ q=>V.bl (decide (xs.getD q.2 none=some (i:Int))))) hr;have any_iff:(as.map λ q=>decide (xs.getD q.2 none=some (i:Int))).any id=true↔qJ (gk ss m ws ds) a j (i:Int):=by
        rw [hhas,List.any_eq_true];constructor
        ·rintro ⟨b,mb,eb⟩;obtain ⟨q,mq,rfl⟩:=Zc.mp mb;exact ⟨q,mq,Ww eb⟩
        ·rintro ⟨q,mq,eq⟩;exact ⟨_,Zc.mpr ⟨q,mq,rfl⟩,Yh eq⟩
       refine Hu (λ c=> ?_) λ c=> ?_
       ·have hh:=any_iff.mp c;symm;refine ⟨p,_,rfl, .inr ⟨_,_,z.1,s5.get hp',rfl,s5.get hzt,by rw [lV,hxl,PySem.sizeLine_eq];rfl',rfl⟩,?_⟩;have e2:=FQ (R:=ds.length) (m:=m) (p:=j) (a:=xs) (by rw [hxl];exact hjn) (some ((i:Int)+1));rw [show (V.int ((i:Int)+1):V)=ov (some ((i:Int)+1)) from rfl,e2];symm;refine ⟨put _ (s'.trans s5),by rw [aD hlp.symm];exact s5.get hl',λ z mz=>by rw [aD (hzp z mz)];exact s5.get (hz' z mz),⟨xs.set j (some ((i:Int)+1)),au,by rw [List.length_set];exact hxl,λ r hr=> ?_⟩,_,_,_,_,rfl⟩;by_cases c:r=j
        ·subst c;rw [if_pos (Nat.lt_succ_self _),Zb,List.getElem?_set_self (by rfl')];unfold tZ;rw [if_pos ⟨eo,hh⟩];rfl
        ·rw [Zb,List.getElem?_set_ne (λ z=>c z.symm),<- Zb,hxs r hr];by_cases c2:r<j
         ·rw [if_pos c2,if_pos (by rfl')]
         ·rw [if_neg c2,if_neg (by rfl')]
       ·symm;refine ⟨s'.trans s5,s5.get hl',λ z mz=>s5.get (hz' z mz),⟨xs,s5.get hp',hxl,keep ?_⟩,_,_,_,_,rfl⟩;unfold tZ;rw [if_neg];rintro ⟨_,hh⟩;rw [any_iff.mpr hh] at c
        cases c
   ·rintro σ H' ⟨s',hl',hz',⟨xs,hp',hxl,hxs⟩,o5,o6,o7,o9,rfl⟩;symm;refine ⟨s',?_,_,_,_,_,_,rfl⟩;rw [hp',show xs=dj (gk ss m ws ds) a (i:Int) from ?_]
    ·exact ea
    ·refine List.ext_getElem (by rw [hxl];unfold dj;rw [Qr,Yv,gm]) λ r g1 g2=> ?_
     have hr:r<nV m ws ds:=by rfl'
     have a1:=hxs r hr;rw [if_pos (by rfl'),Zb,Qb g1] at a1;have a2:=dC (D:=(i:Int)) hD.len r;rw [if_pos (by rw [gm];exact hr),Zb,Qb g2] at a2;exact (show xs[r]=_ from a1).trans (show (dj (gk ss m ws ds) a (i:Int))[r]=_ from a2).symm
  ·rintro σ H' ⟨s',hp',o5,o6,o7,o8,o9,rfl⟩;symm;exact q p H' hp s' hp'
theorem MT (h:lW K vs H Q E):vs.length=4:=by
 unfold lW at h;obtain ⟨_,_,_,_,_,_,_,rfl,_⟩:=h;rfl
def lX (K:W.Frag):Sp:=λ vs H Q _=> ∃ (h w d st:Addr) (ds:L2S) (es ws:List Int) (ss:List Nat) (m j:Nat) (a:List (Option Int)) (o:Option Int),vs=[.ref h, .str (tx ss), .int m, .ref w, .ref d, .ref st]/\HsT K H h ds es/\Hs.Wf ds/\(∀ps∈ds,∀p∈ps,∃c∈ss,p.1=tx [c])/\SqL K H w (ws.map V.int)/\ss.Nodup/\ss.length<=60/\1<=m/\1<=ws.length/\nV m ws ds<=1000/\H d=some (.dT (dS ds.length m a))/\Dep (gk ss m ws ds) (jE m ws ds es) a ((nV m ws ds:Nat):Int)/\H st=some (.tup [.int ((j / m:Nat):Int), .int ((j%m:Nat):Int),ov o])/\j<m*ws.length/\(∀x,o=some x->0<=x/\x<ds.length)/\((∀x,o=some x->a.getD (j*ds.length+x.toNat) none=none)-> ∀H',Same H H'->Q .non H')/\ ∀x dd us,o=some x->a.getD (j*ds.length+x.toNat) none=some dd->TailR (gk ss m ws ds) a ((j*ds.length+x.toNat:Nat):Int) dd us-> ∀H',Same H H'->Q (.str (tx us)) H'
def yd (K:W.Frag) (E:XK) (Eh:XK):TS:=
  (aN (cu (Gf (bh (aW gP (aW (bu K) (aj 5) (tC (V.int 2))) (tC V.non))) (bh (aW gP (g8 (aj 4) (aj 5)) (tC V.non)))) (bV (tC V.non)) bD)
  (aN (b7 (tC (V.str (Str.ofString ""))) (aB 6))
  (aN (jl (bh (aW Cq (g8 (aj 4) (aj 5)) (tC (V.int 0)))) (dG (mW K (aW (bu K) (aW (bu K) (aj 0) (tC (V.int 0))) (aW (bu K) (aj 5) (tC (V.int 2))))) (aB 7) (aN (b7 (aX (jG K) [] E0 (ak (aj 5) (ak (aj 7) (ak (aj 1) (ak (aj 2) (ak (aj 3) aF)))))) (aB 8))
  (cu (jk (bh (aW ir (g8 (aj 4) (aj 8)) (tC V.non))) (bh (aW pJ (aW dO (g8 (aj 4) (aj 8)) (tC (V.int 1))) (g8 (aj 4) (aj 5))))) (aN (b7 (aW eF (aj 6) (aW (bu K) (aj 7) (tC (V.int 0)))) (aB 6))
  (aN (b7 (aj 8) (aB 5))
  vB)) bD))))
  (bV (aj 6)))))
theorem N5 (h:lX K vs H Q E): ∃Eh,yd K E Eh { nx:=λ _ H'=>Q .non H',rt:=Q } (start ["house","signs","many","wheel","deep","state","told","pair","way"] vs) H:=by
 unfold lX at h;obtain ⟨h,w,d,st,ds,es,ws,ss,m,j,a,o,rfl,hH,wf,hsg,hW,hnd,hss,hm,hw,hn,hd,hD,hst,hj,ho,qn,q⟩:=h;refine ⟨E0,?_⟩;unfold yd;obtain ⟨dr,e,rs,h1,ers,h3,h4,h5⟩:=hH;have hrl:rs.length=ds.length:=by rw [<- ers,Qr]
 have hR:=wf.pos;have dsx: ∀ (x:Nat) (hx:x<rs.length),ds[x]? =some rs[x].2:=λ x hx=>by rw [<- ers,Zg,Qb hx];rfl
 have hal:a.length=nV m ws ds:=by rw [hD.len,gm]
 have dg: ∀ {b:Addr} {p:Nat} {H5:Hp},Same H H5->H5 b=some (.tup ((mQ ds.length m p).map kV))->p<nV m ws ds->DGet H5 d (.ref b) (some (ov (a.getD p none))):=λ {b p H5} s e2 e3=> .inr ⟨_,_,b, .inl (s.get hd),rfl,e2,(xW (by rw [hal];exact e3)).symm⟩
 symm;refine bj (SqT.of hst) (aJ (j:=2) (v:=ov o) rfl) ?_;symm
 cases eo:o with
 | none=>
  show if decide (V.non=V.non)=true then _ else _
  symm;exact qn (λ x e=>by rw [eo] at e;cases e) _ (Same.refl _)
 | some x0=>
  obtain ⟨x0',rfl⟩: ∃n:Nat,x0=(n:Int):=⟨x0.toNat,by have:=(ho x0 eo).1;rfl'⟩;have hx0:x0'<ds.length:=by have:=(ho _ eo).2;rfl'
  have hst':H st=some (.tup ((mQ ds.length m (j*ds.length+x0')).map kV)):=by rw [hst,xX hx0,eo];rfl
  have hp0:j*ds.length+x0'<nV m ws ds:=zF hj hx0;refine mG (λ z=>nomatch z) ?_;symm;refine ⟨d,_,rfl,dg (Same.refl _) hst' hp0,?_⟩;symm
  cases ea:a.getD (j*ds.length+x0') none with
  | none=>
   show if decide (V.non=V.non)=true then _ else _
   symm;exact qn (λ x e=>by rw [eo] at e;cases e;exact ea) _ (Same.refl _)
  | some d0=>
   have hd0:=hD.up _ _ ea;refine mG (λ z=>nomatch z) ?_;symm;walk_at "ns";refine Ez (λ n σ H'=> ∃ (p:Nat) (dd:Int) (cs:List Nat) (sa:Addr) (o7 o8:Option V),dd.toNat=n/\Same H H'/\H' sa=some (.tup ((mQ ds.length m p).map kV))/\p<nV m ws ds/\a.getD p none=some dd/\0<=dd/\(cs.length:Int)+dd=d0/\(∀us,TailR (gk ss m ws ds) a (p:Int) dd us->TailR (gk ss m ws ds) a ((j*ds.length+x0':Nat):Int) d0 (cs++us))/\σ=[some (.ref h),some (.str (tx ss)),some (.int m),some (.ref w),some (.ref d),some (.ref sa),some (.str (tx cs)),o7,o8]) d0.toNat ⟨_,_,[],st,none,none,rfl,Same.refl _,hst',hp0,ea,hd0.1,by simp,λ us hu=>hu,rfl⟩ ?_ ?_
   ·rintro n σ H2 N ⟨p,dd,cs,sa,o7,o8,rfl,s2,hsa,hp,ed,hdd,hcd,ht,rfl⟩ hN;symm;refine ⟨d,_,rfl,dg s2 hsa hp,?_⟩;rw [ed];symm;show Cq (.int dd) (.int 0) _ _;symm;refine fG (λ c=> ?_) λ c=> ?_
    ·have hx:p%ds.length<ds.length:=Nat.mod_lt _ hR;have hxr:p%ds.length<rs.length:=by rw [hrl];exact hx
     have hJ:p / ds.length<m*ws.length:=(Nat.div_lt_iff_lt_mul hR).mpr hp;have hJm:p / ds.length / m<ws.length:=by rw [Nat.div_lt_iff_lt_mul hm,Xz];exact hJ
     have edg:ds.getD (p%ds.length) []=rs[p%ds.length].2:=by rw [Zb,dsx _ hxr];rfl
     have hdm:rs[p%ds.length].2∈ds:=Zj (dsx _ hxr);obtain ⟨dz,edz,hdz,hdz2⟩:=h4 rs[p%ds.length] (Zl hxr);have erow:(gk ss m ws ds).getD p []=dz.map λ y:Addr×Str×Int=>(y.2.1,((fX ss m ws (p / ds.length) y.2.1*ds.length:Nat):Int)+y.2.2):=by
      rw [xR hp];unfold tM;rw [edg,<- edz,Zk];rfl
     have hyr: ∀y∈dz,(∃c∈ss,y.2.1=tx [c])/\0<=y.2.2/\y.2.2<ds.length:=λ y my=>by
      have myr:y.2∈rs[p%ds.length].2:=by rw [<- edz];exact Zc.mpr ⟨y,my,rfl⟩
      exact ⟨hsg _ hdm _ myr,wf.rm _ hdm _ myr⟩
     symm;refine bj (SqT.of (s2.get h1)) (aJ (j:=0) (v:= .ref dr) rfl) ?_;symm;refine bj (SqT.of hsa) (aJ (j:=2) (v:= .int ((p%ds.length:Nat):Int)) rfl) ?_;refine bj (SqT.of (s2.get h3)) (aJ (v:= .ref rs[p%ds.length].1) (by rw [Zg,Qb hxr];rfl)) ?_;refine p6 (λ y:Addr×Str×Int=>V.ref y.1) (SqT.of (s2.get hdz)) (λ k σ H'=>Same H2 H'/\ ∃o7 o8:Option V,(∀y∈dz.take k,a.getD (fX ss m ws (p / ds.length) y.2.1*ds.length+y.2.2.toNat) none≠some (dd-1))/\σ=[some (.ref h),some (.str (tx ss)),some (.int m),some (.ref w),some (.ref d),some (.ref sa),some (.str (tx cs)),o7,o8]) ⟨Same.refl _,_,_,by simp,rfl⟩ ?_ ?_ ?_
     ·rintro k σ H' ⟨s',_⟩;exact SqT.of ((s2.trans s').get hdz)
     ·rintro k y σ H' hy ⟨s',o7,o8,hno,rfl⟩;have my:=Zj hy;have hkl:k<dz.length:=(Zf.mp hy).1;obtain ⟨⟨c',mc,ec⟩,y0,y1⟩:=hyr y my;have S:=s2.trans s';symm;refine ⟨sa,y.1,w,ws,ss,m,p / ds.length,c',((p%ds.length:Nat):Int),y.2.2,rfl,SqT.of (s'.get hsa),SqT.of (by rw [<- ec];exact S.get (hdz2 y my)),mc,S.seq hW,hnd,hss,hm,hJm,λ r H3 s3 hr er=> ?_⟩;have er':H3 r=some (.tup ((mQ ds.length m (fX ss m ws (p / ds.length) y.2.1*ds.length+y.2.2.toNat)).map kV)):=by
       rw [xX (by rfl'),er,ec];show _=some (HO.tup [V.int _,V.int _,V.int ((y.2.2.toNat:Nat):Int)]);rw [Yx y0]
      have hpt:fX ss m ws (p / ds.length) y.2.1*ds.length+y.2.2.toNat<nV m ws ds:=zF (tL hm hw) (by rfl');have S3:=S.trans s3;symm;refine ⟨d,_,rfl,dg S3 er' hpt,?_⟩;symm;have nx:a.getD (fX ss m ws (p / ds.length) y.2.1*ds.length+y.2.2.toNat) none≠some (dd-1)-> ∀y'∈dz.take (k+1),a.getD (fX ss m ws (p / ds.length) y'.2.1*ds.length+y'.2.2.toNat) none≠some (dd-1):=λ hne y' my'=>by
       rw [Yj,hy] at my';rcases Zv.mp my' with m' | m'
       ·exact hno y' m'
       ·rw [Ze.mp m'];exact hne
      cases et:a.getD (fX ss m ws (p / ds.length) y.2.1*ds.length+y.2.2.toNat) none with
      | none=>
       refine iw rfl ?_;symm;exact ⟨s'.trans s3,_,_,nx (by rw [et];exact λ z=>nomatch z),rfl⟩
      | some dt=>
       refine gr (by intro h;cases h) ?_;symm;refine ⟨d,_,rfl,dg S3 er' hpt,?_⟩;rw [et];symm;show dO (.int dt) (.int 1) _ _;symm;refine ⟨d,_,rfl,dg S3 (s3.get (s'.get hsa)) hp,?_⟩;rw [ed];show pJ (.int (dt+1)) (.int dd) _ _;symm;refine fG (λ c2=> ?_) λ c2=> ?_
       ·symm;refine bj (SqT.of (S3.get (hdz2 y my))) (aJ (j:=0) (v:= .str y.2.1) rfl) ?_;rw [ec];refine lz (by rw [bw,bw];simp;rfl') ?_;rw [jw];symm;have edt:dt=dd-1:=by rfl'
        refine hN (dd-1).toNat _ _ (by rfl') ⟨_,dd-1,cs++[c'],r,_,_,rfl,S3,er',hpt,by rw [et,edt],by rfl',by rw [Yl];show ((cs.length+1:Nat):Int)+(dd-1)=d0;rfl',λ us hu=> ?_,rfl⟩;rw [Wx];refine ht _ ?_;have:=TailR.cons (ds:=gk ss m ws ds) (a:=a) (r:=(p:Int)) (c:=c') (r':=((fX ss m ws (p / ds.length) y.2.1*ds.length+y.2.2.toNat:Nat):Int)) (d:=dd-1) (by rw [Zi,ed];congr 1;rfl') (by rfl') ?_ hu
        ·rw [show dd-1+1=dd by rfl'] at this;exact this
        ·rw [Zi,erow,List.find?_map];have e1:dz=dz.take k++y::dz.drop (k+1):=by
          rw [<- (Zf.mp hy).2,<- Wt hkl,List.take_append_drop]
         have tn: ∀y'∈dz,(((fX ss m ws (p / ds.length) y'.2.1*ds.length:Nat):Int)+y'.2.2).toNat=fX ss m ws (p / ds.length) y'.2.1*ds.length+y'.2.2.toNat:=λ y' my'=>by have:=(hyr y' my').2;rfl'
         rw [show dz.find? ((λ q:Str×Int=>decide (a.getD q.2.toNat none=some (dd-1)))∘λ y:Addr×Str×Int=>(y.2.1,((fX ss m ws (p / ds.length) y.2.1*ds.length:Nat):Int)+y.2.2))=some y from ?_]
         ·show some (y.2.1,((fX ss m ws (p / ds.length) y.2.1*ds.length:Nat):Int)+y.2.2)=_;rw [ec];congr 2;rfl'
         ·rw [jD (q:=λ y:Addr×Str×Int=>decide (a.getD (fX ss m ws (p / ds.length) y.2.1*ds.length+y.2.2.toNat) none=some (dd-1))) λ y' my'=>by show decide (a.getD (((fX ss m ws (p / ds.length) y'.2.1*ds.length:Nat):Int)+y'.2.2).toNat none=_)=_;rw [tn y' my']];rw [e1,List.find?_append,List.find?_eq_none.mpr (λ x mx=>by have:=hno x mx;simpa using this),Wo,et,edt];simp
       ·symm;exact ⟨s'.trans s3,_,_,nx (by rw [et];exact λ z=>c2 (by have:=Zx z;rfl')),rfl⟩
     ·rintro σ H' ⟨s',o7,o8,hno,rfl⟩;exfalso;obtain ⟨⟨y',my',ey⟩,_⟩:=hD.st _ _ ed (by rfl');rw [erow] at my';obtain ⟨y,my,rfl⟩:=Zc.mp my';obtain ⟨_,y0,y1⟩:=hyr y my;refine hno y (by rw [Yy];exact my) ?_;rw [<- ey];congr 1;show _=(((fX ss m ws (p / ds.length) y.2.1*ds.length:Nat):Int)+y.2.2).toNat;rfl'
    ·have e0:dd=0:=by rfl'
     subst e0;symm;refine q _ d0 cs eo ea ?_ _ s2;have:=ht [] (.nil (by rw [Zi];exact ed));rw [Xd] at this;exact this
   ·rintro σ H Q Q' hq ⟨v,hv,w,hw,a,u,e1,e2,i,j,e3,e4,k,e5,z⟩;exact ⟨v,hv,w,hw,a,u,e1,e2,i,j,e3,e4,k,e5,hq _ _ z⟩
theorem N6 (h:lX K vs H Q E):vs.length=6:=by
 unfold lX at h;obtain ⟨_,_,_,_,_,_,_,_,_,_,_,_,rfl,_⟩:=h;rfl
def lY (K:W.Frag):Sp:=λ vs H Q _=> ∃ (h w:Addr) (ds:L2S) (es ws:List Int) (ss:List Nat) (m f:Nat) (b:Bool),vs=[.ref h, .str (tx ss), .int m, .ref w, .bl b, .str (tx [f])]/\TupK K bY [.int 1]/\HsT K H h ds es/\GoodH ds es/\Hs.Wf ds/\(∀ps∈ds,∀p∈ps,∃c∈ss,p.1=tx [c])/\ss.Nodup/\ss.length<60/\(∀c∈ss,Hs.Sg (tx [c]))/\Hs.Sg (tx [f])/\f∉ss/\SqL K H w (ws.map V.int)/\ws≠[]/\ws.length<=40/\(∀x∈ws,0<=x/\x<=1000)/\1<=m/\m*ws.length*ds.length<=39/\ ∀r H' ds' es',Same H H'->HsT K H' r ds' es'->MdH ss m ws ds es f ds' es'->Q (.ref r) H'
def ye (K:W.Frag) (E:XK) (Eh:XK):TS:=
  (aN (b7 (aX (sZ K) [] E0 (ak (aj 1) (ak (aj 2) (ak (d7 (dN K) (ak (aj 3) aF)) aF)))) (aB 6))
  (aN (cu (jk (bh (aW pJ (d7 (cB K) (ak (aj 3) aF)) (tC (V.int 1)))) (bh (aW pJ (aW (gJ K) (aj 3) (tC (V.int 0))) (tC (V.int 1))))) (b7 (aX (sZ K) [V.non] E0 (ak (aj 1) (ak (aj 2) aF))) (aB 6)) bD)
  (aN (cu (kY K (aj 4)) (bV (aX (Fy K) [] E0 (ak (aX (xK K) [] E0 (ak (aj 6) (ak (aj 0) aF))) (ak (aj 5) aF)))) bD)
  (bV (aX (Fy K) [] E0 (ak (aX (xK K) [] E0 (ak (aj 0) (ak (aj 6) aF))) (ak (aj 5) aF)))))))
theorem N7 (h:lY K vs H Q E): ∃Eh,ye K E Eh { nx:=λ _ H'=>Q .non H',rt:=Q } (start ["house","signs","many","wheel","turned_round","filler","summed"] vs) H:=by
 unfold lY at h;obtain ⟨h,w,ds,es,ws,ss,m,f,b,rfl,TK,hH,gd,wf,hsg,hnd,hss,hsgs,hf,hfs,hW,hwn,hw40,hwr,hm,hn,q⟩:=h;refine ⟨E0,?_⟩;unfold ye;have hwl:1<=ws.length:=List.length_pos_iff.mpr hwn;have hR:=wf.pos;have hmw:m*ws.length<=39:=Zw (Nat.le_mul_of_pos_right _ hR) hn;have hmn:1<=m*ws.length:=Nat.mul_pos hm hwl;have gs: ∀ {x:V} {xs:List V},x= .int (m:Int)->xs=ws.map V.int->GoodS ss x xs m ws:=λ e1 e2=>⟨hnd,e1,hm,e2,hwn,hwr,by rfl'⟩
 have gsu: ∀ {x:V} {xs:List V} {m':Nat} {ws':List Int},x= .int (m:Int)->xs=ws.map V.int->GoodS ss x xs m' ws'->m'=m/\ws'=ws:=λ {x xs m' ws'} e1 e2 g=>⟨by have:=g.ex;rw [e1] at this;injection this with e;rfl',by have:=g.ew;rw [e2] at this;exact ((Xg (λ _ _ e=>V.int.inj e)).mp this).symm⟩
 symm;refine iz hW λ t ht=> ?_
 symm;refine ⟨ss, .int m, .ref t,ws.map V.int,rfl,TK,hsgs,by rfl',trivial, .inr ⟨t,rfl,SqT.of au⟩,by rw [Qr];rfl',λ x mx=>by obtain ⟨i,_,rfl⟩:=Zc.mp mx;trivial,λ m' ws' g r H1 dS eS s1 hS hlen hrow hen=> ?_,λ ne=>(ne _ _ (gs rfl rfl)).elim⟩;obtain ⟨e1,e2⟩:=gsu rfl rfl g;rw [e1,e2] at hlen hrow hen;have su:SumH ss m ws dS eS:=⟨hlen,hrow,hen⟩;have s01:Same H H1:=(aH ht _).trans s1;walk_at "gj";with_reducible refine iy (λ σ' H2=>Same H H2/\ ∃ (sm:Addr) (dS:L2S) (eS:List Int),HsT K H2 sm dS eS/\SumH ss m ws dS eS/\σ'=[some (.ref h),some (.str (tx ss)),some (.int m),some (.ref w),some (.bl b),some (.str (tx [f])),some (.ref sm)]) ?_ ?_
 ·rintro σ' H2 ⟨s2,sm,dS,eS,hS,su,rfl⟩;have wS:=su.wf hm hwn;have gS:GdB dS:=⟨by rw [su.len];rfl',λ ps mp=>by
   obtain ⟨j,hj,ej⟩:=Zu.mp mp;exact (su.row j ps (by rw [Qb hj,ej])).2,λ ps mp=>by rw [(su.sg hm hwn hsgs mp).2];rfl',λ ps mp=>(su.sg hm hwn hsgs mp).1⟩
  have hsS: ∀ps∈dS,∀p∈ps,∃c∈ss,p.1=tx [c]:=λ ps mp p mpp=>by
   obtain ⟨j,hj,ej⟩:=Zu.mp mp;exact (iW hm hwn ((su.row j ps (by rw [Qb hj,ej])).1.mem_iff.mp mpp)).1
  have hs:HsS ss m ws ds dS es eS:=⟨su,hnd,hm,hwl,wf,hsg,gd.sr⟩;symm;refine Hu (λ c=> ?_) λ c=> ?_
  ·symm;refine ⟨sm,h,dS,ds,eS,es,rfl,hS,hH.same s2,gS,gd.b,wS,wf,λ N hN=> ?_⟩;have h39:(bx dS ds N).length<=39:=Zw (FT wS wf N) (by rw [su.len];exact hn);refine ⟨λ _ r H3 s3 hB=> ?_,λ h40=>absurd h40 (by rfl')⟩;symm;obtain ⟨gB,wB⟩:=tR (e1:=eS) (e2:=es) wS wf gS gS.ln hN (by rfl');have hno:=zG (d2:=ds) (N:=N) hsS hfs;refine ⟨r, .str (tx [f]),_,_,rfl,hB,gB,sY hf,λ s e _ _ _ r' H4 ds' s4 hH4 pd=> ?_,λ ne=>(ne _ rfl hf hno (by rw [Qr];rfl')).elim⟩;injection e with e
   subst e;exact q r' H4 ds' _ ((s2.trans s3).trans s4) hH4 (hs.mdB hN h39 gS (by rfl') hsgs hf hfs pd hno)
  ·symm;refine ⟨h,sm,ds,dS,es,eS,rfl,hH.same s2,hS,gd.b,gS,wf,wS,λ N hN=> ?_⟩;have h39:(bx ds dS N).length<=39:=Zw (FT wf wS N) (by rw [su.len,Xz];exact hn);refine ⟨λ _ r H3 s3 hB=> ?_,λ h40=>absurd h40 (by rfl')⟩;symm;obtain ⟨gB,wB⟩:=tR (e1:=es) (e2:=eS) wf wS gd.b gd.b.ln hN (by rfl');have hno:=zG (d2:=dS) (N:=N) hsg hfs;refine ⟨r, .str (tx [f]),_,_,rfl,hB,gB,sY hf,λ s e _ _ _ r' H4 ds' s4 hH4 pd=> ?_,λ ne=>(ne _ rfl hf hno (by rw [Qr];rfl')).elim⟩;injection e with e
   subst e;exact q r' H4 ds' _ ((s2.trans s3).trans s4) hH4 (hs.mdA hN h39 gd.b (by rfl') hf hfs pd hno)
 ·intro N hN;symm;refine fP (s01.seq hW) ?_;rw [Qr];symm;refine fG (λ c1=> ?_) λ c1=> ?_
  ·symm;obtain ⟨v,rfl⟩: ∃v,ws=[v]:=List.length_eq_one_iff.mp (by rfl');refine gh (s01.seq hW) (v:= .int v) (aJ (j:=0) rfl) ?_;symm;refine fG (λ c2=> ?_) λ c2=> ?_
   ·have ev:v=1:=by rfl'
    subst ev;symm;refine ⟨ss, .int m, .non,[.int 1],rfl,TK,hsgs,by rfl',trivial, .inl ⟨rfl,rfl⟩,by decide,λ x mx=>by rw [Ze.mp mx];trivial,λ m' ws' g r H1 dS eS s1 hS hlen hrow hen=> ?_,λ ne=>(ne _ _ (gs rfl rfl)).elim⟩;obtain ⟨e1,e2⟩:=gsu rfl rfl g;rw [e1,e2] at hlen hrow hen;symm;exact hN _ _ ⟨s01.trans s1,r,dS,eS,hS,⟨hlen,hrow,hen⟩,rfl⟩
   ·symm;exact hN _ _ ⟨s01,_,dS,eS,hS,su,rfl⟩
  ·symm;exact hN _ _ ⟨s01,_,dS,eS,hS,su,rfl⟩
theorem N8 (h:lY K vs H Q E):vs.length=6:=by
 unfold lY at h;obtain ⟨_,_,_,_,_,_,_,_,_,rfl,_⟩:=h;rfl
def lZ (K:W.Frag):Sp:=λ vs H Q _=> ∃ (md h pl d w:Addr) (ds ds':L2S) (es es' ws:List Int) (ss ts:List Nat) (m f k:Nat),vs=[.ref md, .ref h, .ref pl, .ref d, .str (tx ts), .str (tx (List.replicate k f))]/\HsT K H md ds' es'/\MdH ss m ws ds es f ds' es'/\HsT K H h ds es/\Hs.Wf ds/\(∀ps∈ds,∀p∈ps,∃c∈ss,p.1=tx [c])/\SqT K H pl [.str (tx ss), .int m, .ref w]/\SqL K H w (ws.map V.int)/\ss.Nodup/\ss.length<=60/\1<=m/\m<=100/\1<=ws.length/\ws.length<=100/\(∀x∈ws,0<=x/\x<=1000)/\nV m ws ds<=1000/\H d=some (.dT (dS ds.length m (bR (gk ss m ws ds) (jE m ws ds es) (nV m ws ds))))/\(∀c∈ts,c∈ss)/\ts.length<=63/\k<=100/\ ∀H',Same H H'->Q (.bl true) H'
def yf (K:W.Frag) (E:XK) (Eh:XK):TS:=
  (aN (b7 (aj 2) (km K 3 (cN (aB 6) (cN (aB 7) (cN (aB 8) mV)))))
  (aN (b7 (aX (jF K) [] E0 (ak (aj 1) (ak (aj 6) (ak (aj 7) (ak (aj 8) (ak (aj 4) aF)))))) (aB 9))
  (aN (b7 (jH (aW pJ (aW (bu K) (aj 9) (tC (V.int 1))) (tC (V.int 0))) (jH (aW ir (aW (bu K) (aj 9) (tC (V.int 2))) (tC V.non)) (aW (vN K false) (aW (bu K) (aj 9) (tC (V.int 2))) (aW (bu K) (aj 1) (tC (V.int 1)))))) (aB 10))
  (aN (b7 (ig (ak (aX (jz K) [] E0 (ak (aj 0) (ak (aj 4) aF))) (ak (aX (jz K) [] E0 (ak (aj 0) (ak (aW eF (aj 4) (aj 5)) aF))) aF))) (aB 11))
  (aN (cu (Gf (mU (kY K (d7 (gf K) (ak (aW (gJ K) (aj 11) (tC (V.int 0))) (ak (tC (V.ty "bool")) aF))))) (Gf (mU (kY K (d7 (gf K) (ak (aW (gJ K) (aj 11) (tC (V.int 1))) (ak (tC (V.ty "bool")) aF))))) (bh (aW (rNeD K) (aj 11) (ig (ak (aj 10) (ak (aj 10) aF))))))) (bV (tC (V.bl false))) bD)
  (aN (b7 (aX (lX K) [] E0 (ak (aj 1) (ak (aj 6) (ak (aj 7) (ak (aj 8) (ak (aj 3) (ak (aj 9) aF))))))) (aB 12))
  (aN (b7 (aX (jA K) [] E0 (ak (aj 0) (ak (aj 4) aF))) (aB 13))
  (aN (cu (Gf (bh (aW gP (aj 12) (tC V.non))) (bh (aW gP (aj 13) (tC V.non)))) (bV (jH (aW gP (aj 12) (tC V.non)) (aW gP (aj 13) (tC V.non)))) bD)
  (bV (jH (d7 (gf K) (ak (aj 13) (ak (tC (V.ty "str")) aF))) (aW pJ (aj 13) (aj 12))))))))))))
theorem Nb (h:lZ K vs H Q E): ∃Eh,yf K E Eh { nx:=λ _ H'=>Q .non H',rt:=Q } (start ["made","house","plan","deep","part","fillers","signs","many","wheel","state","taken","told","due","behind"] vs) H:=by
 unfold lZ at h;obtain ⟨md,h,pl,d,w,ds,ds',es,es',ws,ss,ts,m,f,k,rfl,hM,mh,hH,wf,hsg,hpl,hW,hnd,hss,hm,hm2,hw,hw2,hwr,hn,hd,hts,ht,hk,q⟩:=h;refine ⟨E0,?_⟩;unfold yf;have hR:=wf.pos;have tk0:=mh.tk ts hts 0;rw [List.replicate_zero,Xd] at tk0;have tkk:=mh.tk ts hts k;symm;refine gw hpl rfl ?_;symm;refine ⟨h,w,ds,es,ws,ss,ts,m,rfl,hH,wf,hW,hm,hw,hwr,ht,hm2,hw2,hss,hnd,hts,λ st H1 s1 hst0 hst=> ?_⟩;obtain ⟨dd,ee,rs,g1,ers,g3,g4,g5⟩:=id (hH.same s1);have ix1: ∀ {H':Hp} {Q:VK},Same H1 H'->Q (.int ((jT ss m ws ts%m:Nat):Int)) H'->bu K (.ref st) (.int 1) H' Q:=λ s h=>bj (SqT.of (s.get hst)) (aJ (j:=1) rfl) h
 have ix2: ∀ {H':Hp} {Q:VK},Same H1 H'->Q (ov (Hs.go ds ts)) H'->bu K (.ref st) (.int 2) H' Q:=λ s h=>bj (SqT.of (s.get hst)) (aJ (j:=2) rfl) h
 have hDV:=vd (gk ss m ws ds) (jE m ws ds es) (nV m ws ds);have cV:CDep (gk ss m ws ds) (jE m ws ds es) (bR (gk ss m ws ds) (jE m ws ds es) (nV m ws ds)):=hDV.c (by rw [gm];rfl');have cM:=CDep.F es' mh.wf.pos;have hj:jT ss m ws ts<m*ws.length:=by
  rcases List.eq_nil_or_concat ts with e | ⟨ts',c,e⟩
  ·rw [e];exact Nat.mul_pos hm hw
  ·rw [e,List.concat_eq_append,zA];exact tL hm hw
 obtain ⟨nn,φ,bi,hgo⟩:=mh.bi;walk_at "st";with_reducible refine iy (λ σ' H'=>H'=H1/\ ∃T:Bool,(T=true↔ ∃x,Hs.go ds ts=some x/\x∈es/\jT ss m ws ts%m=0)/\σ'=[some (.ref md),some (.ref h),some (.ref pl),some (.ref d),some (.str (tx ts)),some (.str (tx (List.replicate k f))),some (.str (tx ss)),some (.int m),some (.ref w),some (.ref st),some (.bl T),none,none,none]) ?_ ?_
 ·rintro σ' H' ⟨rfl,T,hT,rfl⟩;symm;refine ⟨md,ds',es',ts,rfl,hM.same s1,mh.wf,?_⟩;symm;refine lz (by rw [bw,bw,List.length_replicate];rfl') ?_;rw [jw];symm;refine ⟨md,ds',es',ts++List.replicate k f,rfl,hM.same s1,mh.wf,?_⟩;rw [show inV (ov (Hs.go ds' ts)) (es'.map V.int)=T from Bool.eq_iff_iff.mpr (tk0.trans hT.symm),show inV (ov (Hs.go ds' (ts++List.replicate k f))) (es'.map V.int)=T from Bool.eq_iff_iff.mpr (tkk.trans hT.symm)];symm;intro tl htl;symm;refine gh (SqL.of au) (v:= .bl T) (aJ (j:=0) rfl) ?_;symm;refine eG (.bl _) (b:=true) rfl ?_;symm;refine gh (SqL.of au) (v:= .bl T) (aJ (j:=1) rfl) ?_;symm;refine eG (.bl _) (b:=true) rfl ?_;symm;intro t2 ht2;symm;refine rNeD.same (d:= .list ([T,T].map PyData.bool)) (n:=1) (.lst (xs:=[T,T].map V.bl) (SqL.of (aO ht2 au)) (DpAll.bls _)) (.lst (xs:=[T,T].map V.bl) (SqL.of au) (DpAll.bls _)) (sG λ d hd=>by obtain ⟨b,_,rfl⟩:=Zc.mp hd;exact PQ 0 b) (by decide) ?_;have s2:Same H' (upd (upd H' tl (HO.lst [V.bl T,V.bl T])) t2 (HO.lst [V.bl T,V.bl T])):=(aH htl _).new ht2;generalize upd (upd H' tl (HO.lst [V.bl T,V.bl T])) t2 (HO.lst [V.bl T,V.bl T])=H2 at s2;have S2:=s1.trans s2;symm;refine ⟨h,w,d,st,ds,es,ws,ss,m,jT ss m ws ts,_,Hs.go ds ts,rfl,hH.same S2,wf,hsg,S2.seq hW,hnd,hss,hm,hw,hn,S2.get hd,hDV,s2.get hst,hj,λ x e=>Hs.mJ wf e,λ hno H3 s3=> ?_,λ x dd us ex ea hta H3 s3=> ?_⟩
  ·symm;refine ⟨md,ds',es',ts,rfl,hM.same (S2.trans s3),mh.wf,mh.gd.sg,mh.le,λ _ H4 s4=> ?_,λ r dd us eg er hta H4 s4=> ?_⟩
   ·symm;show if decide (V.non=V.non)=true then _ else _
    symm;rw [Yh (rfl:V.non=V.non)];exact q _ ((S2.trans s3).trans s4)
   ·exfalso
    cases ex:Hs.go ds ts with
    | none=>rw [mh.gn ts hts ex] at eg;cases eg
    | some x=>
     obtain ⟨i,hi,ei,eφ⟩:=hgo ts hts x ex;rw [ei] at eg
     cases eg;have:=bi.eq cM cV hi;rw [Zi] at er;rw [er,eφ,hno x ex] at this
     cases this
  ·obtain ⟨i,hi,ei,eφ⟩:=hgo ts hts x ex;have edp:=bi.eq cM cV hi;rw [eφ,ea] at edp;symm;refine ⟨md,ds',es',ts,rfl,hM.same (S2.trans s3),mh.wf,mh.gd.sg,mh.le,λ hno H4 s4=> ?_,λ r d2 us2 eg er hta2 H4 s4=> ?_⟩
   ·exfalso;have:=hno _ ei;rw [Zi,edp] at this
    cases this
   ·rw [ei] at eg
    cases eg;rw [Zi,edp] at er;obtain rfl:dd=d2:=Zx er;have hta3:=bi.tail cM cV hta2 (by rfl') (by rw [Zi];exact hi);rw [Zi,eφ] at hta3;obtain rfl:=hta3.det hta;symm;rw [Yo (λ z=>nomatch z: ¬ (V.str (tx us2)=V.non)),Bool.or_self];refine vP ?_;symm;refine eG (T:="str") (.str _) (b:=true) rfl ?_;symm;rw [Yh rfl];exact q _ ((S2.trans s3).trans s4)
 ·intro N hN;symm;refine ix1 (Same.refl _) ?_;symm;refine fG (λ c1=> ?_) λ c1=> ?_
  ·symm;refine ix2 (Same.refl _) ?_;symm
   cases eg:Hs.go ds ts with
   | none=>
    show if (!decide (V.non=V.non))=true then _ else _
    symm;exact hN _ _ ⟨rfl,false,⟨λ z=>(nomatch z),λ ⟨x,e,_⟩=>by rw [eg] at e;cases e⟩,rfl⟩
   | some x=>
    refine gr (by intro h;cases h) ?_;symm;refine ix2 (Same.refl _) ?_;symm;refine bj (SqT.of g1) (aJ (j:=1) (v:= .ref ee) rfl) ?_;rw [eg];refine wR (xs:=es.map V.int) (.inr (SqT.of g5)) rfl (eZ _) ?_;show aB 10 (.bl (inV (V.int x) (es.map V.int))) _ _ _;rw [fH];symm;refine hN _ _ ⟨rfl,decide (x∈es),?_,rfl⟩;rw [decide_eq_true_iff];exact ⟨λ h=>⟨x,eg,h,by rfl'⟩,λ ⟨y,e,h,_⟩=>by rw [eg] at e;cases e;exact h⟩
  ·symm;refine hN _ _ ⟨rfl,false,?_,rfl⟩;refine ⟨λ z=>(nomatch z),λ ⟨x,_,_,e⟩=>absurd (show ((jT ss m ws ts%m:Nat):Int)=0 by rfl') c1⟩
theorem Nf (h:lZ K vs H Q E):vs.length=6:=by
 unfold lZ at h;obtain ⟨_,_,_,_,_,_,_,_,_,_,_,_,_,_,_,rfl,_⟩:=h;rfl
theorem Il {b:List Nat} {j:Nat}:Txt.slice (tx b) none (some (j:Int))=tx (b.take j):=by
 by_cases h:j<=b.length
 ·exact v4 h
 ·have e:Txt.slice (tx b) none (some (j:Int))=Txt.slice (tx b) none (some ((b.length:Nat):Int)):=by
   show StrLaws.sliceText _ _ _=StrLaws.sliceText _ _ _;have hl:(tx b).length=b.length:=rfl;have h1: ¬ ((j:Int)<0):=by rfl'
   have h2: ¬ (((b.length:Nat):Int)<0):=by rfl'
   have h3:max (0:Int) (min (j:Int) (b.length:Int))=max (0:Int) (min (b.length:Int) (b.length:Int)):=by rfl'
   have:Builtin.Str.strSliceIndices none (some (j:Int)) 1 (tx b).length=Builtin.Str.strSliceIndices none (some ((b.length:Nat):Int)) 1 (tx b).length:=by
    simp [Builtin.Str.strSliceIndices,hl,h1,h2,h3]
   unfold StrLaws.sliceText;rw [this]
  rw [e,v4 (Zn _),Yy,Xy (by rfl')]
theorem fK {d1 d2:L2S} (g1:GdB d1): ∀k,∀p∈bx d1 d2 k,∃t,Hs.go d1 t=some p.1/\Hs.go d2 t=some p.2
 | 0,p,mp=>by
  have e:p=(0,0):=Ze.mp mp;rw [e];exact ⟨[],rfl,rfl⟩
 | k + 1, p, mp => by
  by_cases c:k<(bx d1 d2 k).length
  ·rw [fV (Qb c)] at mp;rcases iY.mp mp with m | m
   ·exact fK g1 k p m
   ·obtain ⟨q,mq,rfl⟩:=Zc.mp m;obtain ⟨t,t1,t2⟩:=fK g1 k _ (Zl c);obtain ⟨y,my,ey⟩:=List.mem_filterMap.mp mq;obtain ⟨b,eb,rfl⟩:=Yd.mp ey;rcases getD_mem' (ds:=d1) (r:=(bx d1 d2 k)[k].1) with h | h
    ·rw [h] at my;cases my
    ·obtain ⟨n,en⟩:=g1.sg _ h y my;refine ⟨t++[Hs.El n],?_,?_⟩
     ·rw [Hs.cD,t1,cR,<- en];exact (jC (fU (g1.sr _ h))).mpr my
     ·rw [Hs.cD,t2,cR,<- en];exact eb
  ·rw [zu (by rfl')] at mp;exact fK g1 k p mp
theorem vq {ds:L2S} {es:List Int} {a:List (Option Int)} (wf:Hs.Wf ds) (c:CDep ds es a): ∀ (us:List Nat) (r e:Int),0<=r->r<ds.length->us.foldl (λ o c=>Hs.stp ds o (tx [c])) (some r)=some e->e∈es-> ∃d,a.getD r.toNat none=some d
 | [],r,e,h0,h1,hg,he=>by
  cases hg;exact ⟨0,(c.z r.toNat (by rfl')).mpr (by rw [Yx h0];exact he)⟩
 | x::us,r,e,h0,h1,hg,he=>by
  rw [List.foldl_cons] at hg
  cases ed:Hs.stp ds (some r) (tx [x]) with
  | none=>
   rw [ed] at hg;have: ∀l:List Nat,l.foldl (λ o c=>Hs.stp ds o (tx [c])) none=none:=λ l=>by
    induction l with
    | nil=>rfl
    | cons y l ih=>exact ih
   rw [this] at hg;cases hg
  | some r'=>
   rw [ed] at hg;have m:=Hs.gF (show Hs.dr (ds.getD r.toNat []) (tx [x])=some r' from ed);have hr':=xH wf (show Hs.dr (ds.getD r.toNat []) (tx [x])=some r' from ed);obtain ⟨d,e'⟩:=vq wf c us r' e hr'.1 hr'.2 hg he;obtain ⟨d',h,_⟩:=c.le (r:=r.toNat) (by rfl') ⟨_,m,e'⟩;exact ⟨d',h⟩
theorem Ba {ds:L2S} {es:List Int} {a:List (Option Int)} (wf:Hs.Wf ds) (sr: ∀ps∈ds,(ps.map (·.1)).Pairwise gY) (c:CDep ds es a) {r d:Int} {us:List Nat} (h:TailR ds a r d us):0<=r->r<ds.length-> ∃e,us.foldl (λ o c=>Hs.stp ds o (tx [c])) (some r)=some e/\e∈es:=by
 induction h with
 | @nil r e=>
  intro h0 h1;exact ⟨r,rfl,by have:=(c.z r.toNat (by rfl')).mp e;rw [Yx h0] at this;exact this⟩
 | @cons r d r' x us e hd hf ht ih=>
  intro h0 h1;have m:=List.mem_of_find?_eq_some hf;have hrow:ds.getD r.toNat []∈ds:=by rw [Hs.getD_at h0 h1];exact Zl _
  have ed:=(jC (fU (sr _ hrow))).mpr m;have hr':=xH wf ed;obtain ⟨e',h',me⟩:=ih hr'.1 hr'.2;refine ⟨e',?_,me⟩;rw [List.foldl_cons,cR,ed];exact h'
section
variable {sh:List Nat} {bs:List (List Nat)} {dB:L2S} {eB:List Int}
theorem Qt (hb:StS [sh] bs) (bk:BkD [sh] bs dB eB) (h40:bs.length<=40) (hs: ∀c∈sh,Hs.Sg (tx [c])):GdB dB:=by
 have at_: ∀ps∈dB,∃ (j:Nat) (b:List Nat),bs[j]? =some b/\ps.Perm (kids bs bs.length b)/\(ps.map (·.1)).Pairwise gY:=λ ps mp=>by
  obtain ⟨j,hj,ej⟩:=Zu.mp mp;have hjb:j<bs.length:=by rw [<- bk.len];exact hj
  exact ⟨j,bs[j],Qb hjb,bk.row j _ ps (Qb hjb) (by rw [Qb hj,ej])⟩
 refine ⟨by rw [bk.len];rfl',λ ps mp=> ?_,λ ps mp=> ?_,λ ps mp p mpp=> ?_⟩
 ·obtain ⟨_,_,_,_,h⟩:=at_ ps mp;exact h
 ·obtain ⟨_,b,_,h,_⟩:=at_ ps mp;rw [h.length_eq];exact Zw (pB bs bs.length b) (by rfl')
 ·obtain ⟨_,b,_,h,_⟩:=at_ ps mp;obtain ⟨m,c,_,_,e,hm⟩:=jV (s:=p.1) (k:=p.2) (h.mem_iff.mp mpp);rw [e];refine hs c ?_;rcases (hb.mem _).mp (Zj hm) with z | ⟨w,mw,pf⟩
  ·exact absurd z (by simp)
  ·rw [Ze.mp mw] at pf;exact pf.subset (by simp)
theorem Qu (hb:StS [sh] bs) (bk:BkD [sh] bs dB eB) (g:GdB dB) {dM:L2S} (N:Nat):(bx dB dM N).length<=bs.length:=by
 have un: ∀ {t:List Nat} {i:Int},Hs.go dB t=some i->bs[i.toNat]? =some t:=λ {t i} h=>by
  by_cases m:t∈bs
  ·have h2:=iB m;have:=(bk.go hb t).1 _ h2;rw [h] at this;have e:=Zx this;rw [e,Zi];exact h2
  ·rw [(bk.go hb t).2 m] at h;cases h
 have nd:((bx dB dM N).map λ p=>bs[p.1.toNat]?).Nodup:=Xl.mpr ((j0 dB dM N).imp_of_mem λ {p q} mp mq hne e=>hne (by
  obtain ⟨t,t1,t2⟩:=fK g N p mp;obtain ⟨u,u1,u2⟩:=fK g N q mq;have e:bs[p.1.toNat]? =bs[q.1.toNat]? :=e;rw [un t1,un u1] at e;have e:=Zx e;rw [e] at t1 t2;rw [t1] at u1;rw [t2] at u2;exact Prod.ext (Zx u1) (Zx u2)))
 have:=gU (m:=bs.map some) nd λ x mx=>by
  obtain ⟨p,mp,rfl⟩:=Zc.mp mx;obtain ⟨t,t1,_⟩:=fK g N p mp;rw [un t1];exact Zc.mpr ⟨t,Zj (un t1),rfl⟩
 rw [Qr,Qr] at this;exact this
theorem Jx (hb:StS [sh] bs) (bk:BkD [sh] bs dB eB) {t:List Nat} {i:Int} (h:Hs.go dB t=some i):i∈eB↔t=sh:=by
 have:=bk.tk hb t;rw [h] at this;have k:inV (ov (some i)) (eB.map V.int)=true↔i∈eB:=j9;rw [<- k,this,decide_eq_true_iff,Ze]
theorem Ng (hb:StS [sh] bs) (bk:BkD [sh] bs dB eB) (g:GdB dB) {dM:L2S} {eM:List Int} (wM:Hs.Wf dM) {N:Nat} (hN:(bx dB dM N).length<=N) (h40:(bx dB dM N).length<=40) {a:List (Option Int)} (ea:a=gW ((bx dB dM N).map (bF dB dM (bx dB dM N))) (dU eB eM (bx dB dM N))):
  (a.getD 0 none=none-> ¬ ∃r,Hs.go dM sh=some r/\r∈eM)/\ ∀d us,TailR ((bx dB dM N).map (bF dB dM (bx dB dM N))) a 0 d us->us=sh/\ ∃r,Hs.go dM sh=some r/\r∈eM:=by
 have wB:=bk.wf hb;obtain ⟨gC,wC⟩:=tR (e1:=eB) (e2:=eM) wB wM g g.ln hN h40;have cC:=CDep.F (dU eB eM (bx dB dM N)) wC.pos;rw [<- ea] at cC;have hb2:=Fv hN;have hpos:=wC.pos;have hem:=λ {x:Int×Int}=>vm (e1:=eB) (e2:=eM) (P:=bx dB dM N) (x:=x)
 refine ⟨λ h0 ⟨r,hr,mr⟩=> ?_,λ d us ht=> ?_⟩
 ·have msh:sh∈bs:=(hb.mem sh).mpr (.inr ⟨sh,Ze.mpr rfl,List.prefix_refl _⟩);have gB:=(bk.go hb sh).1 _ (iB msh);obtain ⟨b1,b2⟩:=hb2 sh;have mp:=b2 _ _ gB hr;rw [gB,hr] at b1;obtain ⟨d,e⟩:=vq wC cC sh 0 _ (by decide) (by rfl') b1 ((hem mp).mpr ⟨(Jx hb bk gB).mpr rfl,mr⟩);have e:a.getD 0 none=some d:=e;rw [h0] at e;cases e
 ·obtain ⟨e,he,me⟩:=Ba wC gC.sr cC ht (by decide) (by rfl');have he:Hs.go ((bx dB dM N).map (bF dB dM (bx dB dM N))) us=some e:=he;obtain ⟨b1,b2⟩:=hb2 us;rw [b1] at he
  cases g1:Hs.go dB us with
  | none=>rw [g1] at he;cases he
  | some i=>
   cases g2:Hs.go dM us with
   | none=>rw [g1,g2] at he;cases he
   | some r=>
    rw [g1,g2] at he
    cases he;obtain ⟨m1,m2⟩:=(hem (b2 _ _ g1 g2)).mp me;have es:=(Jx hb bk g1).mp m1;subst es;exact ⟨rfl,r,g2,m2⟩
theorem Nh (sh:List Nat):StS [sh] ((List.range (sh.length+1)).map λ i=>sh.take i):=by
 refine ⟨List.pairwise_map.mpr (List.pairwise_lt_range.imp_of_mem λ {i j} mi mj h=> ?_),λ y=> ?_⟩
 ·have hj:=Xn.mp mj;have e:sh.take j=sh.take i++(sh.take j).drop i:=by
   have:=(List.take_append_drop i (sh.take j)).symm;rw [List.take_take,Nat.min_eq_left (Xh h)] at this;exact this
  rw [e];have hn:(sh.take j).drop i≠[]:=λ z=>by
   have:=Yn List.length z;rw [List.length_drop,Ys,Wc] at this;rfl'
  generalize (sh.take j).drop i=z at hn
  cases z with
  | nil=>exact absurd rfl hn
  | cons c z=>
   generalize sh.take i=u;induction u with
   | nil=>exact List.nil_lt_cons ..
   | cons x u ih=>exact List.cons_lt_cons_iff.mpr (.inr ⟨rfl,ih⟩)
 ·rw [Zc];constructor
  ·rintro ⟨i,_,rfl⟩;exact .inr ⟨sh,Ze.mpr rfl,List.take_prefix i sh⟩
  ·rintro (rfl | ⟨w,mw,pf⟩)
   ·exact ⟨0,Xn.mpr (Nat.succ_pos _),rfl⟩
   ·rw [Ze.mp mw] at pf;refine ⟨y.length,Xn.mpr (Nat.lt_succ_of_le pf.length_le),?_⟩;exact (List.prefix_iff_eq_take.mp pf).symm
end
def m5 (K:W.Frag):Sp:=λ vs H Q _=> ∃ (a:Addr) (ns:List Int),vs=[.ref a]/\TupK K bY [.int 1]/\SqL K H a (ns.map V.int)/\ns.length<=63/\(∀i∈ns,PySem.Builtin.Int.intBits i<=2^20)/\ ∀H',Q (.bl true) H'
def yg (K:W.Frag) (E:XK) (Eh:XK):TS:=
  (aN (b7 (aX (kh K) [] E0 (ak (aj 0) (ak (tC (V.int 0)) aF))) (aB 1))
  (aN (b7 (aX (lQ K) [] E0 (ak (aX (kh K) [] E0 (ak (aj 0) (ak (tC (V.int 1)) aF))) (ak (aW dO (tC (V.int 2)) (aW bZ (aW cJ (aj 1) (tC (V.int 108))) (tC (V.int 10)))) aF))) (aB 2))
  (aN (b7 (aW pK (aj 2) (Nu yE (tC (V.int 1)))) (aB 3))
  (aN (b7 (BL rH (aj 2) fB (gH (Nu yE (tC (V.int 1))))) (aB 2))
  (aN (b7 (aW dO (tC (V.int 1)) (aW bZ (aj 1) (tC (V.int 6)))) (aB 4))
  (aN (b7 (qt [none,some 0] (iG (ak (aW bZ (aW cJ (aj 1) (tC (V.int 6))) (tC (V.int 3))) aF)) (aB 0) eY (aW bZ (aX (kh K) [] E0 (ak (aj 1) (ak (aW dO (tC (V.int 2)) (aj 0)) aF))) (tC (V.int 1001)))) (aB 5))
  (aN (cu (bh (aW (rEqD K) (aj 5) (ig aF))) (b7 (ig (ak (tC (V.int 1)) aF)) (aB 5)) bD)
  (aN (b7 (aX (qO K) [] E0 (ak (BL (BR K) (aj 0) (gH (tC (V.int 5))) (gH (tC (V.int 305)))) (ak (aW dO (tC (V.int 1)) (aW bZ (aW cJ (aj 1) (tC (V.int 18))) (tC (V.int 3)))) (ak (aj 2) aF)))) (aB 6))
  (aN (b7 (aX (lY K) [] E0 (ak (aj 6) (ak (aj 2) (ak (aj 4) (ak (aj 5) (ak (aW pJ (aW bZ (aW cJ (aj 1) (tC (V.int 54))) (tC (V.int 2))) (tC (V.int 1))) (ak (aj 3) aF))))))) (aB 7))
  (aN (b7 (aX (lW K) [] E0 (ak (aj 6) (ak (aj 2) (ak (aj 4) (ak (aj 5) aF))))) (aB 8))
  (aN (b7 (aX (lR K) [] E0 (ak (aj 6) (ak (aj 2) (ak (BL (BR K) (aj 0) (gH (tC (V.int 5))) (gH (tC (V.int 305)))) aF)))) (aB 9))
  (aN (b7 (aX (kh K) [] E0 (ak (aj 0) (ak (tC (V.int 4)) aF))) (aB 10))
  (aN (dG (dF K (ig (ak (aj 9) (ak (BL rH (aj 9) fB (gH (aW bZ (aj 10) (aW dO (d7 (cB K) (ak (aj 9) aF)) (tC (V.int 1)))))) aF)))) (aB 11) (cu (mU (kY K (aX (lZ K) [] E0 (ak (aj 7) (ak (aj 6) (ak (ie (ak (aj 2) (ak (aj 4) (ak (aj 5) aF)))) (ak (aj 8) (ak (aj 11) (ak (aW lr (aj 3) (aW bZ (aW cJ (aj 10) (tC (V.int 301))) (tC (V.int 41)))) aF))))))))) (bV (tC (V.bl false))) bD))
  (aN (b7 (BL rH (aj 9) fB (gH (tC (V.int 39)))) (aB 12))
  (aN (b7 (aX (jF K) [] E0 (ak (aj 6) (ak (aj 2) (ak (aj 4) (ak (aj 5) (ak (aj 12) aF)))))) (aB 13))
  (aN (b7 (tC V.non) (aB 14))
  (aN (cu (jk (bh (aW pJ (aW (bu K) (aj 13) (tC (V.int 1))) (tC (V.int 0)))) (jk (bh (aW ir (aW (bu K) (aj 13) (tC (V.int 2))) (tC V.non))) (bh (aW (vN K false) (aW (bu K) (aj 13) (tC (V.int 2))) (aW (bu K) (aj 6) (tC (V.int 1))))))) (b7 (aj 12) (aB 14)) bD)
  (bV (aW pJ (aX (jA K) [] E0 (ak (aX (xK K) [] E0 (ak (aX (M7 K) [] E0 (ak (ig (ak (aj 12) aF)) aF)) (ak (aj 7) aF))) (ak (tC (V.str (Str.ofString ""))) aF))) (aj 14))))))))))))))))))))
theorem Ni (h:m5 K vs H Q E): ∃Eh,yg K E Eh { nx:=λ _ H'=>Q .non H',rt:=Q } (start ["script","head","signs","filler","many","wheel","house","made","deep","text","more","part","short","state","due"] vs) H:=by
 unfold m5 at h;obtain ⟨a,ns,rfl,TK,hS,h63,hb,q⟩:=h;refine ⟨E0,?_⟩;unfold yg;have hcb: ∀k:Nat,PySem.Builtin.Int.intBits (Mm.cellAt ns k)<=2^20:=λ k=>by
  by_cases c:k<ns.length
  ·rw [Mm.getD_some (Qb c)];exact hb _ (Zl c)
  ·rw [Mm.getD_none (by rfl')];decide
 have hcut:uh (ns.map V.int) (some 5) (some 305)=(ns.drop 5).map V.int:=by
  rw [Hv (by decide) (by decide),Xy (by rw [Qr];exact Zw h63 (by decide)),<- List.map_drop];rfl
 symm;refine ⟨a,ns,0,rfl,hS,?_⟩;symm;refine ⟨a,ns,1,rfl,hS,?_⟩;generalize Mm.cellAt ns 0=hd;obtain ⟨n0,en0,hn0⟩:=Mm.dR (hd / 108) 10 (by decide);symm;rw [show hd / 108%10=(n0:Int) from en0];refine ⟨Mm.cellAt ns 1,2+n0,by rw [Int.natCast_add];rfl,hcb 1,by rfl',λ fs hfl hfn hfg=> ?_⟩;obtain ⟨ss,f,rfl⟩: ∃ss f,fs=ss++[f]:=by
  rcases List.eq_nil_or_concat fs with e | ⟨ss,f,e⟩
  ·rw [e,Wc] at hfl;rfl'
  ·exact ⟨ss,f,by rw [e,List.concat_eq_append]⟩
 have hsl:ss.length=1+n0:=by rw [Yl,Wy] at hfl;rfl'
 have hnd:ss.Nodup:=(Yq.mp hfn).1;have hff:f∉ss:=λ m=>(Yq.mp hfn).2.2 f m f (Ze.mpr rfl) rfl
 have hsg: ∀c∈ss,Hs.Sg (tx [c]):=λ c m=>hfg c (Xo _ m)
 have hfs:Hs.Sg (tx [f]):=hfg f (Yg _ (Ze.mpr rfl));symm;refine qH (c:=f) (show (tx (ss++[f])).length<=1000000 by rw [bw];rfl') ?_ ?_
 ·show qW (ss++[f]) (-1)=some f;rw [Kr (by simp)];simp
 symm;refine p8 (show (tx (ss++[f])).length<=1000000 by rw [bw];rfl') ?_;rw [zq,List.dropLast_concat];obtain ⟨m0,em0,hm0⟩:=Mm.dR hd 6 (by decide);obtain ⟨n1,en1,hn1⟩:=Mm.dR (hd / 6) 3 (by decide);obtain ⟨r0,er0,hr0⟩:=Mm.dR (hd / 18) 3 (by decide);symm;rw [show hd%6=(m0:Int) from em0,show hd / 6%3=(n1:Int) from en1];refine DX n1 (Zi _) (by rfl') (by rfl') (λ k=>V.int (Mm.cellAt ns (2+k)%1001)) (λ k hk A kA=> ?_) λ w0 hw0=> ?_
 ·symm;refine ⟨a,ns,2+k,by rw [Int.natCast_add];rfl,hS,?_⟩;symm;exact kA
 have s0:Same H (upd H w0 (.lst ((List.range n1).map λ k=>V.int (Mm.cellAt ns (2+k)%1001)))):=aH hw0 _;have ew0:upd H w0 (.lst ((List.range n1).map λ k=>V.int (Mm.cellAt ns (2+k)%1001))) w0=some (.lst (((List.range n1).map λ k=>Mm.cellAt ns (2+k)%1001).map V.int)):=by rw [au,Zk];rfl
 generalize upd H w0 (.lst ((List.range n1).map λ k=>V.int (Mm.cellAt ns (2+k)%1001)))=H0 at s0 ew0;have hws: ∀x∈(List.range n1).map (λ k=>Mm.cellAt ns (2+k)%1001),0<=x/\x<=1000:=λ x mx=>by
  obtain ⟨k,_,rfl⟩:=Zc.mp mx;have h1:=Wp (Mm.cellAt ns (2+k)) (show (1001:Int)≠0 by decide);have h2:=Wh (Mm.cellAt ns (2+k)) (show (0:Int)<1001 by decide);rfl'
 have hwl0:((List.range n1).map λ k=>Mm.cellAt ns (2+k)%1001).length<=2:=by rw [Qr,Yv];rfl'
 generalize (List.range n1).map (λ k=>Mm.cellAt ns (2+k)%1001)=ws0 at ew0 hws hwl0;walk_at "gj";walk_at "ns";with_reducible refine iy (λ σ' H'=> ∃ (wl:Addr) (ws:List Int),Same H H'/\H' wl=some (.lst (ws.map V.int))/\1<=ws.length/\ws.length<=2/\(∀x∈ws,0<=x/\x<=1000)/\σ'=[some (.ref a),some (.int hd),some (.str (tx ss)),some (.str (tx [f])),some (.int ((1+m0:Nat):Int)),some (.ref wl),none,none,none,none,none,none,none,none,none]) ?_ ?_
 ·rintro σ' H1 ⟨wl,ws,s1,ewl,hw1,hw2,hwr,rfl⟩;clear s0 ew0 hws hwl0;have hdrop:(ns.drop 5).length<=62:=by rw [List.length_drop];rfl'
  symm;refine Jo (s1.seq hS) λ p hp=> ?_
  rw [hcut];symm;rw [show hd / 18%3=(r0:Int) from er0];refine ⟨p,ns.drop 5,1+r0,ss,by rw [Int.natCast_add];rfl,SqL.of au,hdrop,⟨by rfl',by rfl'⟩,by rfl',by rfl',hsg,λ h H2 ds es s2 hH hdl gd wf hdc=> ?_⟩;have S2:Same H1 H2:=(aH hp _).trans s2;have hn36:(1+m0)*ws.length*ds.length<=36:=Nat.mul_le_mul (Nat.mul_le_mul (show 1+m0<=6 by rfl') hw2) (show ds.length<=3 by rfl');have hrl60: ∀ps∈ds,ps.length<=60:=λ ps mp=>by
   have:=gU (l:=ps.map (·.1)) (m:=ss.map λ c=>tx [c]) (fU (gd.sr ps mp)) λ s ms=>by
    obtain ⟨p,mpp,rfl⟩:=Zc.mp ms;obtain ⟨c,mc,e⟩:=hdc ps mp p mpp;rw [e];exact Zc.mpr ⟨c,mc,rfl⟩
   rw [Qr,Qr] at this;rfl'
  symm;refine ⟨h,wl,ds,es,ws,ss,1+m0,f,_,rfl,TK,hH,gd,wf,hdc,hnd,by rfl',hsg,hfs,hff,S2.seq (SqL.of ewl),λ e=>by rw [e] at hw1;simp at hw1,by rfl',hwr,by rfl',by rfl',λ md H3 ds' es' s3 hM mh=> ?_⟩;symm;refine ⟨h,wl,ds,es,ws,ss,1+m0,rfl,hH.same s3,wf,hdc,hrl60,(S2.trans s3).seq (SqL.of ewl),hnd,by rfl',by rfl',hw1,by unfold nV;rfl',λ d H4 hd0 s4 ed=> ?_⟩;have S4:Same H1 H4:=(S2.trans s3).trans s4;symm;refine Jo ((s1.trans S4).seq hS) λ p2 hp2=> ?_
  rw [hcut];symm;refine ⟨h,p2,ds,es,ns.drop 5,ss,rfl,((hH.same s3).same s4).same (aH hp2 _),wf,hdc,by rfl',by rfl',hsg,SqL.of au,by rfl',λ H5 ts s5 htl htc=> ?_⟩;have S5:Same H4 H5:=(aH hp2 _).trans s5;have S15:Same H1 H5:=S4.trans S5;have hH5:HsT K H5 h ds es:=((hH.same s3).same s4).same S5;have hM5:HsT K H5 md ds' es':=(hM.same s4).same S5;have ed5:=S5.get ed;have hW5:SqL K H5 wl (ws.map V.int):=S15.seq (SqL.of ewl);have hS5:SqL K H5 a (ns.map V.int):=(s1.trans S15).seq hS;clear S5 s5 S4 s4 s3 S2 s2 hH hM ed;symm;refine ⟨a,ns,4,rfl,hS5,?_⟩;generalize Mm.cellAt ns 4=mo;obtain ⟨k1,ek1,hk1⟩:=Mm.dR mo (ts.length+1) (by rfl');obtain ⟨k2,ek2,hk2⟩:=Mm.dR (mo / 301) 41 (by decide);have hxt:(tx ts).length<=1000000:=by rw [bw];rfl'
  symm;refine gD hxt ?_;rw [bw];symm;rw [show (ts.length:Int)+1=((ts.length+1:Nat):Int) from rfl,ek1];refine p8 hxt ?_;rw [v4 (by rfl')];symm;intro lp hlp;walk_at "ns";have S6:Same H5 (upd H5 lp (.lst [.str (tx ts), .str (tx (ts.take k1))])):=aH hlp _;refine jQ (λ c:List Nat=>V.str (tx c)) (zs:=[ts,ts.take k1]) (SqL.of au) (λ i σ H'=>Same H5 H'/\H' lp=some (.lst [.str (tx ts), .str (tx (ts.take k1))])/\ ∃o11:Option V,σ=[some (.ref a),some (.int hd),some (.str (tx ss)),some (.str (tx [f])),some (.int ((1+m0:Nat):Int)),some (.ref wl),some (.ref h),some (.ref md),some (.ref d),some (.str (tx ts)),some (.int mo),o11,none,none,none]) ⟨S6,au,none,rfl⟩ ?_ ?_ ?_
  ·rintro i σ H' ⟨_,e,_⟩;exact SqL.of e
  ·rintro i z σ H' hz ⟨s6,elp,o11,rfl⟩;have mz:=Zj hz;have hzc:(∀c∈z,c∈ss)/\z.length<=63:=by
    simp only [Zp,Yi,Ws] at mz;rcases mz with rfl | rfl
    ·exact ⟨htc,htl⟩
    ·exact ⟨λ c m=>htc c (List.mem_of_mem_take m),by rw [Ys];rfl'⟩
   symm;intro pt hpt;symm;rw [show mo / 301%41=(k2:Int) from ek2];refine KZ (by rfl') ?_;have S7:Same H5 (upd H' pt (.tup [.str (tx ss), .int ((1+m0:Nat):Int), .ref wl])):=s6.new hpt;symm;refine ⟨md,h,pt,d,wl,ds,ds',es,es',ws,ss,z,1+m0,f,k2,rfl,hM5.same S7,mh,hH5.same S7,wf,hdc,SqT.of au,S7.seq hW5,hnd,by rfl',by rfl',by rfl',hw1,by rfl',hwr,by unfold nV;rfl',S7.get ed5,hzc.1,hzc.2,by rfl',λ H8 s8=> ?_⟩;symm;exact ⟨S7.trans s8,s8.get (aO hpt elp),_,rfl⟩
  ·rintro σ H' ⟨s6,_,o11,rfl⟩;symm;refine p8 hxt ?_;rw [show (39:Int)=((39:Nat):Int) from rfl,Il];have hshc: ∀c∈ts.take 39,c∈ss:=λ c m=>htc c (List.mem_of_mem_take m)
   have hshl:(ts.take 39).length<=39:=by rw [Ys];rfl'
   generalize ts.take 39=sh at hshc hshl;symm;refine ⟨h,wl,ds,es,ws,ss,sh,1+m0,rfl,hH5.same s6,wf,s6.seq hW5,by rfl',hw1,hwr,by rfl',by rfl',by rfl',by rfl',hnd,hshc,λ st H8 s8 hst0 est=> ?_⟩;have S8:Same H5 H8:=s6.trans s8;have hH8:=hH5.same S8;have hM8:=hM5.same S8;obtain ⟨dd,ee,rs,g1,ers,g3,g4,g5⟩:=id hH8;have ix1: ∀ {H':Hp} {Q:VK},Same H8 H'->Q (.int ((jT ss (1+m0) ws sh%(1+m0):Nat):Int)) H'->bu K (.ref st) (.int 1) H' Q:=λ s h=>bj (SqT.of (s.get est)) (aJ (j:=1) rfl) h
   have ix2: ∀ {H':Hp} {Q:VK},Same H8 H'->Q (ov (Hs.go ds sh)) H'->bu K (.ref st) (.int 2) H' Q:=λ s h=>bj (SqT.of (s.get est)) (aJ (j:=2) rfl) h
   walk_at "gj";walk_at "ns";with_reducible refine iy (λ σ' H'=>H'=H8/\ ∃ (dv:V) (o11:Option V),((dv= .str (tx sh)/\ ∃x,Hs.go ds sh=some x/\x∈es/\jT ss (1+m0) ws sh%(1+m0)=0)\/(dv= .non/\ ¬ ∃x,Hs.go ds sh=some x/\x∈es/\jT ss (1+m0) ws sh%(1+m0)=0))/\σ'=[some (.ref a),some (.int hd),some (.str (tx ss)),some (.str (tx [f])),some (.int ((1+m0:Nat):Int)),some (.ref wl),some (.ref h),some (.ref md),some (.ref d),some (.str (tx ts)),some (.int mo),o11,some (.str (tx sh)),some (.ref st),some dv]) ?_ ?_
   ·rintro σ' H' ⟨rfl,dv,o11,hdv,rfl⟩;have htk:=mh.tk sh hshc 0;rw [List.replicate_zero,Xd] at htk;have htk2:(∃r,Hs.go ds' sh=some r/\r∈es')↔ ∃x,Hs.go ds sh=some x/\x∈es/\jT ss (1+m0) ws sh%(1+m0)=0:=by
     rw [<- htk]
     cases eg:Hs.go ds' sh with
     | none=>
      refine Iff.intro (λ ⟨r,e,_⟩=>(nomatch e)) λ z=> ?_
      have:inV (ov none) (es'.map V.int)=false:=by
       generalize es'=l;induction l with
       | nil=>rfl
       | cons a l ih=>exact ih
      rw [this] at z;cases z
     | some r=>exact ⟨λ ⟨r',e,m⟩=>by cases e;exact j9.mpr m,λ z=>⟨r,rfl,j9.mp z⟩⟩
    symm;intro la hla;symm;have hsgl: ∀c∈sh,Hs.Sg (tx [c]):=λ c m=>hsg c (hshc c m)
    refine ⟨la,[sh],rfl,SqL.of au,by simp;rfl',by simp,λ w mw c mc=> ?_,λ rb H9 bs dB eB s9 hb h40 hHb bk=> ?_,λ ne=>absurd (ne _ (Nh sh)) (by rw [Qr,Yv];rfl')⟩
    ·rw [Ze.mp mw] at mc;obtain ⟨n,en⟩:=hsgl c mc;exact ⟨n,by injection (L2.lA.mp en)⟩
    have gB:=Qt hb bk h40 hsgl;have wB:=bk.wf hb;have S9:Same H' H9:=(aH hla _).trans s9;symm;refine ⟨rb,md,dB,ds',eB,es',rfl,hHb,hM8.same S9,gB,mh.gd,wB,mh.wf,λ N hN=> ?_⟩;have hP40:(bx dB ds' N).length<=40:=Zw (Qu hb bk gB N) h40;refine ⟨λ _ rc H10 s10 hC=> ?_,λ z=>absurd z (by rfl')⟩;obtain ⟨gC,wC⟩:=tR (e1:=eB) (e2:=es') wB mh.wf gB gB.ln hN hP40;obtain ⟨bt1,bt2⟩:=Ng hb bk gB (eM:=es') mh.wf hN hP40 rfl;symm;refine ⟨rc,_,_,[],rfl,hC,wC,λ ps mp p mpp=>(gC.sg ps mp p mpp).1,by rw [Qr];exact hP40,λ hno H11 s11=> ?_,λ r dd us eg er ht H11 s11=> ?_⟩
    ·have hn:=bt1 (hno 0 rfl);rw [htk2] at hn;rcases hdv with ⟨_,h⟩ | ⟨rfl,_⟩
     ·exact absurd h hn
     symm;rw [Yh rfl];exact q _
    ·obtain rfl:(0:Int)=r:=Zx eg;obtain ⟨rfl,ht2⟩:=bt2 _ _ ht;rw [htk2] at ht2;rcases hdv with ⟨rfl,_⟩ | ⟨_,h⟩
     ·symm;rw [Yh rfl];exact q _
     ·exact absurd ht2 h
   ·intro N hN;symm;refine ix1 (Same.refl _) ?_;symm;refine fG (λ c1=> ?_) λ c1=> ?_
    ·symm;refine ix2 (Same.refl _) ?_;symm
     cases eg:Hs.go ds sh with
     | none=>
      refine iw rfl ?_;symm;exact hN _ _ ⟨rfl, .non,_, .inr ⟨rfl,λ ⟨x,e,_⟩=>by rw [eg] at e;cases e⟩,rfl⟩
     | some x=>
      refine gr (by intro h;cases h) ?_;symm;refine ix2 (Same.refl _) ?_;symm;refine bj (SqT.of g1) (aJ (j:=1) (v:= .ref ee) rfl) ?_;rw [eg];refine wR (xs:=es.map V.int) (.inr (SqT.of g5)) rfl (eZ _) ?_;refine ⟨_,rfl,Hu (λ c=> ?_) λ c=> ?_⟩
      ·symm;exact hN _ _ ⟨rfl,_,_, .inl ⟨rfl,x,eg,j9.mp c,by rfl'⟩,rfl⟩
      ·symm;refine hN _ _ ⟨rfl, .non,_, .inr ⟨rfl,λ ⟨y,e,m,_⟩=> ?_⟩,rfl⟩;rw [eg] at e
       cases e;rw [j9.mpr m] at c
       cases c
    ·symm;exact hN _ _ ⟨rfl, .non,_, .inr ⟨rfl,λ ⟨x,_,_,e⟩=>absurd (show ((jT ss (1+m0) ws sh%(1+m0):Nat):Int)=0 by rfl') c1⟩,rfl⟩
 ·intro N hN;symm;intro p3 hp3;refine rEqD.nil (n:=1) (Dp.ints (SqL.of (aO hp3 ew0))) (sG λ d hd=>by obtain ⟨i,_,rfl⟩:=Zc.mp hd;exact Ef 0 i) (by decide) (SqL.of au) ?_;symm;refine fG (λ c=> ?_) λ c=> ?_
  ·symm;intro p4 hp4;symm;exact hN _ _ ⟨p4,[1],(s0.new hp3).new hp4,au,by decide,by decide,by decide,rfl⟩
  ·symm;refine hN _ _ ⟨w0,ws0,s0.new hp3,aO hp3 ew0,?_,hwl0,hws,rfl⟩
   cases ws0 with
   | nil=>exact absurd rfl c
   | cons x r=>exact Nat.succ_pos _
theorem Nj (h:m5 K vs H Q E):vs.length=1:=by
 unfold m5 at h;obtain ⟨_,_,rfl,_⟩:=h;rfl
end Pg
set_option Elab.async false
set_option linter.all false
set_option maxRecDepth 100000
namespace Pg
open PySem L2 PySem.W
set_option maxHeartbeats 0
theorem Nm:FnScope ["thing"] ["thing"] (aC (top 2)):=by ac_rfl
theorem Np:FnScope ["thing"] ["thing"] (aC (top 3)):=by ac_rfl
theorem Qv:FnScope ["rooms"] ["rooms"] (aC (top 10)):=by ac_rfl
theorem Qw:FnScope ["room","rooms"] ["room","rooms"] (aC (top 13)):=by ac_rfl
theorem tU:FnScope ["pairs","rooms","made","sign","room"] ["pairs","rooms"] (aC (top 11)):=by ac_rfl
theorem yh:FnScope ["ends","rooms","made","end"] ["ends","rooms"] (aC (top 12)):=by ac_rfl
theorem Jy:FnScope ["doors","ends","rooms"] ["doors","ends"] (aC (top 9)):=by ac_rfl
theorem FW:FnScope ["doors","sign","letter","room"] ["doors","sign"] (aC (top 15)):=by ac_rfl
theorem tV:FnScope ["house","text","room","sign"] ["house","text"] (aC (top 14)):=by ac_rfl
theorem Nq:FnScope ["house","text"] ["house","text"] (aC (top 16)):=by ac_rfl
theorem Jz:FnScope ["doors","found","depth","door"] ["doors","found","depth"] (aC (top 19)):=by ac_rfl
theorem pG:FnScope ["house","answer","depth","room","doors"] ["house"] (aC (top 18)):=by ac_rfl
theorem m6:FnScope ["house","text","room","found","signs","door"] ["house","text"] (aC (top 20)):=by ac_rfl
theorem tW:FnScope ["words","found","word","length"] ["words"] (aC (top 25)):=by ac_rfl
theorem tX:FnScope ["things","numbers","number","thing"] ["things"] (aC (top 26)):=by ac_rfl
theorem tY:FnScope ["words","numbers","doors","beginning"] ["words"] (aC (top 24)):=by ac_rfl
theorem JB:FnScope ["numbers","number"] ["numbers"] (aC (top 28)):=by ac_rfl
theorem Qx:FnScope ["signs","many","rest","number","later"] ["signs","many","rest","number","later"] (aC (top 29)):=by ac_rfl
theorem pH:FnScope ["signs","many","wheel","numbers","doors","turn","later"] ["signs","many","wheel"] (aC (top 27)):=by ac_rfl
theorem vy:FnScope ["one","other","pair","leads","sign","room","beside"] ["one","other","pair"] (aC (top 31)):=by ac_rfl
theorem j4:FnScope ["one","other","pairs","numbers","doors","leads","sign","pair","ends"] ["one","other"] (aC (top 30)):=by ac_rfl
theorem m7:FnScope ["house","filler","pairs","last","doors","ends","end"] ["house","filler"] (aC (top 32)):=by ac_rfl
theorem Qy:FnScope ["script","k"] ["script","k"] (aC (top 34)):=by ac_rfl
theorem fY:FnScope ["cell","many","some","number","found","k","at"] ["cell","many"] (aC (top 35)):=by ac_rfl
theorem mR:FnScope ["cells","many","signs","doors","ends","cell","room","sign","rest","last"] ["cells","many","signs"] (aC (top 36)):=by ac_rfl
theorem FZ:FnScope ["house","room","sign","pair"] ["house","room","sign"] (aC (top 37)):=by ac_rfl
theorem gG:FnScope ["house","signs","cells","text","room","cell","pairs","sign"] ["house","signs","cells"] (aC (top 38)):=by ac_rfl
theorem m8:FnScope ["house","signs","many","wheel","text","room","total","k"] ["house","signs","many","wheel","text"] (aC (top 39)):=by ac_rfl
theorem pI:FnScope ["state","pair","signs","many","wheel","turn","rest","room","worth"] ["state","pair","signs","many","wheel"] (aC (top 40)):=by ac_rfl
theorem j5:FnScope ["house","signs","many","wheel","deep","place","room","state","far","ways"] ["house","signs","many","wheel"] (aC (top 41)):=by ac_rfl
theorem m9:FnScope ["house","signs","many","wheel","deep","state","told","pair","way"] ["house","signs","many","wheel","deep","state"] (aC (top 42)):=by ac_rfl
theorem yj:FnScope ["house","signs","many","wheel","turned_round","filler","summed"] ["house","signs","many","wheel","turned_round","filler"] (aC (top 43)):=by ac_rfl
theorem iC:FnScope ["made","house","plan","deep","part","fillers","signs","many","wheel","state","taken","told","due","behind"] ["made","house","plan","deep","part","fillers"] (aC (top 44)):=by ac_rfl
theorem cL:FnScope ["script","head","signs","filler","many","wheel","house","made","deep","text","more","part","short","state","due"] ["script"] (aC (top 45)):=by ac_rfl
inductive DI (K:Frag) (n:Str) (st:Stmt) (dv:Value):Prop
 | mk {f:Addr} {oc kV dc pm cd ct:Value} {od an:Option Addr} {sl:Array (Option Value)} (a:nsIn K mainGlobals n=some (some (.ref f))) (l:K.lookup f=some ⟨oc,od, .func (fnOf n n (cT st) (c7 st) (aC st) dv kV dc pm an cd ct),sl⟩) (q:codeIn K cd n=true) (k:keepIn K (.ref f)=true):DI K n st dv
def Tr:Option Addr->Value
 | none=> .none
 | some t=> .ref t
theorem bM {K:Frag} {t:Option Addr} {n:Str} {i:Nat} (h:JD K n=JF t n i):DI K n (top i) (Tr t):=by
 unfold JD JF at h;split at h
 ·rename_i f hf;split at h
  ·rename_i c od d sl hl;obtain ⟨t',ht,e⟩:=Yd.mp h;simp only [Prod.mk.injEq] at e;obtain ⟨rfl,e1,e2,e3,e4,e5,e6,e7,e8,e9,e10⟩:=e;obtain ⟨dn,dq,dp,db,ds,dg,dc,dd,dk,ddoc,dpm,dan,dcode,dct,dbt⟩:=d;dsimp only at e1 e2 e3 e4 e5 e6 e7 e8 e9 ht;subst e1 e2 e3 e4 e5 e6 e7 e8;split at ht
   ·cases ht;exact .mk hf hl e9 e10
   ·cases ht;exact .mk hf hl e9 e10
   ·cases ht
  ·cases h
 ·cases h
theorem G3 {K:Frag} {C:Addr} (h:QK K C=Qz):ExcK K C:=by
 simp only [QK,Qz,Prod.mk.injEq,List.cons.injEq,and_true] at h;obtain ⟨a,⟨b,c,d,e⟩,f,g,i⟩:=h;exact ⟨a,b,c,d,e,f,g,i⟩
theorem dW {β γ:Type} {f:β->γ} {l:List β} {r:List γ} (h:l.map f=r) (i:Nat) {b:β} {c:γ} (e1:l[i]? =some b) (e2:r[i]? =some c):f b=c:=by
 rw [<- h,Zg,e1] at e2;exact Zx e2
theorem yl {K:Frag} {a:Addr} {c:Value} {vs:List Value} (h:QL K a=some (c,vs)): ∃te tn ts,K.lookup a=some ⟨c,te, .seq vs.toArray tn,ts⟩:=by
 unfold QL at h;split at h
 ·rename_i hl;cases h;exact ⟨_,_,_,hl⟩
 ·cases h
theorem ck {P:Program} {w:World} {K:Frag} {mg:Str->Option Value} {base h:Heap} {n:Str} {st:Stmt} {ps:List Str} {d:Nat} {sp:Sp} (X:K.In h) (G:h.Ns mainGlobals mg) (D:DI K n st .none)
  (b: ∀ (kV doc pm:Value) (an:Option Addr) (cdv ct:Value) (us:List Value),us.length=ps.length->bindArgs (fnOf n n (cT st) (c7 st) (aC st) .none kV doc pm an cdv ct) ⟨us,[]⟩=pure (ps.zip us))
  (o: ∀f fd,Fun K n n st f fd->FnOk P w K mg base Gv d f fd ps sp):Cal P w K mg base d n ps sp:=by
 obtain ⟨a,l,q,k⟩:=D;exact ⟨_,_,o _ _ (ou l q k),(ou l q k).binds b,k,mg_of X G a⟩
theorem G9 {P:Program} {w:World} {K:Frag} {mg:Str->Option Value} {base h:Heap} {n:Str} {st:Stmt} {ps:List Str} {d:Nat} {sp:Sp} (X:K.In h) (G:h.Ns mainGlobals mg) (D:DI K n st .none)
  (b: ∀ (kV doc pm:Value) (an:Option Addr) (cdv ct:Value) (us:List Value),us.length=ps.length->bindArgs (fnOf n n (cT st) (c7 st) (aC st) .none kV doc pm an cdv ct) ⟨us,[]⟩=pure (ps.zip us))
  (o: ∀f fd,Fun K n n st f fd->FnOk P w K mg base (kZ P w) d f fd ps sp):CalX P w K mg base d n ps sp:=by
 obtain ⟨a,l,q,k⟩:=D;exact ⟨_,_,o _ _ (ou l q k),(ou l q k).binds b,k,mg_of X G a⟩
theorem cq {P:Program} {w:World} {K:Frag} {mg:Str->Option Value} {base:Heap} {n:Str} {ps:List Str} {d:Nat} {sp:Sp} (h:CalX P w K mg base d n ps sp):Cal P w K mg base d n ps (λ vs H Q _=>sp vs H Q E0):=by
 obtain ⟨_,_,o,b⟩:=h;exact ⟨_,_,o.quiet,b⟩
theorem Nr {w:World} {K:Frag} {h:Heap} {mg:Str->Option Value} {fa:Addr} (X:K.In h) (G:h.Ns mainGlobals mg) (hfa:mg "law"=some (.ref fa)) (e:obs K=ans)
  : ∃fd:FuncData,(∀ (s:Shared) (v:Value),BindsTo s fd ⟨[v],[]⟩ [("script",v)])/\ ∀base:Heap,K.In base->base.Ns mainGlobals mg->FnOk pW w K mg base Gv 7 fa fd ["script"] (m5 K):=by
 have e1:nms.map (nsIn K mainGlobals)=Rr:=Yn (·.1) e;have e2:QB.map (λ d=>JD K d.1)=QB.map (λ d=>JF none d.1 d.2):=Yn (·.2.1) e;have e3:=Yn (·.2.2.1) e;have e4:=Yn (·.2.2.2.1) e;have e5:=Yn (·.2.2.2.2) e;obtain @⟨_,_,kV,dc,pm,cd,ct,_,an,_,a,lL,qL,kL⟩:=bM (dW e2 32 rfl rfl:JD K "law"=JF none "law" 45)
 cases hfa.symm.trans (mg_of X G a);refine ⟨fnOf "law" "law" (cT (top 45)) (c7 (top 45)) (aC (top 45)) .none kV dc pm an cd ct,λ s v=> .of_eq rfl,λ base _ _=> ?_⟩;have z_isinstance:mg "isinstance"=none:=mg_none_of X G (dW e1 0 rfl rfl);have z_bool:mg "bool"=none:=mg_none_of X G (dW e1 1 rfl rfl);have z_int:mg "int"=none:=mg_none_of X G (dW e1 2 rfl rfl);have z_len:mg "len"=none:=mg_none_of X G (dW e1 3 rfl rfl);have z_str:mg "str"=none:=mg_none_of X G (dW e1 4 rfl rfl);have z_ord:mg "ord"=none:=mg_none_of X G (dW e1 5 rfl rfl);have z_tuple:mg "tuple"=none:=mg_none_of X G (dW e1 6 rfl rfl);have z_sorted:mg "sorted"=none:=mg_none_of X G (dW e1 7 rfl rfl);have z_range:mg "range"=none:=mg_none_of X G (dW e1 8 rfl rfl);have z_enumerate:mg "enumerate"=none:=mg_none_of X G (dW e1 9 rfl rfl);have z_set:mg "set"=none:=mg_none_of X G (dW e1 10 rfl rfl);have z_list:mg "list"=none:=mg_none_of X G (dW e1 11 rfl rfl);have z_any:mg "any"=none:=mg_none_of X G (dW e1 12 rfl rfl);have g_LEFT_OUT:mg "LEFT_OUT"=some (.int 37 189)/\RelV (V.int 37) (.int 37 189):=⟨mg_of X G (dW e1 13 rfl rfl),_,rfl⟩;have g_MOST_ROOMS:mg "MOST_ROOMS"=some (.int 40 243)/\RelV (V.int 40) (.int 40 243):=⟨mg_of X G (dW e1 14 rfl rfl),_,rfl⟩;have g_GREATEST_ON_WHEEL:mg "GREATEST_ON_WHEEL"=some (.int 1000 349)/\RelV (V.int 1000) (.int 1000 349):=⟨mg_of X G (dW e1 15 rfl rfl),_,rfl⟩;have k_BlotError:mg "BlotError"=some (.ref SX)/\ExcK K SX:=⟨mg_of X G (dW e1 16 rfl rfl),G3 (dW e3 0 rfl rfl)⟩;have k_NoHouse:mg "NoHouse"=some (.ref n6)/\ExcK K n6:=⟨mg_of X G (dW e1 17 rfl rfl),G3 (dW e3 1 rfl rfl)⟩;obtain ⟨_,_,_,t_PLAIN_WHEEL⟩:=yl (dW e5 1 rfl rfl);have k_PLAIN_WHEEL:mg "PLAIN_WHEEL"=some (.ref bY)/\TupK K bY [V.int 1]:=⟨mg_of X G (dW e1 18 rfl rfl),L2.Iv t_PLAIN_WHEEL⟩;have c_f22:Cal pW w K mg base 1 "is_whole" ["thing"] (iV K):=ck (st:=top 2) X G (bM (dW e2 0 rfl rfl)) (λ _ _ _ _ _ _=>ar1 λ _=>rfl) λ _ _ F=>F.ok Nm (λ _ _ _ _ h=>Lg h) λ cdv A outer s H vs Q E hr h=>by
  obtain ⟨Eh,h⟩:=Lf h;exact ⟨wW K E Eh,(aA (bf (kj (aL (cU K rfl) rfl z_isinstance (by ac_nf) (aa (pv 0) (aa (j6 (v:= .ty "int") (u:= .type "int") rfl z_int (by ac_nf) rfl) aq))) (nW (JN (aL (cU K rfl) rfl z_isinstance (by ac_nf) (aa (pv 0) (aa (j6 (v:= .ty "bool") (u:= .type "bool") rfl z_bool (by ac_nf) rfl) aq)))))))),h⟩
 have c_f24:Cal pW w K mg base 1 "is_sign" ["thing"] (jx K):=ck (st:=top 3) X G (bM (dW e2 1 rfl rfl)) (λ _ _ _ _ _ _=>ar1 λ _=>rfl) λ _ _ F=>F.ok Np (λ _ _ _ _ h=>Li h) λ cdv A outer s H vs Q E hr h=>by
  obtain ⟨Eh,h⟩:=Lh h;exact ⟨wX K E Eh,(ao (bH (PW.pt (pX (gq (cg K rfl (aL (cU K rfl) rfl z_isinstance (by ac_nf) (aa (pv 0) (aa (j6 (v:= .ty "str") (u:= .type "str") rfl z_str (by ac_nf) rfl) aq))) (λ _=>rfl))) (nU (aV Br (aL (aR K rfl) rfl z_len (by ac_nf) (aa (pv 0) aq)) az (aY _))))) (aA (bf pW)) aZ)
   (aA (bf (kj (Bv qw qw bW (pv 0) bW) (nW (dH Br (aL By rfl z_ord (by ac_nf) (aa (pv 0) aq)) (nj rfl g_LEFT_OUT.1 g_LEFT_OUT.2) (aY _))))))),h⟩
 have x_f4:CalX pW w K mg base 1 "check_rooms" ["rooms"] (mL K):=G9 (st:=top 10) X G (bM (dW e2 2 rfl rfl)) (λ _ _ _ _ _ _=>ar1 λ _=>rfl) λ _ _ F=>F.okX Qv (λ _ _ _ _ h=>Q7 h) λ cdv A outer s H vs Q E hr h=>by
  obtain ⟨Eh,h⟩:=Q6 h;exact ⟨Fb K E Eh,(aA (bH (gq (nZ uf uf az (pv 0) (nj rfl g_MOST_ROOMS.1 g_MOST_ROOMS.2))) (aA (cY Xb cH rfl rfl k_NoHouse.1 k_NoHouse.2.1 (aa bW aq))) aZ)),h⟩
 have x_f7:CalX pW w K mg base 2 "check_room" ["room","rooms"] (ph K):=G9 (st:=top 13) X G (bM (dW e2 3 rfl rfl)) (λ _ _ _ _ _ _=>ar2 λ _ _=>rfl) λ _ _ F=>F.okX Qw (λ _ _ _ _ h=>Q9 h) λ cdv A outer s H vs Q E hr h=>by
  obtain ⟨Eh,h⟩:=Q8 h;exact ⟨Fd K E Eh,(aA (bH (gq (PW.pt (dX (cg K rfl (b8 c_f22 hr (by decide) rfl (aa (pv 0) aq)) (λ _=>rfl)) (cZ (nZ uf Bt az (pv 0) (pv 1)))))) (aA (cY Xb cH rfl rfl k_NoHouse.1 k_NoHouse.2.1 (aa bW aq))) aZ)),h⟩
 have x_f13:CalX pW w K mg base 3 "made_doors" ["pairs","rooms"] (lB K):=G9 (st:=top 11) X G (bM (dW e2 4 rfl rfl)) (λ _ _ _ _ _ _=>ar2 λ _ _=>rfl) λ _ _ F=>F.okX tU (λ _ _ _ _ h=>Lk h) λ cdv A outer s H vs Q E hr h=>by
  obtain ⟨Eh,h⟩:=Lj h;exact ⟨wY K E Eh,(ao (aG (i:=2) tU.nd rfl oI oE)
   (ao (bJ fO rfl (bQ K rfl (pv 0)) (eU K rfl rfl (bz (aM (i:=3) tU.nd rfl oI) (bz (aM (i:=4) tU.nd rfl oI) eO))) (ao (bH (gq (cg K rfl (b8 c_f24 hr (by decide) rfl (aa (pv 3) aq)) (λ _=>rfl))) (aA (cY Xb cH rfl rfl k_NoHouse.1 k_NoHouse.2.1 (aa bW aq))) aZ)
   (ao (bH (vA (Cd (cO hr) (pv 3) (pv 2)) (by with_unfolding_all rfl)) (aA (cY Xb cH rfl rfl k_NoHouse.1 k_NoHouse.2.1 (aa bW aq))) aZ)
   (ao (cz (cW x_f7 hr (by decide) rfl (E:=E) (bN λ _ _ z=>z) (aa (pv 4) (aa (pv 1) aq))))
   (aA (gb (cO hr) (pv 2) (pv 3) (pv 4) rfl))))))
   (aA (bf (cG (bT K rfl) rfl z_tuple (by ac_nf) (aa (Ad rfl rfl z_sorted (pv 2)) aq)))))),h⟩
 have x_f18:CalX pW w K mg base 3 "made_ends" ["ends","rooms"] (lC K):=G9 (st:=top 12) X G (bM (dW e2 5 rfl rfl)) (λ _ _ _ _ _ _=>ar2 λ _ _=>rfl) λ _ _ F=>F.okX yh (λ _ _ _ _ h=>Lp h) λ cdv A outer s H vs Q E hr h=>by
  obtain ⟨Eh,h⟩:=Ln h;exact ⟨wZ K E Eh,(ao (aG (i:=2) yh.nd rfl oI oE)
   (ao (bJ fO rfl (bQ K rfl (pv 0)) (aM (i:=3) yh.nd rfl oI) (ao (cz (cW x_f7 hr (by decide) rfl (E:=E) (bN λ _ _ z=>z) (aa (pv 3) (aa (pv 1) aq))))
   (ao (bH (vA (Cd (cO hr) (pv 3) (pv 2)) (by with_unfolding_all rfl)) (aA (cY Xb cH rfl rfl k_NoHouse.1 k_NoHouse.2.1 (aa bW aq))) aZ)
   (aA (gb (cO hr) (pv 2) (pv 3) pW rfl)))))
   (aA (bf (cG (bT K rfl) rfl z_tuple (by ac_nf) (aa (aL (uH rfl) rfl z_sorted (by ac_nf) (aa (pv 2) aq)) aq)))))),h⟩
 have x_f6:CalX pW w K mg base 4 "make_house" ["doors","ends"] (jj K):=G9 (st:=top 9) X G (bM (dW e2 6 rfl rfl)) (λ _ _ _ _ _ _=>ar2 λ _ _=>rfl) λ _ _ F=>F.okX Jy (λ _ _ _ _ h=>Qc h) λ cdv A outer s H vs Q E hr h=>by
  obtain ⟨Eh,h⟩:=Qa h;exact ⟨Ff K E Eh,(ao (aG (i:=2) Jy.nd rfl (Or.inr rfl) (aL (aR K rfl) rfl z_len (by ac_nf) (aa (pv 0) aq)))
   (ao (cz (cW x_f4 hr (by decide) rfl (E:=E) (bN λ _ _ z=>z) (aa (pv 2) aq)))
   (aA (bf (cP (aa (cG (bT K rfl) rfl z_tuple (by ac_nf) (aa (Kg (E:=E) [none,some 2] ["pairs","rooms"] CN rfl rfl rfl (bQ K rfl (pv 0)) (show CScope (aC (top 9)) _ from ⟨rfl,by ac_nf,by ac_nf,by ac_nf⟩) (show capOk [none,some 2] ["pairs","rooms"] (["doors","ends","rooms"]:List Str) _=true from by ac_nf) (λ _ _ _ _ _ _ _=>(aM (i:=0) (show List.Nodup (["pairs","rooms"]:List Str) by ac_nf) rfl oI)) (λ _ _ _ _ _ _ _=>cA) (λ _ _ _ _ _ _ _ hpx=>(cW x_f13 hr (by decide) rfl (E:=E) hpx (aa (pv 0) (aa (pv 1) aq))))) aq)) (aa (cW x_f18 hr (by decide) rfl (E:=E) (bN λ _ _ z=>z) (aa (pv 1) (aa (pv 2) aq))) aq))))))),h⟩
 have c_f3:Cal pW w K mg base 1 "room_behind" ["doors","sign"] (mO K):=ck (st:=top 15) X G (bM (dW e2 7 rfl rfl)) (λ _ _ _ _ _ _=>ar2 λ _ _=>rfl) λ _ _ F=>F.ok FW (λ _ _ _ _ h=>Qe h) λ cdv A outer s H vs Q E hr h=>by
  obtain ⟨Eh,h⟩:=Qd h;exact ⟨Fg K E Eh,(ao (bJ Yz rfl (fC K rfl (pv 0)) (eU K rfl rfl (bz (aM (i:=2) FW.nd rfl oI) (bz (aM (i:=3) FW.nd rfl oI) eO))) (aA (bH (aV fu (pv 2) (pv 1) (aY _)) (aA (bf (pv 3))) aZ)))
   (aA (bf bG))),h⟩
 have c_f32:Cal pW w K mg base 2 "goes" ["house","text"] (jy K):=ck (st:=top 14) X G (bM (dW e2 8 rfl rfl)) (λ _ _ _ _ _ _=>ar2 λ _ _=>rfl) λ _ _ F=>F.ok tV (λ _ _ _ _ h=>Lr h) λ cdv A outer s H vs Q E hr h=>by
  obtain ⟨Eh,h⟩:=Lq h;exact ⟨xf K E Eh,(ao (aG (i:=2) tV.nd rfl oI az)
   (ao (bJ Yz rfl (Kd (pv 1)) (aM (i:=3) tV.nd rfl oI) (ao (aG (i:=2) tV.nd rfl oI (b8 c_f3 hr (by decide) rfl (aa (aQ (aK K rfl) (aQ (aK K rfl) (pv 0) az (λ _ _=>rfl)) (pv 2) (λ _ _=>rfl)) (aa (pv 3) aq))))
   (aA (bH (aV f9 (pv 2) bG (aY _)) (aA (bf bG)) aZ))))
   (aA (bf (pv 2))))),h⟩
 have c_f27:Cal pW w K mg base 3 "takes" ["house","text"] (jz K):=ck (st:=top 16) X G (bM (dW e2 9 rfl rfl)) (λ _ _ _ _ _ _=>ar2 λ _ _=>rfl) λ _ _ F=>F.ok Nq (λ _ _ _ _ h=>Lw h) λ cdv A outer s H vs Q E hr h=>by
  obtain ⟨Eh,h⟩:=Ls h;exact ⟨xg K E Eh,(aA (bf (dH (di K rfl) (b8 c_f32 hr (by decide) rfl (aa (pv 0) (aa (pv 1) aq))) (aQ (aK K rfl) (pv 0) az (λ _ _=>rfl)) (by with_unfolding_all rfl)))),h⟩
 have c_f1:Cal pW w K mg base 1 "door_to_depth" ["doors","found","depth"] (pq K):=ck (st:=top 19) X G (bM (dW e2 10 rfl rfl)) (λ _ _ _ _ _ _=>Ny λ _ _ _=>rfl) λ _ _ F=>F.ok Jz (λ _ _ _ _ h=>Qg h) λ cdv A outer s H vs Q E hr h=>by
  obtain ⟨Eh,h⟩:=Qf h;exact ⟨Fi K E Eh,(ao (bJ Yz rfl (fC K rfl (pv 0)) (aM (i:=3) Jz.nd rfl oI) (aA (bH (aV fu (aQ (bO K rfl) (pv 1) (aQ (aK K rfl) (pv 3) az (λ _ _=>rfl)) (λ _ _=>rfl)) (pv 2) (aY _)) (aA (bf (pv 3))) aZ)))
   (aA (bf bG))),h⟩
 have c_f25:Cal pW w K mg base 2 "depths" ["house"] (lD K):=ck (st:=top 18) X G (bM (dW e2 11 rfl rfl)) (λ _ _ _ _ _ _=>ar1 λ _=>rfl) λ _ _ F=>F.ok pG (λ _ _ _ _ h=>Ly h) λ cdv A outer s H vs Q E hr h=>by
  obtain ⟨Eh,h⟩:=Lx h;exact ⟨xj K E Eh,(ao (qu (i:=1) [none,some 0] ["room","house"] rfl pG.nd rfl rfl (cF rfl z_range (aa (aL (aR K rfl) rfl z_len (by ac_nf) (aa (aQ (aK K rfl) (pv 0) az (λ _ _=>rfl)) aq)) aq)) (show CScope (aC (top 18)) _ from ⟨rfl,by ac_nf,by ac_nf,by ac_nf⟩) (show capOk [none,some 0] ["room","house"] (["house","answer","depth","room","doors"]:List Str) _=true from by ac_nf) (λ _ _ _ _ _ _=>(aM (i:=0) (show List.Nodup (["room","house"]:List Str) by ac_nf) rfl oI)) (λ _ _ _ _ _ _=>cA) (λ _ _ _ _ _ _=>(uc (aV (di K rfl) (pv 0) (aQ (aK K rfl) (pv 1) az (λ _ _=>rfl)) (by with_unfolding_all rfl)) az bG)))
   (ao (bJ Yz rfl (pY rfl z_range (aa az (aa (aL (aR K rfl) rfl z_len (by ac_nf) (aa (aQ (aK K rfl) (pv 0) az (λ _ _=>rfl)) aq)) aq))) (aM (i:=2) pG.nd rfl oI) (aA (bJ Yz rfl (Ah K rfl rfl rfl z_enumerate (aa (aQ (aK K rfl) (pv 0) az (λ _ _=>rfl)) aq)) (eU K rfl rfl (bz (aM (i:=3) pG.nd rfl oI) (bz (aM (i:=4) pG.nd rfl oI) eO))) (aA (bH (PW.pt (dX (aV f9 (aQ (bO K rfl) (pv 1) (pv 3) (λ _ _=>rfl)) bG (aY _)) (cZ (aV fZ (b8 c_f1 hr (by decide) rfl (aa (pv 4) (aa (pv 1) (aa (aP Bp (pv 2) az) aq)))) bG (aY _))))) (aA (vC (pv 2) (JR (pv 1) (pv 3) set_list))) aZ)))))
   (aA (bf (pv 1))))),h⟩
 have c_f31:Cal pW w K mg base 3 "tail" ["house","text"] (jA K):=ck (st:=top 20) X G (bM (dW e2 12 rfl rfl)) (λ _ _ _ _ _ _=>ar2 λ _ _=>rfl) λ _ _ F=>F.ok m6 (λ _ _ _ _ h=>LK h) λ cdv A outer s H vs Q E hr h=>by
  obtain ⟨Eh,h⟩:=LC h;exact ⟨xm K E Eh,(ao (aG (i:=2) m6.nd rfl oI (b8 c_f32 hr (by decide) rfl (aa (pv 0) (aa (pv 1) aq))))
   (ao (aG (i:=3) m6.nd rfl oI (b8 c_f25 hr (by decide) rfl (aa (pv 0) aq)))
   (ao (bH (PW.pt (pX (aV f9 (pv 2) bG (aY _)) (nU (aV f9 (aQ (bO K rfl) (pv 3) (pv 2) (λ _ _=>rfl)) bG (aY _))))) (aA (bf bG)) aZ)
   (ao (aG (i:=4) m6.nd rfl oI (cQ aq))
   (ao (nY Yz (aV Bu (aQ (bO K rfl) (pv 3) (pv 2) (λ _ _=>rfl)) az (aY _)) (ao (aG (i:=5) m6.nd rfl oI (b8 c_f1 hr (by decide) rfl (aa (aQ (aK K rfl) (aQ (aK K rfl) (pv 0) az (λ _ _=>rfl)) (pv 2) (λ _ _=>rfl)) (aa (pv 3) (aa (aP Bp (aQ (bO K rfl) (pv 3) (pv 2) (λ _ _=>rfl)) az) aq)))))
   (ao (cz (fc K rfl Xs Wa Wb dw (pv 4) (aa (aQ (aK K rfl) (pv 5) az (λ _ _=>rfl)) aq)))
   (aA (aG (i:=2) m6.nd rfl oI (aQ (aK K rfl) (pv 5) az (λ _ _=>rfl)))))))
   (aA (bf (fc K rfl PySem.F.plainAttrs_str PySem.F.slot_str_join PySem.F.type_str_join (Cr K rfl) bW (aa (pv 4) aq))))))))),h⟩
 have x_f10:CalX pW w K mg base 2 "beginnings" ["words"] (lF K):=G9 (st:=top 25) X G (bM (dW e2 13 rfl rfl)) (λ _ _ _ _ _ _=>ar1 λ _=>rfl) λ _ _ F=>F.okX tW (λ _ _ _ _ h=>M3 h) λ cdv A outer s H vs Q E hr h=>by
  obtain ⟨Eh,h⟩:=LR h;exact ⟨xr K E Eh,(ao (aG (i:=1) tW.nd rfl oI (GC (uw bW pW yw) rfl rfl (by simp) (by decide)))
   (ao (bJ fO rfl (bQ K rfl (pv 0)) (aM (i:=2) tW.nd rfl oI) (aA (bJ fO rfl (pY rfl z_range (aa az (aa (aP cI (aL (aR K rfl) rfl z_len (by ac_nf) (aa (pv 2) aq)) az) aq))) (aM (i:=3) tW.nd rfl oI) (ao (gb (cO hr) (pv 1) (dJ jr (pv 2) ik (dI (pv 3))) pW rfl)
   (aA (cz (cW x_f4 hr (by decide) rfl (E:=E) (bN λ _ _ z=>z) (aa (aL Ao rfl z_len (by ac_nf) (aa (pv 1) aq)) aq))))))))
   (aA (bf (aL (uG rfl) rfl z_sorted (by ac_nf) (aa (pv 1) aq)))))),h⟩
 have c_f15:Cal pW w K mg base 1 "numbers_of" ["things"] (lG K):=ck (st:=top 26) X G (bM (dW e2 14 rfl rfl)) (λ _ _ _ _ _ _=>ar1 λ _=>rfl) λ _ _ F=>F.ok tX (λ _ _ _ _ h=>M5 h) λ cdv A outer s H vs Q E hr h=>by
  obtain ⟨Eh,h⟩:=M4 h;exact ⟨xu K E Eh,(ao (aG (i:=1) tX.nd rfl oI oE)
   (ao (bJ Yz rfl (Cu K rfl rfl rfl z_enumerate (aa (pv 0) aq)) (eU K rfl rfl (bz (aM (i:=2) tX.nd rfl oI) (bz (aM (i:=3) tX.nd rfl oI) eO))) (aA (gb (cO hr) (pv 1) (pv 3) (pv 2) rfl)))
   (aA (bf (pv 1))))),h⟩
 have x_f30:CalX pW w K mg base 5 "book" ["words"] (lH K):=G9 (st:=top 24) X G (bM (dW e2 15 rfl rfl)) (λ _ _ _ _ _ _=>ar1 λ _=>rfl) λ _ _ F=>F.okX tY (λ _ _ _ _ h=>M9 h) λ cdv A outer s H vs Q E hr h=>by
  obtain ⟨Eh,h⟩:=M8 h;exact ⟨xx K E Eh,(ao (aG (i:=1) tY.nd rfl (Or.inr rfl) (b8 c_f15 hr (by decide) rfl (aa (cW x_f10 hr (by decide) rfl (E:=E) (bN λ _ _ z=>z) (aa (pv 0) aq)) aq)))
   (ao (qu (i:=2) [none] ["number"] rfl tY.nd rfl rfl (uI (pv 1)) (show CScope (aC (top 24)) _ from ⟨rfl,by ac_nf,by ac_nf,by ac_nf⟩) (show capOk [none] ["number"] (["words","numbers","doors","beginning"]:List Str) _=true from by ac_nf) (λ _ _ _ _ _ _=>(aM (i:=0) (show List.Nodup (["number"]:List Str) by ac_nf) rfl oI)) (λ _ _ _ _ _ _=>cA) (λ _ _ _ _ _ _=>(cQ aq)))
   (ao (bJ fO rfl (uI (pv 1)) (aM (i:=3) tY.nd rfl oI) (aA (bH (aV Br (pv 3) bW (aY _)) (aA (cz (fc K rfl Xs Wa Wb dw (aQ (bO K rfl) (pv 2) (d9 (cO hr) (pv 1) (dJ jr (pv 3) ik (dI (yo qT az))) (λ _ _=>rfl)) (λ _ _=>rfl)) (aa (cP (aa (aQ jo (pv 3) (yo qT az) (λ _ _=>rfl)) (aa (d9 (cO hr) (pv 1) (pv 3) (λ _ _=>rfl)) aq))) aq)))) aZ)))
   (aA (bf (cW x_f6 hr (by decide) rfl (E:=E) (bN λ _ _ z=>z) (aa (pv 2) (aa (jK [none,some 1] ["word","numbers"] rfl (bQ K rfl (uU K rfl rfl rfl z_sorted rfl z_set (aa (pv 0) aq))) (show CScope (aC (top 24)) _ from ⟨rfl,by ac_nf,by ac_nf,by ac_nf⟩) (show capOk [none,some 1] ["word","numbers"] (["words","numbers","doors","beginning"]:List Str) _=true from by ac_nf) (λ _ _ _ _ _ _=>(aM (i:=0) (show List.Nodup (["word","numbers"]:List Str) by ac_nf) rfl oI)) (λ _ _ _ _ _ _=>cA) (λ _ _ _ _ _ _=>(d9 (cO hr) (pv 1) (pv 0) (λ _ _=>rfl)))) aq)))))))),h⟩
 have c_f30:=cq x_f30;have x_f5:CalX pW w K mg base 2 "check_wheel" ["numbers"] (qK K):=G9 (st:=top 28) X G (bM (dW e2 16 rfl rfl)) (λ _ _ _ _ _ _=>ar1 λ _=>rfl) λ _ _ F=>F.okX JB (λ _ _ _ _ h=>Qi h) λ cdv A outer s H vs Q E hr h=>by
  obtain ⟨Eh,h⟩:=Qh h;exact ⟨Fl K E Eh,(ao (bH (aV fu (aL (aR K rfl) rfl z_len (by ac_nf) (aa (pv 0) aq)) az (aY _)) (aA (cY Xb cH rfl rfl k_NoHouse.1 k_NoHouse.2.1 (aa bW aq))) aZ)
   (aA (bJ fO rfl (fC K rfl (pv 0)) (aM (i:=1) JB.nd rfl oI) (aA (bH (gq (PW.pt (dX (cg K rfl (b8 c_f22 hr (by decide) rfl (aa (pv 1) aq)) (λ _=>rfl)) (cZ (nZ uf uf az (pv 1) (nj rfl g_GREATEST_ON_WHEEL.1 g_GREATEST_ON_WHEEL.2)))))) (aA (cY Xb cH rfl rfl k_NoHouse.1 k_NoHouse.2.1 (aa bW aq))) aZ))))),h⟩
 have c_f9:Cal pW w K mg base 1 "sums_doors" ["signs","many","rest","number","later"] (qM K):=ck (st:=top 29) X G (bM (dW e2 17 rfl rfl)) (λ _ _ _ _ _ _=>Rm λ _ _ _ _ _=>rfl) λ _ _ F=>F.ok Qx (λ _ _ _ _ h=>Qk h) λ cdv A outer s H vs Q E hr h=>by
  obtain ⟨Eh,h⟩:=Qj h;exact ⟨Fp K E Eh,(aA (bf (jK [none,none,some 4,some 2,some 3,some 1] ["worth","sign","later","rest","number","many"] rfl (CW rfl rfl z_enumerate (aa (pv 0) aq) (Gp az K1)) (show CScope (aC (top 29)) _ from ⟨rfl,by ac_nf,by ac_nf,by ac_nf⟩) (show capOk [none,none,some 4,some 2,some 3,some 1] ["worth","sign","later","rest","number","many"] (["signs","many","rest","number","later"]:List Str) _=true from by ac_nf) (λ _ _ _ _ _ _=>(eU K rfl rfl (bz (aM (i:=0) (show List.Nodup (["worth","sign","later","rest","number","many"]:List Str) by ac_nf) rfl oI) (bz (aM (i:=1) (show List.Nodup (["worth","sign","later","rest","number","many"]:List Str) by ac_nf) rfl oI) eO)))) (λ _ _ _ _ _ _=>cA) (λ _ _ _ _ _ _=>(cP (aa (pv 1) (aa (aP cI (pv 2) (aP bK (aP cI (pv 3) (aP iK (pv 0) (pv 4))) (pv 5))) aq))))))),h⟩
 obtain ⟨_,_,_,t_f28⟩:=yl (dW e5 0 rfl rfl);obtain ⟨a_f28,l,q,k_f28⟩:=bM (Zx (Yn (·[0]?) e4):JD K "sums"=JF (some 147) "sums" 27);have F_f28:=Hd (st:=top 27) l q k_f28 t_f28;have o_f28:FnOk pW w K mg base (kZ pW w) 5 _ _ ["signs","many","wheel"] (lK K):=F_f28.okX pH (λ _ _ _ _ h=>Mf h) λ cdv A outer s H vs Q E hr h=>by
  obtain ⟨Eh,h⟩:=Ma h;exact ⟨xG K E Eh,(ao (aG (i:=3) pH.nd rfl (Or.inr rfl) (uc (aV f9 (pv 2) bG (aY _)) (nj (v:= .ref bY) rfl k_PLAIN_WHEEL.1 rfl) (pv 2)))
   (ao (bH (gq (PW.pt (dX (cg K rfl (b8 c_f22 hr (by decide) rfl (aa (pv 1) aq)) (λ _=>rfl)) (cZ (aV O1 (pv 1) az (aY _)))))) (aA (cY Xb cH rfl rfl k_NoHouse.1 k_NoHouse.2.1 (aa bW aq))) aZ)
   (ao (cz (cW x_f5 hr (by decide) rfl (E:=E) (bN λ _ _ z=>z) (aa (pv 3) aq)))
   (ao (cz (cW x_f4 hr (by decide) rfl (E:=E) (bN λ _ _ z=>z) (aa (aP iK (pv 1) (aL (aR K rfl) rfl z_len (by ac_nf) (aa (pv 3) aq))) aq)))
   (ao (aG (i:=4) pH.nd rfl oI (cQ aq))
   (ao (bJ fO rfl (cF rfl z_range (aa (aL (aR K rfl) rfl z_len (by ac_nf) (aa (pv 3) aq)) aq)) (aM (i:=5) pH.nd rfl (Or.inr rfl)) (ao (aG (i:=6) pH.nd rfl (Or.inr rfl) (aP iK (aP bK (aP cI (pv 5) az) (aL (aR K rfl) rfl z_len (by ac_nf) (aa (pv 3) aq))) (pv 1)))
   (aA (cz (fc K rfl Xs PySem.F.slot_list_extend PySem.F.type_list_extend zR (pv 4) (aa (jK [none,some 0,some 1,some 3,some 5,some 6] ["rest","signs","many","numbers","turn","later"] rfl (cF rfl z_range (aa (pv 1) aq)) (show CScope (aC (top 27)) _ from ⟨rfl,by ac_nf,by ac_nf,by ac_nf⟩) (show capOk [none,some 0,some 1,some 3,some 5,some 6] ["rest","signs","many","numbers","turn","later"] (["signs","many","wheel","numbers","doors","turn","later"]:List Str) _=true from by ac_nf) (λ _ _ _ _ _ _=>(aM (i:=0) (show List.Nodup (["rest","signs","many","numbers","turn","later"]:List Str) by ac_nf) rfl oI)) (λ _ _ _ _ _ _=>cA) (λ _ _ _ _ _ _=>(b8 c_f9 hr (by decide) rfl (aa (pv 1) (aa (pv 2) (aa (pv 0) (aa (aQ (aK K rfl) (pv 3) (pv 4) (λ _ _=>rfl)) (aa (pv 5) aq)))))))) aq))))))
   (aA (bf (cW x_f6 hr (by decide) rfl (E:=E) (bN λ _ _ z=>z) (aa (pv 4) (aa (jK [none,some 1] ["turn","many"] rfl (cF rfl z_range (aa (aL (aR K rfl) rfl z_len (by ac_nf) (aa (pv 3) aq)) aq)) (show CScope (aC (top 27)) _ from ⟨rfl,by ac_nf,by ac_nf,by ac_nf⟩) (show capOk [none,some 1] ["turn","many"] (["signs","many","wheel","numbers","doors","turn","later"]:List Str) _=true from by ac_nf) (λ _ _ _ _ _ _=>(aM (i:=0) (show List.Nodup (["turn","many"]:List Str) by ac_nf) rfl oI)) (λ _ _ _ _ _ _=>cA) (λ _ _ _ _ _ _=>(aP iK (pv 0) (pv 1)))) aq))))))))))),h⟩
 have cd_f28:CalD pW w K mg base 5 "sums" ["signs","many","wheel"] [V.non] (sZ K):=⟨_,_,_,o_f28.quiet,F_f28.binds (es:=[Value.none]) (λ _ _ _ _ _ _ us hl=>ar2 (P:=λ us=> ∃k:Option (Array Value)->Sem (List (Str×Value)),bindArgs _ ⟨us,[]⟩=seqItems? _ >>= k/\k (some _)=pure (List.zip _ (us++[Value.none]))) (λ _ _=>⟨_,rfl,rfl⟩) us (by simpa using hl)), .cons rfl .nil,k_f28,mg_of X G a_f28⟩;have c_f28:Cal pW w K mg base 5 "sums" ["signs","many","wheel"] (sZ K):=⟨_,_,o_f28.quiet,F_f28.binds (es:=[]) (λ _ _ _ _ _ _ us hl=>Ny (P:=λ us=> ∃k:Option (Array Value)->Sem (List (Str×Value)),bindArgs _ ⟨us,[]⟩=seqItems? _ >>= k/\k (some _)=pure (List.zip _ (us++[]))) (λ _ _ _=>⟨_,rfl,rfl⟩) us (by simpa using hl)),k_f28,mg_of X G a_f28⟩;have c_f0:Cal pW w K mg base 2 "leads_of_both" ["one","other","pair"] (qN K):=ck (st:=top 31) X G (bM (dW e2 18 rfl rfl)) (λ _ _ _ _ _ _=>Ny λ _ _ _=>rfl) λ _ _ F=>F.ok vy (λ _ _ _ _ h=>Qn h) λ cdv A outer s H vs Q E hr h=>by
  obtain ⟨Eh,h⟩:=Qm h;exact ⟨Fx K E Eh,(ao (aG (i:=3) vy.nd rfl oI (cQ aq))
   (ao (bJ Yz rfl (fC K rfl (aQ (aK K rfl) (aQ (aK K rfl) (pv 0) az (λ _ _=>rfl)) (aQ (aK K rfl) (pv 2) az (λ _ _=>rfl)) (λ _ _=>rfl))) (eU K rfl rfl (bz (aM (i:=4) vy.nd rfl oI) (bz (aM (i:=5) vy.nd rfl oI) eO))) (ao (aG (i:=6) vy.nd rfl oI (b8 c_f3 hr (by decide) rfl (aa (aQ (aK K rfl) (aQ (aK K rfl) (pv 1) az (λ _ _=>rfl)) (aQ (aK K rfl) (pv 2) az (λ _ _=>rfl)) (λ _ _=>rfl)) (aa (pv 4) aq))))
   (aA (bH (aV fZ (pv 6) bG (aY _)) (aA (cz (fc K rfl Xs Wa Wb dw (pv 3) (aa (cP (aa (pv 4) (aa (cP (aa (pv 5) (aa (pv 6) aq))) aq))) aq)))) aZ))))
   (aA (bf (pv 3))))),h⟩
 have x_f29:CalX pW w K mg base 5 "both" ["one","other"] (lN K):=G9 (st:=top 30) X G (bM (dW e2 19 rfl rfl)) (λ _ _ _ _ _ _=>ar2 λ _ _=>rfl) λ _ _ F=>F.okX j4 (λ _ _ _ _ h=>Mp h) λ cdv A outer s H vs Q E hr h=>by
  obtain ⟨Eh,h⟩:=Mj h;exact ⟨xM K E Eh,(ao (aG (i:=2) j4.nd rfl oI (cQ (aa (cP (aa az (aa az aq))) aq)))
   (ao (aG (i:=3) j4.nd rfl (Or.inr rfl) (Dc (cO hr) (cP (aa az (aa az aq))) az))
   (ao (aG (i:=4) j4.nd rfl oI (cQ aq))
   (ao (nY fO (aV Bt (aL (aR K rfl) rfl z_len (by ac_nf) (aa (pv 4) aq)) (aL (aR K rfl) rfl z_len (by ac_nf) (aa (pv 2) aq)) (aY _)) (ao (aG (i:=5) j4.nd rfl oI (b8 c_f0 hr (by decide) rfl (aa (pv 0) (aa (pv 1) (aa (aQ (bO K rfl) (pv 2) (aL (aR K rfl) rfl z_len (by ac_nf) (aa (pv 4) aq)) (λ _ _=>rfl)) aq)))))
   (ao (bJ fO rfl (bQ K rfl (pv 5)) (eU K rfl rfl (bz (aM (i:=6) j4.nd rfl oI) (bz (aM (i:=7) j4.nd rfl oI) eO))) (aA (bH (vA (zZ (cO hr) (pv 7) (pv 3)) (by with_unfolding_all rfl)) (ao (gb (cO hr) (pv 3) (pv 7) (aL (aR K rfl) rfl z_len (by ac_nf) (aa (pv 2) aq)) rfl)
   (aA (cz (fc K rfl Xs Wa Wb dw (pv 2) (aa (pv 7) aq))))) aZ)))
   (aA (cz (fc K rfl Xs Wa Wb dw (pv 4) (aa (jK [none,none,some 3] ["sign","pair","numbers"] rfl (bQ K rfl (pv 5)) (show CScope (aC (top 30)) _ from ⟨rfl,by ac_nf,by ac_nf,by ac_nf⟩) (show capOk [none,none,some 3] ["sign","pair","numbers"] (["one","other","pairs","numbers","doors","leads","sign","pair","ends"]:List Str) _=true from by ac_nf) (λ _ _ _ _ _ _=>(eU K rfl rfl (bz (aM (i:=0) (show List.Nodup (["sign","pair","numbers"]:List Str) by ac_nf) rfl oI) (bz (aM (i:=1) (show List.Nodup (["sign","pair","numbers"]:List Str) by ac_nf) rfl oI) eO)))) (λ _ _ _ _ _ _=>cA) (λ _ _ _ _ _ _=>(cP (aa (pv 0) (aa (d9 (cO hr) (pv 2) (pv 1) (λ _ _=>rfl)) aq))))) aq)))))))
   (ao (qu (i:=8) [none,some 3,some 0,some 1] ["pair","numbers","one","other"] rfl j4.nd rfl rfl (bQ K rfl (pv 2)) (show CScope (aC (top 30)) _ from ⟨rfl,by ac_nf,by ac_nf,by ac_nf⟩) (show capOk [none,some 3,some 0,some 1] ["pair","numbers","one","other"] (["one","other","pairs","numbers","doors","leads","sign","pair","ends"]:List Str) _=true from by ac_nf) (λ _ _ _ _ _ _=>(aM (i:=0) (show List.Nodup (["pair","numbers","one","other"]:List Str) by ac_nf) rfl oI)) (λ _ _ _ _ _ _=>GD (PW.pt (dX (aV (di K rfl) (aQ (aK K rfl) (pv 0) az (λ _ _=>rfl)) (aQ (aK K rfl) (pv 2) az (λ _ _=>rfl)) (by with_unfolding_all rfl)) (cZ (aV (di K rfl) (aQ (aK K rfl) (pv 0) az (λ _ _=>rfl)) (aQ (aK K rfl) (pv 3) az (λ _ _=>rfl)) (by with_unfolding_all rfl)))))) (λ _ _ _ _ _ _=>(d9 (cO hr) (pv 1) (pv 0) (λ _ _=>rfl))))
   (aA (bf (cW x_f6 hr (by decide) rfl (E:=E) (bN λ _ _ z=>z) (aa (pv 4) (aa (pv 8) aq)))))))))),h⟩
 have c_f29:=cq x_f29;have x_f26:CalX pW w K mg base 5 "padded" ["house","filler"] (lO K):=G9 (st:=top 32) X G (bM (dW e2 20 rfl rfl)) (λ _ _ _ _ _ _=>ar2 λ _ _=>rfl) λ _ _ F=>F.okX m7 (λ _ _ _ _ h=>Mr h) λ cdv A outer s H vs Q E hr h=>by
  obtain ⟨Eh,h⟩:=Mq h;exact ⟨xN K E Eh,(ao (bH (gq (cg K rfl (b8 c_f24 hr (by decide) rfl (aa (pv 1) aq)) (λ _=>rfl))) (aA (cY Xb cH rfl rfl k_NoHouse.1 k_NoHouse.2.1 (aa bW aq))) aZ)
   (ao (bJ fO rfl (fC K rfl (aQ (aK K rfl) (pv 0) az (λ _ _=>rfl))) (aM (i:=2) m7.nd rfl oI) (aA (bH (aV fZ (b8 c_f3 hr (by decide) rfl (aa (pv 2) (aa (pv 1) aq))) bG (aY _)) (aA (cY Xb cH rfl rfl k_NoHouse.1 k_NoHouse.2.1 (aa bW aq))) aZ)))
   (ao (aG (i:=3) m7.nd rfl oI (aL (aR K rfl) rfl z_len (by ac_nf) (aa (aQ (aK K rfl) (pv 0) az (λ _ _=>rfl)) aq)))
   (ao (aG (i:=4) m7.nd rfl oI (aP BX (jK [none] ["pairs"] rfl (fC K rfl (aQ (aK K rfl) (pv 0) az (λ _ _=>rfl))) (show CScope (aC (top 32)) _ from ⟨rfl,by ac_nf,by ac_nf,by ac_nf⟩) (show capOk [none] ["pairs"] (["house","filler","pairs","last","doors","ends","end"]:List Str) _=true from by ac_nf) (λ _ _ _ _ _ _=>(aM (i:=0) (show List.Nodup (["pairs"]:List Str) by ac_nf) rfl oI)) (λ _ _ _ _ _ _=>cA) (λ _ _ _ _ _ _=>(cG (jh K rfl) rfl z_list (by ac_nf) (aa (pv 0) aq)))) (cQ (aa (cQ aq) aq))))
   (ao (aG (i:=5) m7.nd rfl oI (aP BX (cG (jh K rfl) rfl z_list (by ac_nf) (aa (aQ (aK K rfl) (pv 0) az (λ _ _=>rfl)) aq)) (cQ (aa (pv 3) aq))))
   (ao (bJ fO rfl (bQ K rfl (pv 5)) (aM (i:=6) m7.nd rfl oI) (aA (cz (fc K rfl Xs Wa Wb dw (aQ (bO K rfl) (pv 4) (pv 6) (λ _ _=>rfl)) (aa (cP (aa (pv 1) (aa (pv 3) aq))) aq)))))
   (aA (bf (cW x_f6 hr (by decide) rfl (E:=E) (bN λ _ _ z=>z) (aa (pv 4) (aa (pv 5) aq))))))))))),h⟩
 have c_f26:=cq x_f26;have c_f2:Cal pW w K mg base 1 "_law_cell_at" ["script","k"] (kh K):=ck (st:=top 34) X G (bM (dW e2 21 rfl rfl)) (λ _ _ _ _ _ _=>ar2 λ _ _=>rfl) λ _ _ F=>F.ok Qy (λ _ _ _ _ h=>Qp h) λ cdv A outer s H vs Q E hr h=>by
  obtain ⟨Eh,h⟩:=Qo h;exact ⟨Fz K E Eh,(ao (bH (aV Bt (pv 1) (aL (aR K rfl) rfl z_len (by ac_nf) (aa (pv 0) aq)) (aY _)) (aA (bf (aQ (bO K rfl) (pv 0) (pv 1) (λ _ _=>rfl)))) aZ)
   (aA (bf az))),h⟩
 have c_f14:Cal pW w K mg base 1 "_law_signs" ["cell","many"] (lQ K):=ck (st:=top 35) X G (bM (dW e2 22 rfl rfl)) (λ _ _ _ _ _ _=>ar2 λ _ _=>rfl) λ _ _ F=>F.ok fY (λ _ _ _ _ h=>Mu h) λ cdv A outer s H vs Q E hr h=>by
  obtain ⟨Eh,h⟩:=Mt h;exact ⟨xO K E Eh,(ao (aG (i:=2) fY.nd rfl oI bW)
   (ao (aG (i:=2) fY.nd rfl oI (aP dZ (pv 2) bW))
   (ao (aG (i:=3) fY.nd rfl oI (aP bU (pv 0) az))
   (ao (bH (aV fu (aP bK (pv 0) az) az (aY _)) (aA (aG (i:=3) fY.nd rfl oI (aP cI (aP Hc (pv 3) (aP JV az az)) az))) aZ)
   (ao (aG (i:=4) fY.nd rfl oI bW)
   (ao (bJ Yz rfl (cF rfl z_range (aa (pv 1) aq)) (aM (i:=5) fY.nd rfl oI) (ao (aG (i:=6) fY.nd rfl oI (aP bK (pv 3) (aL (aR K rfl) rfl z_len (by ac_nf) (aa (pv 2) aq))))
   (ao (aG (i:=3) fY.nd rfl oI (aP bU (pv 3) (aL (aR K rfl) rfl z_len (by ac_nf) (aa (pv 2) aq))))
   (ao (aG (i:=4) fY.nd rfl oI (aP dZ (pv 4) (aQ jo (pv 2) (pv 6) (λ _ _=>rfl))))
   (aA (aG (i:=2) fY.nd rfl oI (aP dZ (dJ jr (pv 2) ik (dI (pv 6))) (dJ jr (pv 2) (dI (aP cI (pv 6) az)) ik))))))))
   (aA (bf (pv 4))))))))),h⟩
 have c_f8:Cal pW w K mg base 1 "_law_house" ["cells","many","signs"] (qO K):=ck (st:=top 36) X G (bM (dW e2 23 rfl rfl)) (λ _ _ _ _ _ _=>Ny λ _ _ _=>rfl) λ _ _ F=>F.ok mR (λ _ _ _ _ h=>Qs h) λ cdv A outer s H vs Q E hr h=>by
  obtain ⟨Eh,h⟩:=Qq h;exact ⟨FJ K E Eh,(ao (qu (i:=3) [none] ["k"] rfl mR.nd rfl rfl (cF rfl z_range (aa (pv 1) aq)) (show CScope (aC (top 36)) _ from ⟨rfl,by ac_nf,by ac_nf,by ac_nf⟩) (show capOk [none] ["k"] (["cells","many","signs","doors","ends","cell","room","sign","rest","last"]:List Str) _=true from by ac_nf) (λ _ _ _ _ _ _=>(aM (i:=0) (show List.Nodup (["k"]:List Str) by ac_nf) rfl oI)) (λ _ _ _ _ _ _=>cA) (λ _ _ _ _ _ _=>(cQ aq)))
   (ao (aG (i:=4) mR.nd rfl oI (cQ aq))
   (ao (bJ Yz rfl (bQ K rfl (pv 0)) (aM (i:=5) mR.nd rfl oI) (ao (aG (i:=6) mR.nd rfl oI (aP bK (pv 5) (pv 1)))
   (ao (aG (i:=7) mR.nd rfl oI (aQ jo (pv 2) (aP bK (aP bU (pv 5) (pv 1)) (aL (aR K rfl) rfl z_len (by ac_nf) (aa (pv 2) aq))) (λ _ _=>rfl)))
   (ao (aG (i:=8) mR.nd rfl oI (aP bU (aP bU (pv 5) (pv 1)) (aL (aR K rfl) rfl z_len (by ac_nf) (aa (pv 2) aq))))
   (ao (bH (aV (jg K rfl) (pv 7) (jK [none] ["pair"] rfl (bQ K rfl (aQ (bO K rfl) (pv 3) (pv 6) (λ _ _=>rfl))) (show CScope (aC (top 36)) _ from ⟨rfl,by ac_nf,by ac_nf,by ac_nf⟩) (show capOk [none] ["pair"] (["cells","many","signs","doors","ends","cell","room","sign","rest","last"]:List Str) _=true from by ac_nf) (λ _ _ _ _ _ _=>(aM (i:=0) (show List.Nodup (["pair"]:List Str) by ac_nf) rfl oI)) (λ _ _ _ _ _ _=>cA) (λ _ _ _ _ _ _=>(aQ (aK K rfl) (pv 0) az (λ _ _=>rfl)))) (by with_unfolding_all rfl)) (aA (cz (fc K rfl Xs Wa Wb dw (aQ (bO K rfl) (pv 3) (pv 6) (λ _ _=>rfl)) (aa (cP (aa (pv 7) (aa (aP bK (pv 8) (pv 1)) aq))) aq)))) aZ)
   (ao (aG (i:=9) mR.nd rfl oI (aP bK (aP bU (aP bU (pv 8) (pv 1)) az) (pv 1)))
   (aA (bH (PW.pt (dX (aV fu (aP bK (aP bU (pv 8) (pv 1)) az) az (aY _)) (cZ (aV (jg K rfl) (pv 9) (pv 4) (by with_unfolding_all rfl))))) (aA (cz (fc K rfl Xs Wa Wb dw (pv 4) (aa (pv 9) aq)))) aZ))))))))
   (aA (bf (cP (aa (cG (bT K rfl) rfl z_tuple (by ac_nf) (aa (jK [none] ["pairs"] rfl (bQ K rfl (pv 3)) (show CScope (aC (top 36)) _ from ⟨rfl,by ac_nf,by ac_nf,by ac_nf⟩) (show capOk [none] ["pairs"] (["cells","many","signs","doors","ends","cell","room","sign","rest","last"]:List Str) _=true from by ac_nf) (λ _ _ _ _ _ _=>(aM (i:=0) (show List.Nodup (["pairs"]:List Str) by ac_nf) rfl oI)) (λ _ _ _ _ _ _=>cA) (λ _ _ _ _ _ _=>(cG (bT K rfl) rfl z_tuple (by ac_nf) (aa (aL (uF K rfl) rfl z_sorted (by ac_nf) (aa (pv 0) aq)) aq)))) aq)) (aa (cG (bT K rfl) rfl z_tuple (by ac_nf) (aa (aL (uA K rfl) rfl z_sorted (by ac_nf) (aa (pv 4) aq)) aq)) aq)))))))),h⟩
 have c_f17:Cal pW w K mg base 1 "_law_door" ["house","room","sign"] (jB K):=ck (st:=top 37) X G (bM (dW e2 24 rfl rfl)) (λ _ _ _ _ _ _=>Ny λ _ _ _=>rfl) λ _ _ F=>F.ok FZ (λ _ _ _ _ h=>Mw h) λ cdv A outer s H vs Q E hr h=>by
  obtain ⟨Eh,h⟩:=Mv h;exact ⟨xP K E Eh,(ao (bH (aV fZ (pv 1) bG (aY _)) (aA (bJ Yz rfl (fC K rfl (aQ (aK K rfl) (aQ (aK K rfl) (pv 0) az (λ _ _=>rfl)) (pv 1) (λ _ _=>rfl))) (aM (i:=3) FZ.nd rfl oI) (aA (bH (aV fu (aQ (aK K rfl) (pv 3) az (λ _ _=>rfl)) (pv 2) (aY _)) (aA (bf (aQ (aK K rfl) (pv 3) az (λ _ _=>rfl)))) aZ)))) aZ)
   (aA (bf bG))),h⟩
 have c_f20:Cal pW w K mg base 2 "_law_text" ["house","signs","cells"] (lR K):=ck (st:=top 38) X G (bM (dW e2 25 rfl rfl)) (λ _ _ _ _ _ _=>Ny λ _ _ _=>rfl) λ _ _ F=>F.ok gG (λ _ _ _ _ h=>My h) λ cdv A outer s H vs Q E hr h=>by
  obtain ⟨Eh,h⟩:=Mx h;exact ⟨xQ K E Eh,(ao (aG (i:=3) gG.nd rfl oI bW)
   (ao (aG (i:=4) gG.nd rfl oI az)
   (ao (bJ Yz rfl (bQ K rfl (pv 2)) (aM (i:=5) gG.nd rfl oI) (ao (aG (i:=6) gG.nd rfl oI (cP aq))
   (ao (bH (aV fZ (pv 4) bG (aY _)) (aA (aG (i:=6) gG.nd rfl oI (aQ (aK K rfl) (aQ (aK K rfl) (pv 0) az (λ _ _=>rfl)) (pv 4) (λ _ _=>rfl)))) aZ)
   (ao (aG (i:=7) gG.nd rfl oI (aQ jo (pv 1) (aP bK (aP bU (pv 5) az) (aL (aR K rfl) rfl z_len (by ac_nf) (aa (pv 1) aq))) (λ _ _=>rfl)))
   (ao (bH (PW.pt (dX (aV Bu (aP bK (pv 5) az) az (aY _)) (cZ (aV (yD K rfl hr.units) (pv 6) (cP aq) (aY _))))) (aA (aG (i:=7) gG.nd rfl oI (aQ (aK K rfl) (aQ (aK K rfl) (pv 6) (aP bK (aP bU (pv 5) az) (aL (aR K rfl) rfl z_len (by ac_nf) (aa (pv 6) aq))) (λ _ _=>rfl)) az (λ _ _=>rfl)))) aZ)
   (ao (aG (i:=3) gG.nd rfl oI (aP dZ (pv 3) (pv 7)))
   (aA (aG (i:=4) gG.nd rfl oI (b8 c_f17 hr (by decide) rfl (aa (pv 0) (aa (pv 4) (aa (pv 7) aq))))))))))))
   (aA (bf (pv 3)))))),h⟩
 have c_f11:Cal pW w K mg base 2 "_law_state" ["house","signs","many","wheel","text"] (jF K):=ck (st:=top 39) X G (bM (dW e2 26 rfl rfl)) (λ _ _ _ _ _ _=>Rm λ _ _ _ _ _=>rfl) λ _ _ F=>F.ok m8 (λ _ _ _ _ h=>MJ h) λ cdv A outer s H vs Q E hr h=>by
  obtain ⟨Eh,h⟩:=MF h;exact ⟨xY K E Eh,(ao (aG (i:=5) m8.nd rfl oI az)
   (ao (aG (i:=6) m8.nd rfl oI az)
   (ao (bJ Yz rfl (cF rfl z_range (aa (aL (aR K rfl) rfl z_len (by ac_nf) (aa (pv 4) aq)) aq)) (aM (i:=7) m8.nd rfl oI) (ao (aG (i:=5) m8.nd rfl oI (b8 c_f17 hr (by decide) rfl (aa (pv 0) (aa (pv 5) (aa (aQ jo (pv 4) (pv 7) (λ _ _=>rfl)) aq)))))
   (aA (aG (i:=6) m8.nd rfl oI (aP cI (pv 6) (aP iK (aP cI (fc K rfl PySem.F.plainAttrs_str PySem.F.slot_str_find PySem.F.type_str_find yN (pv 1) (aa (aQ jo (pv 4) (pv 7) (λ _ _=>rfl)) aq)) az) (aQ (bO K rfl) (pv 3) (aP bK (pv 7) (aL (aR K rfl) rfl z_len (by ac_nf) (aa (pv 3) aq))) (λ _ _=>rfl))))))))
   (aA (bf (cP (aa (aP bK (aL (aR K rfl) rfl z_len (by ac_nf) (aa (pv 4) aq)) (aL (aR K rfl) rfl z_len (by ac_nf) (aa (pv 3) aq))) (aa (aP bK (pv 6) (pv 2)) (aa (pv 5) aq))))))))),h⟩
 have c_f23:Cal pW w K mg base 1 "_law_on" ["state","pair","signs","many","wheel"] (jG K):=ck (st:=top 40) X G (bM (dW e2 27 rfl rfl)) (λ _ _ _ _ _ _=>Rm λ _ _ _ _ _=>rfl) λ _ _ F=>F.ok pI (λ _ _ _ _ h=>MN h) λ cdv A outer s H vs Q E hr h=>by
  obtain ⟨Eh,h⟩:=MK h;exact ⟨xZ K E Eh,(ao (vC (pv 0) (eU K rfl rfl (bz (aM (i:=5) pI.nd rfl oI) (bz (aM (i:=6) pI.nd rfl oI) (bz (aM (i:=7) pI.nd rfl oI) eO)))))
   (ao (aG (i:=8) pI.nd rfl oI (aP cI (fc K rfl PySem.F.plainAttrs_str PySem.F.slot_str_find PySem.F.type_str_find yN (pv 2) (aa (aQ (aK K rfl) (pv 1) az (λ _ _=>rfl)) aq)) az))
   (aA (bf (cP (aa (aP bK (aP cI (pv 5) az) (aL (aR K rfl) rfl z_len (by ac_nf) (aa (pv 4) aq))) (aa (aP bK (aP cI (pv 6) (aP iK (pv 8) (aQ (bO K rfl) (pv 4) (pv 5) (λ _ _=>rfl)))) (pv 3)) (aa (aQ (aK K rfl) (pv 1) az (λ _ _=>rfl)) aq)))))))),h⟩
 have c_f12:Cal pW w K mg base 2 "_law_table" ["house","signs","many","wheel"] (lW K):=ck (st:=top 41) X G (bM (dW e2 28 rfl rfl)) (λ _ _ _ _ _ _=>Tp λ _ _ _ _=>rfl) λ _ _ F=>F.ok j5 (λ _ _ _ _ h=>MT h) λ cdv A outer s H vs Q E hr h=>by
  obtain ⟨Eh,h⟩:=MP h;exact ⟨yc K E Eh,(ao (aG (i:=4) j5.nd rfl (Or.inr rfl) Ce)
   (ao (bJ Yz rfl (cF rfl z_range (aa (aP iK (aP iK (aL (aR K rfl) rfl z_len (by ac_nf) (aa (pv 3) aq)) (pv 2)) (aL (aR K rfl) rfl z_len (by ac_nf) (aa (aQ (aK K rfl) (pv 0) az (λ _ _=>rfl)) aq))) aq)) (aM (i:=5) j5.nd rfl oI) (ao (aG (i:=6) j5.nd rfl oI (aP bK (pv 5) (aL (aR K rfl) rfl z_len (by ac_nf) (aa (aQ (aK K rfl) (pv 0) az (λ _ _=>rfl)) aq))))
   (ao (aG (i:=7) j5.nd rfl (Or.inr rfl) (cP (aa (aP bU (aP bU (pv 5) (aL (aR K rfl) rfl z_len (by ac_nf) (aa (aQ (aK K rfl) (pv 0) az (λ _ _=>rfl)) aq))) (pv 2)) (aa (aP bK (aP bU (pv 5) (aL (aR K rfl) rfl z_len (by ac_nf) (aa (aQ (aK K rfl) (pv 0) az (λ _ _=>rfl)) aq))) (pv 2)) (aa (pv 6) aq)))))
   (ao (gb (cO hr) (pv 4) (pv 7) bG rfl)
   (aA (bH (PW.pt (dX (aV fu (aQ (aK K rfl) (pv 7) az (λ _ _=>rfl)) az (aY _)) (cZ (aV (di K rfl) (pv 6) (aQ (aK K rfl) (pv 0) az (λ _ _=>rfl)) (by with_unfolding_all rfl))))) (aA (gb (cO hr) (pv 4) (pv 7) az rfl)) aZ))))))
   (ao (bJ Yz rfl (cF rfl z_range (aa (aL Ar rfl z_len (by ac_nf) (aa (pv 4) aq)) aq)) (aM (i:=8) j5.nd rfl (Or.inr rfl)) (aA (bJ Yz rfl (bQ K rfl (cG (uV rfl) rfl z_list (by ac_nf) (aa (pv 4) aq))) (aM (i:=7) j5.nd rfl (Or.inr rfl)) (ao (qu (i:=9) [none,some 7,some 1,some 2,some 3] ["pair","state","signs","many","wheel"] rfl j5.nd rfl rfl (fC K rfl (aQ (aK K rfl) (aQ (aK K rfl) (pv 0) az (λ _ _=>rfl)) (aQ (aK K rfl) (pv 7) az (λ _ _=>rfl)) (λ _ _=>rfl))) (show CScope (aC (top 41)) _ from ⟨rfl,by ac_nf,by ac_nf,by ac_nf⟩) (show capOk [none,some 7,some 1,some 2,some 3] ["pair","state","signs","many","wheel"] (["house","signs","many","wheel","deep","place","room","state","far","ways"]:List Str) _=true from by ac_nf) (λ _ _ _ _ _ _=>(aM (i:=0) (show List.Nodup (["pair","state","signs","many","wheel"]:List Str) by ac_nf) rfl oI)) (λ _ _ _ _ _ _=>cA) (λ _ _ _ _ _ _=>(b8 c_f23 hr (by decide) rfl (aa (pv 1) (aa (pv 0) (aa (pv 2) (aa (pv 3) (aa (pv 4) aq))))))))
   (aA (bH (PW.pt (dX (aV f9 (d9 (cO hr) (pv 4) (pv 7) (λ _ _=>rfl)) bG (aY _)) (cZ (cg K rfl (aL (Aq K rfl rfl) rfl z_any (by ac_nf) (aa (jK [none,some 4,some 8] ["way","deep","far"] rfl (bQ K rfl (pv 9)) (show CScope (aC (top 41)) _ from ⟨rfl,by ac_nf,by ac_nf,by ac_nf⟩) (show capOk [none,some 4,some 8] ["way","deep","far"] (["house","signs","many","wheel","deep","place","room","state","far","ways"]:List Str) _=true from by ac_nf) (λ _ _ _ _ _ _=>(aM (i:=0) (show List.Nodup (["way","deep","far"]:List Str) by ac_nf) rfl oI)) (λ _ _ _ _ _ _=>cA) (λ _ _ _ _ _ _=>(dH fu (d9 (cO hr) (pv 1) (pv 0) (λ _ _=>rfl)) (pv 2) (aY _)))) aq)) (λ _=>rfl))))) (aA (gb (cO hr) (pv 4) (pv 7) (aP cI (pv 8) az) rfl)) aZ))))))
   (aA (bf (pv 4)))))),h⟩
 have c_f19:Cal pW w K mg base 2 "_law_tail" ["house","signs","many","wheel","deep","state"] (lX K):=ck (st:=top 42) X G (bM (dW e2 29 rfl rfl)) (λ _ _ _ _ _ _=>Ro λ _ _ _ _ _ _=>rfl) λ _ _ F=>F.ok m9 (λ _ _ _ _ h=>N6 h) λ cdv A outer s H vs Q E hr h=>by
  obtain ⟨Eh,h⟩:=N5 h;exact ⟨yd K E Eh,(ao (bH (PW.pt (pX (aV f9 (aQ (aK K rfl) (pv 5) az (λ _ _=>rfl)) bG (aY _)) (nU (aV f9 (d9 (cO hr) (pv 4) (pv 5) (λ _ _=>rfl)) bG (aY _))))) (aA (bf bG)) aZ)
   (ao (aG (i:=6) m9.nd rfl oI bW)
   (ao (nY Yz (aV Bu (d9 (cO hr) (pv 4) (pv 5) (λ _ _=>rfl)) az (aY _)) (aA (bJ Yz rfl (fC K rfl (aQ (aK K rfl) (aQ (aK K rfl) (pv 0) az (λ _ _=>rfl)) (aQ (aK K rfl) (pv 5) az (λ _ _=>rfl)) (λ _ _=>rfl))) (aM (i:=7) m9.nd rfl oI) (ao (aG (i:=8) m9.nd rfl oI (b8 c_f23 hr (by decide) rfl (aa (pv 5) (aa (pv 7) (aa (pv 1) (aa (pv 2) (aa (pv 3) aq)))))))
   (aA (bH (PW.pt (dX (aV fZ (d9 (cO hr) (pv 4) (pv 8) (λ _ _=>rfl)) bG (aY _)) (cZ (aV fu (aP cI (d9 (cO hr) (pv 4) (pv 8) (λ _ _=>rfl)) az) (d9 (cO hr) (pv 4) (pv 5) (λ _ _=>rfl)) (aY _))))) (ao (aG (i:=6) m9.nd rfl oI (aP dZ (pv 6) (aQ (aK K rfl) (pv 7) az (λ _ _=>rfl))))
   (ao (aG (i:=5) m9.nd rfl oI (pv 8))
   (aA Bh))) aZ))))))
   (aA (bf (pv 6)))))),h⟩
 have c_f21:Cal pW w K mg base 6 "_law_made" ["house","signs","many","wheel","turned_round","filler"] (lY K):=ck (st:=top 43) X G (bM (dW e2 30 rfl rfl)) (λ _ _ _ _ _ _=>Ro λ _ _ _ _ _ _=>rfl) λ _ _ F=>F.ok yj (λ _ _ _ _ h=>N8 h) λ cdv A outer s H vs Q E hr h=>by
  obtain ⟨Eh,h⟩:=N7 h;exact ⟨ye K E Eh,(ao (aG (i:=6) yj.nd rfl oI (b8 c_f28 hr (by decide) rfl (aa (pv 1) (aa (pv 2) (aa (cG (bT K rfl) rfl z_tuple (by ac_nf) (aa (pv 3) aq)) aq)))))
   (ao (bH (PW.pt (dX (aV fu (aL (aR K rfl) rfl z_len (by ac_nf) (aa (pv 3) aq)) az (aY _)) (cZ (aV fu (aQ (bO K rfl) (pv 3) az (λ _ _=>rfl)) az (aY _))))) (aA (aG (i:=6) yj.nd rfl oI (Hf cd_f28 hr (by decide) rfl (aa (pv 1) (aa (pv 2) aq))))) aZ)
   (ao (bH (cg K rfl (pv 4) (λ _=>rfl)) (aA (bf (b8 c_f26 hr (by decide) rfl (aa (b8 c_f29 hr (by decide) rfl (aa (pv 6) (aa (pv 0) aq))) (aa (pv 5) aq))))) aZ)
   (aA (bf (b8 c_f26 hr (by decide) rfl (aa (b8 c_f29 hr (by decide) rfl (aa (pv 0) (aa (pv 6) aq))) (aa (pv 5) aq)))))))),h⟩
 have c_f16:Cal pW w K mg base 4 "_law_part" ["made","house","plan","deep","part","fillers"] (lZ K):=ck (st:=top 44) X G (bM (dW e2 31 rfl rfl)) (λ _ _ _ _ _ _=>Ro λ _ _ _ _ _ _=>rfl) λ _ _ F=>F.ok iC (λ _ _ _ _ h=>Nf h) λ cdv A outer s H vs Q E hr h=>by
  obtain ⟨Eh,h⟩:=Nb h;exact ⟨yf K E Eh,(ao (vC (pv 2) (eU K rfl rfl (bz (aM (i:=6) iC.nd rfl oI) (bz (aM (i:=7) iC.nd rfl oI) (bz (aM (i:=8) iC.nd rfl oI) eO)))))
   (ao (aG (i:=9) iC.nd rfl oI (b8 c_f11 hr (by decide) rfl (aa (pv 1) (aa (pv 6) (aa (pv 7) (aa (pv 8) (aa (pv 4) aq)))))))
   (ao (aG (i:=10) iC.nd rfl oI (kj (dH fu (aQ (aK K rfl) (pv 9) az (λ _ _=>rfl)) az (aY _)) (kj (dH fZ (aQ (aK K rfl) (pv 9) az (λ _ _=>rfl)) bG (aY _)) (nW (dH (di K rfl) (aQ (aK K rfl) (pv 9) az (λ _ _=>rfl)) (aQ (aK K rfl) (pv 1) az (λ _ _=>rfl)) (by with_unfolding_all rfl))))))
   (ao (aG (i:=11) iC.nd rfl oI (cQ (aa (b8 c_f27 hr (by decide) rfl (aa (pv 0) (aa (pv 4) aq))) (aa (b8 c_f27 hr (by decide) rfl (aa (pv 0) (aa (aP dZ (pv 4) (pv 5)) aq))) aq))))
   (ao (bH (PW.pt (pX (gq (cg K rfl (aL (cU K rfl) rfl z_isinstance (by ac_nf) (aa (aQ (bO K rfl) (pv 11) az (λ _ _=>rfl)) (aa (j6 (v:= .ty "bool") (u:= .type "bool") rfl z_bool (by ac_nf) rfl) aq))) (λ _=>rfl))) (pX (gq (cg K rfl (aL (cU K rfl) rfl z_isinstance (by ac_nf) (aa (aQ (bO K rfl) (pv 11) az (λ _ _=>rfl)) (aa (j6 (v:= .ty "bool") (u:= .type "bool") rfl z_bool (by ac_nf) rfl) aq))) (λ _=>rfl))) (nU (aV (yD K rfl hr.units) (pv 11) (cQ (aa (pv 10) (aa (pv 10) aq))) (aY _)))))) (aA (bf pW)) aZ)
   (ao (aG (i:=12) iC.nd rfl oI (b8 c_f19 hr (by decide) rfl (aa (pv 1) (aa (pv 6) (aa (pv 7) (aa (pv 8) (aa (pv 3) (aa (pv 9) aq))))))))
   (ao (aG (i:=13) iC.nd rfl oI (b8 c_f31 hr (by decide) rfl (aa (pv 0) (aa (pv 4) aq))))
   (ao (bH (PW.pt (pX (aV f9 (pv 12) bG (aY _)) (nU (aV f9 (pv 13) bG (aY _))))) (aA (bf (kj (dH f9 (pv 12) bG (aY _)) (nW (dH f9 (pv 13) bG (aY _)))))) aZ)
   (aA (bf (kj (aL (cU K rfl) rfl z_isinstance (by ac_nf) (aa (pv 13) (aa (j6 (v:= .ty "str") (u:= .type "str") rfl z_str (by ac_nf) rfl) aq))) (nW (dH fu (pv 13) (pv 12) (aY _)))))))))))))),h⟩
 have F:=ou (st:=top 45) lL qL kL;exact F.ok cL (λ _ _ _ _ h=>Nj h) λ cdv A outer s H vs Q E hr h=>by
  obtain ⟨Eh,h⟩:=Ni h;exact ⟨yg K E Eh,(ao (aG (i:=1) cL.nd rfl oI (b8 c_f2 hr (by decide) rfl (aa (pv 0) (aa az aq))))
   (ao (aG (i:=2) cL.nd rfl oI (b8 c_f14 hr (by decide) rfl (aa (b8 c_f2 hr (by decide) rfl (aa (pv 0) (aa az aq))) (aa (aP cI az (aP bK (aP bU (pv 1) az) az)) aq))))
   (ao (aG (i:=3) cL.nd rfl oI (aQ jo (pv 2) (yo qT az) (λ _ _=>rfl)))
   (ao (aG (i:=2) cL.nd rfl oI (dJ jr (pv 2) ik (dI (yo qT az))))
   (ao (aG (i:=4) cL.nd rfl oI (aP cI az (aP bK (pv 1) az)))
   (ao (qu (i:=5) [none,some 0] ["k","script"] rfl cL.nd rfl rfl (cF rfl z_range (aa (aP bK (aP bU (pv 1) az) az) aq)) (show CScope (aC (top 45)) _ from ⟨rfl,by ac_nf,by ac_nf,by ac_nf⟩) (show capOk [none,some 0] ["k","script"] (["script","head","signs","filler","many","wheel","house","made","deep","text","more","part","short","state","due"]:List Str) _=true from by ac_nf) (λ _ _ _ _ _ _=>(aM (i:=0) (show List.Nodup (["k","script"]:List Str) by ac_nf) rfl oI)) (λ _ _ _ _ _ _=>cA) (λ _ _ _ _ _ _=>(aP bK (b8 c_f2 hr (by decide) rfl (aa (pv 1) (aa (aP cI az (pv 0)) aq))) az)))
   (ao (bH (aV (GJ K rfl hr.units) (pv 5) (cQ aq) (aY _)) (aA (aG (i:=5) cL.nd rfl oI (cQ (aa az aq)))) aZ)
   (ao (aG (i:=6) cL.nd rfl oI (b8 c_f8 hr (by decide) rfl (aa (dJ (uy K rfl) (pv 0) (dI az) (dI az)) (aa (aP cI az (aP bK (aP bU (pv 1) az) az)) (aa (pv 2) aq)))))
   (ao (aG (i:=7) cL.nd rfl oI (b8 c_f21 hr (by decide) rfl (aa (pv 6) (aa (pv 2) (aa (pv 4) (aa (pv 5) (aa (dH fu (aP bK (aP bU (pv 1) az) az) az (aY _)) (aa (pv 3) aq))))))))
   (ao (aG (i:=8) cL.nd rfl oI (b8 c_f12 hr (by decide) rfl (aa (pv 6) (aa (pv 2) (aa (pv 4) (aa (pv 5) aq))))))
   (ao (aG (i:=9) cL.nd rfl oI (b8 c_f20 hr (by decide) rfl (aa (pv 6) (aa (pv 2) (aa (dJ (uy K rfl) (pv 0) (dI az) (dI az)) aq)))))
   (ao (aG (i:=10) cL.nd rfl oI (b8 c_f2 hr (by decide) rfl (aa (pv 0) (aa az aq))))
   (ao (bJ Yz rfl (bQ K rfl (cQ (aa (pv 9) (aa (dJ jr (pv 9) ik (dI (aP bK (pv 10) (aP cI (aL (aR K rfl) rfl z_len (by ac_nf) (aa (pv 9) aq)) az)))) aq)))) (aM (i:=11) cL.nd rfl oI) (aA (bH (gq (cg K rfl (b8 c_f16 hr (by decide) rfl (aa (pv 7) (aa (pv 6) (aa (cP (aa (pv 2) (aa (pv 4) (aa (pv 5) aq)))) (aa (pv 8) (aa (pv 11) (aa (aP w6 (pv 3) (aP bK (aP bU (pv 10) az) az)) aq))))))) (λ _=>rfl))) (aA (bf pW)) aZ)))
   (ao (aG (i:=12) cL.nd rfl oI (dJ jr (pv 9) ik (dI az)))
   (ao (aG (i:=13) cL.nd rfl oI (b8 c_f11 hr (by decide) rfl (aa (pv 6) (aa (pv 2) (aa (pv 4) (aa (pv 5) (aa (pv 12) aq)))))))
   (ao (aG (i:=14) cL.nd rfl oI bG)
   (ao (bH (PW.pt (dX (aV fu (aQ (aK K rfl) (pv 13) az (λ _ _=>rfl)) az (aY _)) (dX (aV fZ (aQ (aK K rfl) (pv 13) az (λ _ _=>rfl)) bG (aY _)) (cZ (aV (di K rfl) (aQ (aK K rfl) (pv 13) az (λ _ _=>rfl)) (aQ (aK K rfl) (pv 6) az (λ _ _=>rfl)) (by with_unfolding_all rfl)))))) (aA (aG (i:=14) cL.nd rfl oI (pv 12))) aZ)
   (aA (bf (dH fu (b8 c_f31 hr (by decide) rfl (aa (b8 c_f29 hr (by decide) rfl (aa (b8 c_f30 hr (by decide) rfl (aa (cQ (aa (pv 12) aq)) aq)) (aa (pv 7) aq))) (aa bW aq))) (pv 14) (aY _))))))))))))))))))))),h⟩
theorem fin:PySem.Challenge.rw_blotsure_k30_whole_houses_joined.Holds:=by
 refine holds_law said λ said=>holds_open (q:=vw) (loose:=["sums"]) (Xt:=λ s=>xlAt vw [] s&&recOk [] s) (XP:=XL vw []) (Ya:=λ _=>ans) (YP:=λ _ h=> ∃K:Frag,K.In h/\obs K=ans) left (λ w s e=>⟨_,qP,e⟩) (λ w h h' ⟨K,X,e⟩ k=>⟨K,Frag.In.keeps X k,e⟩) (λ s e=>xl_of s (Bool.and_eq_true_iff.mp e).1) XL.keeps (by rfl) (by rfl) (by rfl) (λ s e=>recFacts_of (Bool.and_eq_true_iff.mp e).2) (by rfl) said (by ac_nf) ⟨rfl,rfl,rfl,rfl,rfl,by ac_nf⟩ ?hw ?hc
 case hw=>w_witness2
 rintro w s s' mg mb G ⟨K,X,e⟩;obtain ⟨_,_,_,t_PLAIN_WHEEL⟩:=yl (dW (Yn (·.2.2.2.2) e) 1 rfl rfl);exact L2.Ag (n:=63) (k:=7) (x:="script") (CX:=λ _=>L2.Gv) (K:=λ _=>K) (YP:=λ _ h=>K.In h) (sp:=λ _=>m5 K) rfl (by decide) rfl ⟨rfl,by decide,by decide⟩ (λ _ _ Y=>Y) (λ _ _ _ _ KX G hmg=>Nr KX G hmg e) (λ _ _ a ns hl hb _ hS=>⟨a,ns,rfl,L2.Iv t_PLAIN_WHEEL,hS,hl,hb,λ _=>rfl⟩) (λ _ _ _ _ _ z=>z) w s s' mg mb G X
end Pg
open PySem PySem.W PyProof.Rows
theorem PySem.Challenge.cw_blotsure_k30_whole_houses_joined_holds : PySem.Challenge.rw_blotsure_k30_whole_houses_joined.Holds :=
 Pg.fin
