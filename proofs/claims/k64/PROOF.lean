import PyProof.Rows.All
import KE.KDictOf
import OpenK.KEqL
import KE.KTryMore
import KE.KItemsList
import KE.KItem
import KE.IntTextLaws
import PySem.Challenge.RW_blotsure_k64_page_set
abbrev Qb:=@List.length_map
abbrev Qr:=@PySem.wpAny_bind
abbrev Za:=@List.mem_singleton
abbrev Zb:=@List.map_append
abbrev Zc:=@List.getElem?_eq_getElem
abbrev Zd:=@PySem.Heap.get?_push_of_some
abbrev Ze:=@List.mem_map
abbrev Zf:=@List.length_append
abbrev Zg:=@List.mem_of_getElem?
abbrev Zh:=@List.mem_append
abbrev Zi:=@PySem.wpAny_pure
abbrev Zj:=@List.map_map
abbrev Zk:=@congrArg
abbrev Zl:=@PySem.Heap.lt_size
abbrev Zm:=@List.getElem?_map
abbrev Zn:=@List.map_cons
abbrev Zo:=@Nat.le_refl
abbrev Zp:=@List.mem_cons_self
abbrev Zq:=@Bool.false_ne_true
abbrev Zr:=@Option.some.inj
abbrev Zs:=@List.size_toArray
abbrev Zt:=@Nat.lt_of_lt_of_le
abbrev Zu:=@List.mem_cons_of_mem
abbrev Zv:=@List.getElem?_eq_some_iff
abbrev Zw:=@PySem.Heap.get?_push_size
abbrev Zx:=@List.mem_cons
abbrev Zy:=@Nat.le_trans
abbrev Zz:=@List.getD_eq_getElem?_getD
abbrev Yb:=@List.mem_append_right
abbrev Yc:=@List.take_add_one
abbrev Yd:=@PySem.wpAny_mono
abbrev Ye:=@PySem.F.excBase_ValueError
abbrev Yf:=@List.length_singleton
abbrev Yg:=@Nat.lt_of_le_of_lt
abbrev Yh:=@List.take_length
abbrev Yi:=@decide_eq_true
abbrev Yj:=@decide_eq_false
abbrev Yk:=@Option.map_eq_some_iff
abbrev Yl:=@List.nodup_append
abbrev Ym:=@List.nodup_cons
abbrev Yn:=@Nat.ne_of_lt
abbrev Yo:=@List.length_replicate
abbrev Yp:=@List.length_take
abbrev Yq:=@PyProof.Rows.wpS_bind
abbrev Yr:=@List.getElem_mem
abbrev Ys:=@of_decide_eq_true
abbrev Yt:=@PySem.wpAny_holding
abbrev Yu:=@Int.toNat_natCast
abbrev Yv:=@Nat.zero_le
abbrev Yw:=@List.mem_append_left
abbrev Yx:=@List.getElem?_append_left
abbrev Yy:=@PySem.Heap.get?_update_other
abbrev Yz:=@PySem.W.hideAll_get
abbrev Xa:=@Array.length_toList
abbrev Xb:=@List.replicate_succ
abbrev Xc:=@PySem.sizeLine_eq
abbrev Xd:=@List.getElem?_append_right
abbrev Xe:=@PySem.W.kia_one
abbrev Xf:=@PySem.Heap.get?_update_self
abbrev Xg:=@PyProof.Rows.wpS_pure
abbrev Xh:=@List.mem_filter
abbrev Xi:=@Int.emod_nonneg
abbrev Xj:=@Bool.false_eq_true
abbrev Xk:=@Int.emod_lt_of_pos
abbrev Xl:=@List.lookup_cons
abbrev Xm:=@Bool.and_eq_true
abbrev Xn:=@List.mem_iff_getElem
abbrev Xo:=@List.not_mem_nil
abbrev Xp:=@Nat.lt_irrefl
abbrev Xq:=@PySem.wpAny_truthy_bool
abbrev Xr:=@List.take_of_length_le
abbrev Xs:=@List.any_eq_true
abbrev Xu:=@Nat.le_of_lt
abbrev Xv:=@PySem.F.slot_dict_keyiterator_next
abbrev Xw:=@List.getElem?_set_self
abbrev Xx:=@PySem.wpAny_Call_Name_kw
abbrev Xy:=@List.pairwise_cons
abbrev Xz:=@Array.getElem?_eq_some_iff
abbrev Wa:=@List.drop_eq_getElem_cons
abbrev Wb:=@List.find?_cons
abbrev Wc:=@PySem.codeAny_builtin
abbrev Wd:=@List.flatten_cons
abbrev We:=@PySem.wpAny_newObj_type
abbrev Wg:=@List.Pairwise.imp
abbrev Wh:=@Nat.lt_or_ge
abbrev Wi:=@PySem.wpAny_field
abbrev Wj:=@PySem.wpAny_standAt
abbrev Wl:=@List.filterMap_cons
abbrev Wm:=@PySem.mem_of_lookup
abbrev Wn:=@List.map_eq_nil_iff
abbrev Wo:=@List.length_cons
abbrev Wp:=@List.filter_cons
abbrev Wq:=@PySem.Calls.spliced_cons
abbrev Wr:=@PySem.Obj.data_mapFields
abbrev Ws:=@List.length_pos_of_mem
abbrev Wt:=@List.map_inj_right
abbrev Wu:=@Option.map_some
abbrev Wv:=@PySem.wpAny_execs_nil
abbrev Ww:=@PySem.wpAny_isOneOf_keyiter
abbrev Wx:=@Array.getElem?_toList
abbrev Wy:=@List.take_append_drop
abbrev Wz:=@Nat.le_of_ble_eq_true
abbrev À:=@List.length_filter_le
abbrev Á:=@List.take_sublist
abbrev Â:=@Sum.inr.inj
abbrev Ã:=@List.getElem?_set_ne
abbrev Ä:=@Bool.false_and
abbrev Å:=@PySem.Calls.evalArgs_plain
abbrev Æ:=@Array.perm_iff_toList_perm
abbrev Ç:=@PySem.Around.under_plainId
abbrev È:=@List.getElem_inj
abbrev É:=@List.length_drop
abbrev Ê:=@List.getElem_map
abbrev Ë:=@beq_eq_false_iff_ne
abbrev Ì:=@PySem.Paired.length
abbrev Í:=@if_false
abbrev Î:=@List.any_cons
abbrev Ï:=@PySem.wpAny_comprehension_free
abbrev Ð:=@List.nil_append
abbrev Ñ:=@PySem.wpAny_passesOwn
abbrev Ò:=@Bool.eq_iff_iff
abbrev Ó:=@Array.append_assoc
abbrev Ô:=@PySem.W.of_hideAll
abbrev Õ:=@List.mem_filterMap
abbrev Ö:=@PySem.tupleKind_room_in1
abbrev Ø:=@List.filter_append
abbrev Ù:=@Nat.ne_of_gt
abbrev Ú:=@PySem.Calls.spliced_nil
abbrev Û:=@PySem.Calls.callWith_builtin
abbrev Ü:=@Nat.lt_trans
abbrev Ý:=@PySem.wpAny_setField
abbrev Þ:=@PyProof.Rows.wpS_forRange
abbrev ß:=@List.drop_of_length_le
abbrev à:=@Classical.not_not
abbrev á:=@PySem.F.slot_dict_get
abbrev â:=@PySem.Obj.isFreed_of_fields
abbrev ã:=@PySem.wpAny_execs_cons
abbrev ä:=@PySem.call_meets
abbrev å:=@PySem.wpAny_call_entry
abbrev æ:=@PySem.wpAny_attempt
abbrev ç:=@List.mem_of_mem_take
abbrev è:=@List.append_nil
abbrev é:=@PySem.F.slot_int_rmul
abbrev ê:=@List.map_congr_left
abbrev ë:=@PySem.codeAny_mono
abbrev ì:=@Nat.not_lt
abbrev í:=@PySem.W.tail_of_in
abbrev î:=@List.Nodup.sublist
abbrev ï:=@List.mem_replicate
abbrev ð:=@if_true
abbrev ñ:=@List.append_assoc
abbrev ò:=@Option.isSome_map
abbrev ó:=@Nat.le_succ
abbrev ô:=@Bool.not_eq_true'
abbrev õ:=@PySem.wpAny_dictEntries
abbrev ö:=@List.pairwise_map
abbrev ø:=@PySem.wpAny_loadPart_at
abbrev ù:=@List.cons.inj
abbrev ú:=@LawfulBEq.eq_of_beq
abbrev û:=@List.all_eq_true
abbrev ü:=@List.map_fst_zip
abbrev ý:=@List.map_snd_zip
abbrev þ:=@Nat.min_eq_right
abbrev ÿ:=@List.drop_length
abbrev Ā:=@List.map_nil
abbrev ā:=@beq_iff_eq
abbrev Ă:=@PyProof.Rows.listItems_at
abbrev ă:=@List.of_mem_zip
abbrev Ą:=@List.length_set
abbrev ą:=@List.forIn_cons
abbrev Ć:=@PySem.wpAny_dictEpoch
abbrev ć:=@Nat.min_eq_left
abbrev Ĉ:=@PySem.wpAny_throw
abbrev ĉ:=@PyProof.Rows.wpS_reverse
abbrev Ċ:=@PyProof.Rows.mirror_perm
abbrev ċ:=@or_false
abbrev Č:=@PyProof.Rows.wpS_get
set_option Elab.async false
set_option linter.all false
set_option maxRecDepth 100000
noncomputable section
local macro_rules | `(tactic| ac_rfl) => `(tactic| exact ⟨rfl,rfl,rfl,by decide+kernel,rfl,by decide+kernel,by decide+kernel⟩)
local macro_rules | `(tactic| ac_nf) => `(tactic| decide+kernel)
set_option maxHeartbeats 4000000
local macro_rules | `(tactic| rfl') => `(tactic| first | lia | omega)
local macro_rules | `(tactic| show $e) => `(tactic| exact $e)
local macro_rules | `(#[$a,*]) => `(⟨$a,*⟩)
local macro_rules | `(tactic| let $p:term $[:$t]? :=$e)=>do
 let rec g:Nat->Lean.Term->Lean.MacroM (Lean.TSyntax `Lean.Parser.Tactic.rcasesPatMed)
  |0,_=>Lean.Macro.throwUnsupported
  |n+1,t=>do
   match t with
   |`(#[$a,*])=>do
    let b<-a.getElems.mapM (g n)
    `(Lean.Parser.Tactic.rcasesPatMed|⟨$[$b:rcasesPatMed],*⟩)
   |`($i:ident)=>`(Lean.Parser.Tactic.rcasesPatMed|$i:ident)
   |_=>`(Lean.Parser.Tactic.rcasesPatMed|_)
 `(tactic| obtain $(<-g 9 p):rcasesPatMed $[:$t]? :=$e)
local macro_rules | `(()) => `(by rfl')
namespace L2
open PySem
def cX (s:Stmt):Arguments:=match s with
 | .FunctionDef _ a _ _ _ _ _ _ _ _=>a
 | _=>{ posonlyargs:=[],args:=[],vararg:=none,kwonlyargs:=[],kw_defaults:=[],kwarg:=none,defaults:=[] }
def cA (s:Stmt):List Stmt:=match s with
 | .FunctionDef _ _ b _ _ _ _ _ _ _=>b
 | _=>[]
def az (s:Stmt):Scope:=match s with
 | .FunctionDef _ _ _ _ _ _ sc _ _ _=>sc
 | _=>{ kind:= .function,names:=[],isGenerator:=false,isCoroutine:=false }
end L2
abbrev pWo:=PySem.Challenge.pw_blotsure_k64_page_set
abbrev L1S:=List (PySem.Str×Int)
abbrev L2S:=List L1S
namespace Pg
open PySem L2 PySem.W
set_option maxHeartbeats 0
variable {as:List Addr}
def top (i:Nat):Stmt:=pWo.main.body.getD i (.Pass #[0,0,0,0])
def live:Obj->Option Obj | ⟨_,_, .freed,_⟩=>none | o=>some o
theorem wu (h:Heap) (a:Addr):h.get? a=h.objs[a]?.bind live:=by
 unfold Heap.get?;cases h.objs[a]? with
 | none=>rfl
 | some o=>let#[_,_,d,_]:=o;cases d<;>rfl
def Du:List Obj->Nat->List Addr->Frag
 | o::os,i,a::as=>if a==i then ((live o).map (a,·)).toList++Du os (i+1) as else Du os (i+1) (a::as)
 | _,_,_=>[]
theorem ww {b:Addr} {x:Obj}: ∀ {l:List Obj} {i:Nat} {as:List Addr},(Du l i as).lookup b=some x-> ∃j,b=i+j/\l[j]?.bind live=some x
 | [],i,as,e=>by simp [Du] at e
 | o::os,i,[],e=>by simp [Du] at e
 | o::os,i,a::as,e=>by
  have r: ∀c,(Du os (i+1) c).lookup b=some x-> ∃j,b=i+j/\(o::os)[j]?.bind live=some x:=λ c q=>by
   let#[j,rfl,k]:=ww q;show#[j+1,Nat.succ_add_eq_add_succ i j,k]
  unfold Du at e;split at e
  .rename_i z;cases q:live o with
   | none=>rw [q] at e;show r _ e
   | some y=>
    rw [q] at e;simp only [Wu,Option.toList_some,List.cons_append,Ð,Xl] at e;split at e
    .rename_i u;cases e;rw [ú u,ú z];show#[0,rfl,q]
    .exact r _ e
  .exact r _ e
def IW (as:List Addr) (h:Heap):Frag:=Du h.objs.toList 0 as
theorem Bh {h:Heap}:(IW as h).In h:=λ b o e=>by
 let#[j,rfl,k]:=ww e;rw [wu,Nat.zero_add];simpa using k
abbrev DO:=Str×Str×Arguments×FuncBody×Scope×Addr×List (Str×Addr)×Addr×Bool×Bool
def Io (K:Frag) (n:Str):Option (Option Addr×DO):=match nsIn K mainGlobals n with
 | some (some (.ref f))=>match K.lookup f with
  | some ⟨_,_, .func d,_⟩=>(match d.defaults with | .none=>some none | .ref t=>some (some t) | _=>none).map λ t=>(t,d.name,d.qualname,d.params,d.body,d.scope,d.globals,d.closure,d.builtins,codeIn K d.code n,keepIn K (.ref f))
  | _=>none
 | _=>none
def Ip (t:Option Addr) (n:Str) (i:Nat):Option (Option Addr×DO):=some (t,n,n,cX (top i), .stmts (cA (top i)),az (top i),mainGlobals,[],builtinsNs,true,true)
def Mj (K:Frag) (C:Addr):Bool×List (Option (Option Value))×List (Option Bool):=
 (excIn K C [.type "ValueError", .type "Exception", .type "BaseException", .type "object"] "ValueError.__new__",[findIn K (.ref C) "__getattribute__",findIn K (.ref C) "__getattr__",findIn K (.ref C) "__class__",specialIn K (.builtin "object.__class__") "__get__"],[takesIn K (.builtin "object.__class__"),mroIn K C (.type "object"),subIn K (.ref C) (.type "BaseException")])
def qp:Bool×List (Option (Option Value))×List (Option Bool):=(true,[some (some (.builtin "BaseException.__getattribute__")),some none,some (some (.builtin "object.__class__")),some (some (.builtin "getset_descriptor.__get__"))],[some true,some true,some true])
def nms:List Str:=(["isinstance","bool","int","len","str","ord","list","tuple","sorted","range","dict","sum","max","LEFT_OUT","MOST_ROOMS","BlotError","NotAlike","OffStrip","NoSheet","NoFont","NoSign","NoHouse","NoWords","TooWide","NoFiller","NotTaken","NoRow","NoName","NoNote"]:List String).map Str.ofString
def O8:List (Option (Option Value)):=[some none,some none,some none,some none,some none,some none,some none,some none,some none,some none,some none,some none,some none,some (some (.int 37 417)),some (some (.int 40 447)),some (some (.ref 24)),some (some (.ref 37)),some (some (.ref 49)),some (some (.ref 61)),some (some (.ref 73)),some (some (.ref 85)),some (some (.ref 97)),some (some (.ref 109)),some (some (.ref 121)),some (some (.ref 133)),some (some (.ref 145)),some (some (.ref 157)),some (some (.ref 169)),some (some (.ref 181))]
def Ir:List (Str×Nat):=((["is_whole","is_sign","columns_of","check_rooms","check_room","made_doors","made_ends","make_house","room_behind","goes","takes","padded","set_text","filler_columns","padded_by","filled","page","_law_cell_at","_law_whole","_law_signs","_law_height","_law_columns","_law_letters","_law_house","_law_takes","_law_rows","_law_wide","_law_only","_law_due","_law_asked","_law_strips","_law_bad_filler","_law_spoilt","_law_room","_law_house_signs","_law_none","law"]:List String).map Str.ofString).zip [17,18,20,24,27,25,26,23,29,28,30,32,34,38,37,39,36,41,42,43,44,45,46,47,48,49,50,51,52,53,54,55,56,57,58,59,60]
def obs (K:Frag):=(nms.map (nsIn K mainGlobals),Ir.map (λ d=>Io K d.1),[24,37,49,61,73,85,97,109,121,133,145,157,169,181].map (Mj K),[(exmOne K (.ref 85) (.ref 85),kitOne K (.ref 85) (.type "ValueError"),([]:List (Option Bool)),([]:List (Option Bool))),(exmOne K (.ref 97) (.ref 97),kitOne K (.ref 97) (.type "ValueError"),([]:List (Option Bool)),([]:List (Option Bool))),(exmOne K (.ref 85) (.ref 24),kitOne K (.ref 85) (.type "ValueError"),([kitOne K (.ref 85) (.ref 85),kitOne K (.ref 85) (.ref 145),kitOne K (.ref 85) (.ref 121),kitOne K (.ref 85) (.ref 133),kitOne K (.ref 85) (.ref 97)]:List (Option Bool)),([kitAny K (.ref 85) [.ref 37, .ref 49, .ref 61, .ref 73, .ref 109],kitAny K (.ref 85) [.ref 157, .ref 169, .ref 181]]:List (Option Bool))),(exmOne K (.ref 145) (.ref 24),kitOne K (.ref 145) (.type "ValueError"),([kitOne K (.ref 145) (.ref 85),kitOne K (.ref 145) (.ref 145),kitOne K (.ref 145) (.ref 121),kitOne K (.ref 145) (.ref 133),kitOne K (.ref 145) (.ref 97)]:List (Option Bool)),([kitAny K (.ref 145) [.ref 37, .ref 49, .ref 61, .ref 73, .ref 109],kitAny K (.ref 145) [.ref 157, .ref 169, .ref 181]]:List (Option Bool))),(exmOne K (.ref 121) (.ref 24),kitOne K (.ref 121) (.type "ValueError"),([kitOne K (.ref 121) (.ref 85),kitOne K (.ref 121) (.ref 145),kitOne K (.ref 121) (.ref 121),kitOne K (.ref 121) (.ref 133),kitOne K (.ref 121) (.ref 97)]:List (Option Bool)),([kitAny K (.ref 121) [.ref 37, .ref 49, .ref 61, .ref 73, .ref 109],kitAny K (.ref 121) [.ref 157, .ref 169, .ref 181]]:List (Option Bool))),(exmOne K (.ref 133) (.ref 24),kitOne K (.ref 133) (.type "ValueError"),([kitOne K (.ref 133) (.ref 85),kitOne K (.ref 133) (.ref 145),kitOne K (.ref 133) (.ref 121),kitOne K (.ref 133) (.ref 133),kitOne K (.ref 133) (.ref 97)]:List (Option Bool)),([kitAny K (.ref 133) [.ref 37, .ref 49, .ref 61, .ref 73, .ref 109],kitAny K (.ref 133) [.ref 157, .ref 169, .ref 181]]:List (Option Bool)))])
def ans:List (Option (Option Value))×List (Option (Option Addr×DO))×List (Bool×List (Option (Option Value))×List (Option Bool))×List (Option Bool×Option Bool×List (Option Bool)×List (Option Bool)):=(O8,Ir.map (λ d=>Ip none d.1 d.2),[qp,qp,qp,qp,qp,qp,qp,qp,qp,qp,qp,qp,qp,qp],[(some true,some true,[],[]),(some true,some true,[],[]),(some true,some true,[some true,some false,some false,some false,some false],[some false,some false]),(some true,some true,[some false,some true,some false,some false,some false],[some false,some false]),(some true,some true,[some false,some false,some true,some false,some false],[some false,some false]),(some true,some true,[some false,some false,some false,some true,some false],[some false,some false])])
def vw:Program:={ pWo with main:={ pWo.main with body:=[60].filterMap (pWo.main.body[·]?) } }
def lo:List Str:=(["BlotError","NotAlike","OffStrip","NoSheet","NoFont","NoSign","NoHouse","NoWords","TooWide","NoFiller","NotTaken","NoRow","NoName","NoNote","LEFT_OUT","is_whole","is_sign","columns_of","MOST_ROOMS","make_house","check_rooms","made_doors","made_ends","check_room","goes","room_behind","takes","padded","set_text","page","padded_by","filler_columns","filled","_law_cell_at","_law_whole","_law_signs","_law_height","_law_columns","_law_letters","_law_house","_law_takes","_law_rows","_law_wide","_law_only","_law_due","_law_asked","_law_strips","_law_bad_filler","_law_spoilt","_law_room","_law_house_signs","_law_none"]:List String).map Str.ofString
theorem said:PySem.Challenge.rw_blotsure_k64_page_set.wellSaid=true:=by kernel_rfl
theorem J0 {a b c:Type} {o:Option a} {f:a->b} {g:a->c} {x:b} {y:c} (h:o.map f=some x) (k:o.map g=some y):o.map (λ s=>(f s,g s))=some (x,y):=by cases o with | none=>cases h | some s=>cases h;cases k;rfl
theorem J1 (w:World):(openEnds treeTable pWo w 8388).map (λ s=>openSeen vw lo (importedModules pWo.main.body) (λ s=>xlAt vw [] s&&recOk [] s) true s)=some (openGood vw lo):=by kernel_rfl
def ob (s:Shared):=obs (IW [2,3,15,22,23,24,25,28,35,36,37,40,47,48,49,52,59,60,61,64,71,72,73,76,83,84,85,88,95,96,97,100,107,108,109,112,119,120,121,124,131,132,133,136,143,144,145,148,155,156,157,160,167,168,169,172,179,180,181,184,186,187,189,190,191,193,194,196,197,198,200,201,203,204,205,208,209,210,212,213,215,216,217,219,220,222,223,224,226,227,229,230,231,233,234,236,237,238,240,241,243,244,245,247,248,250,251,252,254,255,257,258,259,262,263,264,266,267,269,270,271,274,275,276,278,279,281,282,283,285,286,288,289,290,292,293,295,296,297,299,300,302,303,304,306,307,309,310,311,313,314,316,317,318,320,321,323,324,325,327,328,330,331,332,334,335,337,338,339,342,343,344,346,347,349,350,351,354,355,356,359,360,361,364,365,366,369,370,371,373,374,376,377,378,381,382,383,386,387,388,391,392,393,395,396,398,399,400,403,404,405,408,409,410,413,414] s.heap)
theorem J2 (w:World):(openEnds treeTable pWo w 8388).map ob=some ans:=by kernel_rfl
theorem left:LeftO pWo vw lo (λ s=>xlAt vw [] s&&recOk [] s) ob (λ _=>ans) 8388:=λ w=>J0 (J1 w) (J2 w)
end Pg
set_option Elab.async false
set_option linter.all false
set_option maxRecDepth 100000
namespace L2
open PySem PySem.Spec PyProof.Rows
variable {M:Model} {pos:Pos} {w:World} {A:Around} {d':Drawn} {e tg:Expr} {cd u:Value} {p:Addr×Obj} {qual x:Str} {fd:FuncData} {op op':CmpOp} {s' s1:Shared} {a b dx it:Addr} {i j k n t':Nat} {outer:List Env} {sc scope:Scope} {ch fp:List Addr} {g:Int->Int->Int} {C:Int->Int->Prop} {params:Arguments} {body st:List Stmt} {g':Array GenState} {its us:List Value} {E Q:Value->Shared->Prop} {mA mg:Str->Option Value} {osl:Array (Option Value)} {f:Value->Value->Sem Value} {pins pins':List (Addr×Obj)}
abbrev Key:=Sum Int Str
def iw:Key->Value->Bool
 | .inl k,v=>Value.isInt k v
 | .inr x,v=>Value.isStrOf x v
def Mp (w:World):Key->Int
 | .inl k=>hashInt k
 | .inr x=>hashStr w x
theorem aV: ∀ {k:Key} {v:Value},iw k v=true->(∃i t,k=Sum.inl i/\v=Value.int i t)\/(∃x t,k=Sum.inr x/\v=Value.str x t)
 | .inl i,v,h=>by
  let#[t,e]:=Value.isInt_shape (k:=i) (v:=v) h;show .inl #[i,t,rfl,e]
 | .inr x,v,h=>by
  let#[t,e]:=Value.isStrOf_shape (x:=x) (v:=v) h;show .inr #[x,t,rfl,e]
theorem uX (i:Int) (t:Tok):iw (.inl i) (.int i t)=true:=by simp [iw,Value.isInt]
theorem lF (x:Str) (t:Tok):iw (.inr x) (.str x t)=true:=by simp [iw,Value.isStrOf]
theorem El (a b:Int):decide ((Sum.inl a:Key)=Sum.inl b)=(a==b):=by
 by_cases e:a=b
 .subst e;simp
 .have h: ¬ (Sum.inl a:Key)=Sum.inl b:=λ q=>e (Sum.inl.inj q)
  rw [Yj h];show(Ë.mpr e).symm
theorem Em (a b:Str):decide ((Sum.inr a:Key)=Sum.inr b)=decide (a=b):=by
 by_cases e:a=b
 .subst e;simp
 .have h: ¬ (Sum.inr a:Key)=Sum.inr b:=λ q=>e (Â q)
  rw [Yj h,Yj e]
theorem En (a:Int) (b:Str):decide ((Sum.inl a:Key)=Sum.inr b)=false:=Yj (λ q=>nomatch q)
theorem Eo (a:Str) (b:Int):decide ((Sum.inr a:Key)=Sum.inl b)=false:=Yj (λ q=>nomatch q)
def aY (prog:Program) (w:World):PySem.KeyKind prog w Key where
 is:=iw
 hash:=Mp w
 inj:=λ v a b ha hb=>by
  rcases aV ha with ⟨i,t,rfl,rfl⟩ | ⟨x,t,rfl,rfl⟩
  .rcases aV hb with ⟨j,u,rfl,e⟩ | ⟨y,u,rfl,e⟩
   .injection e with e1 _;rw [e1]
   .exact nomatch e
  .rcases aV hb with ⟨j,u,rfl,e⟩ | ⟨y,u,rfl,e⟩
   .exact nomatch e
   .injection e with e1 _;rw [e1]
 byValue:=λ k v h=>by
  rcases aV h with ⟨i,t,rfl,rfl⟩ | ⟨x,t,rfl,rfl⟩<;>rfl
 pyHash:=λ hv h=>by
  rcases aV hv with ⟨i,t,rfl,rfl⟩ | ⟨x,t,rfl,rfl⟩
  .exact wpAny_pyHash_int h
  .exact wpAny_pyHash_str h
 eqBool:=λ hu hv h=>by
  rcases aV hu with ⟨i,t,rfl,rfl⟩ | ⟨x,t,rfl,rfl⟩
  .rcases aV hv with ⟨j,u,rfl,rfl⟩ | ⟨y,u,rfl,rfl⟩
   .rw [El] at h;show wpAny_eqBool_int h
   .rw [En] at h;show SeqAt.EqAt.int_str i t y u _ _ _ _ h
  .rcases aV hv with ⟨j,u,rfl,rfl⟩ | ⟨y,u,rfl,rfl⟩
   .rw [Eo] at h;show SeqAt.EqAt.str_int x t j u _ _ _ _ h
   .rw [Em] at h;show wpAny_eqBool_str h
 «strs»:=λ k x t v h=>by
  rcases aV h with ⟨i,u,rfl,e⟩ | ⟨y,u,rfl,e⟩
  .exact nomatch e
  .injection e with e1 _
   subst e1
   cases v<;>rfl
theorem eZ (prog:Program) (w:World) (k:Key) (v:Value):(aY prog w).is k v=iw k v:=rfl
theorem oH (prog:Program) (w:World) (i:Int) (t:Tok):(aY prog w).is (.inl i) (.int i t)=true:=uX i t
theorem oJ (prog:Program) (w:World) (x:Str) (t:Tok):(aY prog w).is (.inr x) (.str x t)=true:=lF x t
inductive V where
 | non | bl (b:Bool) | int (i:Int) | str (x:Str) | byt (b:Array UInt8) | flt (b:UInt64) | ref (a:Addr) | ty (n:String)
 deriving DecidableEq
variable {v y:V} {σ':List (Option V)}
def RelV:V->Value->Prop
 | .non,u=>u=Value.none
 | .bl b,u=>u=Value.bool b
 | .int i,u=> ∃t,u=Value.int i t
 | .str x,u=> ∃t,u=Value.str x t
 | .byt b,u=> ∃t,u=Value.bytes b t
 | .flt b,u=> ∃t,u=Value.float b t
 | .ref a,u=>u=Value.ref a
 | .ty n,u=>u=Value.type n
abbrev Vals:List V->List Value->Prop:=Paired RelV
theorem Vals.length {xs:List V} (r:Vals xs us):xs.length=us.length:=Ì r
theorem Vals.get: ∀ {xs:List V} {us:List Value} {i:Nat} {x:V},Vals xs us->xs[i]? =some x-> ∃u,us[i]? =some u/\RelV x u
 | _,_,_,_, .nil,e=>by simp at e
 | _,_,0,_, .cons r _,e=>by simp at e;subst e;show#[_,rfl,r]
 | _,_,i+1,x, .cons _ t,e=>by
  let#[u,a,b]:=Vals.get (i:=i) (x:=x) t (by simpa using e);show#[u,by simpa using a,b]
theorem Vals.set {x:V} (r:RelV x u): ∀ {xs:List V} {us:List Value} (i:Nat),Vals xs us->Vals (xs.set i x) (us.set i u)
 | _,_,_, .nil=> .nil
 | _,_,0, .cons _ t=> .cons r t
 | _,_,i+1, .cons q t=> .cons q (Vals.set r i t)
theorem Vals.append: ∀ {xs ys:List V} {us a:List Value},Vals xs us->Vals ys a->Vals (xs++ys) (us++a)
 | _,_,_,_, .nil,s=>s
 | _,_,_,_, .cons r t,s=> .cons r (Vals.append t s)
theorem Vals.take: ∀ {xs:List V} {us:List Value} (n:Nat),Vals xs us->Vals (xs.take n) (us.take n)
 | _,_,0,_=> .nil
 | _,_,_+1, .nil=> .nil
 | _,_,n+1, .cons r t=> .cons r (Vals.take n t)
theorem Vals.drop: ∀ {xs:List V} {us:List Value} (n:Nat),Vals xs us->Vals (xs.drop n) (us.drop n)
 | _,_,0,r=>r
 | _,_,_+1, .nil=> .nil
 | _,_,n+1, .cons _ t=>Vals.drop n t
def RelO:Option V->Option Value->Prop
 | some v,some u=>RelV v u
 | none,none=>True
 | _,_=>False
def KV {κ:Type}:List (κ×V)->List (κ×Value)->Prop:=Paired λ (p:κ×V) (q:κ×Value)=>p.1=q.1/\RelV p.2 q.2
def kV:Key->V
 | .inl i=> .int i
 | .inr x=> .str x
inductive HO where
 | lst (xs:List V)
 | tup (xs:List V)
 | dK (kvs:List (Key×V)) | dT (kvs:List (List Key×V))
 | set (S:Int->Bool) (n:Nat)
 | ins (C dx:Addr) (fs:List (Str×V))
 | own (x:Addr)
 | xd (fs:List (Str×V))
 | met (f x:Addr)
 | rng (lo hi:Int)
 | frz (o:Obj) (u:HO)
 | tbl (ps:Array Value)
 | ext (φ:Heap->Prop)
abbrev Hp:=Addr->Option HO
variable {H:Hp} {R:V->V->Hp->Prop}
def upd (H:Hp) (a:Addr) (o:HO):Hp:=λ b=>if b=a then some o else H b
theorem aj {o:HO}:upd H a o a=some o:=by unfold upd;rw [if_pos rfl]
theorem aC {o:HO} (h:b≠a):upd H a o b=H b:=by unfold upd;rw [if_neg h]
theorem fJ {o u:HO} (h:H a=some o) (h':H b=some u) (d:o≠u):a≠b:=by
 intro e;subst e;rw [h] at h';show d (Zr h')
theorem aP {o:HO} (h:H a=some o) (h':H b=none):a≠b:=by
 intro e;subst e;rw [h] at h';cases h'
section
variable (P:Program) (w:World)
def ObjOk (H:Hp) (h:Heap) (a:Addr):HO->Prop
 | .lst xs=>xs.length<=sizeLine/\ ∃ (its:List Value) (n:Nat),Vals xs its/\h.get? a=some { cls:= .type "list",data:= .seq its.toArray n }
 | .tup xs=>xs.length<=sizeLine/\ ∃its:List Value,Vals xs its/\IsTup h a its.toArray
 | .dK kvs=>kvs.length<=sizeLine/\(a==sysModules)=false/\ ∃vs,KV kvs vs/\h.DictOf (aY P w) a vs
 | .dT kvs=>kvs.length<=sizeLine/\(a==sysModules)=false/\ ∃xs:List (List Key×Addr×Value),
   Paired (λ (p:List Key×V) (q:List Key×Addr×Value)=>p.1=q.1/\H q.2.1=some (.tup (p.1.map kV))/\RelV p.2 q.2.2) kvs xs/\
   ∃o es ep,h.get? a=some o/\o.ExactDict/\o.data= .dict es ep/\es.toList=xs.map (entryOfKey (tupleKind (aY P w)))/\(xs.map (·.1)).Nodup
 | .set S n=>h.SetOf (intKind P w) a S n
 | .ins C dx fs=>H dx=some (.own a)/\fs.length<=1000/\dx≠a/\h.get? a=some (PySem.W.instObj C dx)/\
   ∃mA,h.Ns1 dx mA/\(∀f,RelO (fs.lookup f) (mA f))/\PySem.Within mA (fs.map (·.1))
 | .own _=> ∃o,h.get? a=some o
 | .xd fs=> ∃mA,h.Ns1 a mA/\ ∀f,RelO (fs.lookup f) (mA f)
 | .rng lo hi=> ∃t u v,h.get? a=some { cls:= .type "range",data:= .fields ([.int lo t, .int hi u, .int 1 v].toArray) }
 | .frz o u=>h.get? a=some o/\ObjOk H h a u
 | .tbl ps=>h.get? a=some { cls:= .none,data:= .fields ps }
 | .met f x=>h.get? a=some (PySem.W.methodObj (.ref f) (.ref x))
 | .ext φ=>φ h/\(∃o,h.get? a=some o)/\ ∀h1 h2:Heap,φ h1->(∀o,h1.get? a=some o->h2.get? a=some o)->φ h2
def HOk (H:Hp) (h:Heap):Prop:= ∀a o,H a=some o->ObjOk P w H h a o
end
section
variable {P:Program} {w:World} {H H':Hp} {h h':Heap} {a:Addr} {o:HO}
theorem ObjOk.lt (x:ObjOk P w H h a o):a<h.objs.size:=by
 cases o with
 | lst xs=>let#[_,_,_,_,e]:=x;show Zl e
 | tup xs=>let#[_,_,_,p]:=x;show p.lt
 | dK kvs=>let#[_,_,_,_,o,_,_,e,_]:=x;show Zl e
 | dT kvs=>let#[_,_,_,_,o,_,_,e,_]:=x;show Zl e
 | set S n=>let#[o,_,_,_,e,_]:=x;show Zl e
 | ins C dx fs=>let#[_,_,_,e,_]:=x;show Zl e
 | own y=>let#[_,e]:=x;show Zl e
 | xd fs=>let#[_,#[_,_,_,e,_],_]:=x;show Zl e
 | rng lo hi=>let#[_,_,_,e]:=x;show Zl e
 | frz ob u=>let#[e,_]:=x;show Zl e
 | tbl ps=>show Zl (show h.get? a=some _ from x)
 | met f y=>show Zl (show h.get? a=some _ from x)
 | ext φ=>let#[_,#[_,e],_]:=x;show Zl e
theorem Paired.mapP {d e:Type} {F G:d->e->Prop}: ∀ {l₁:List d} {c:List e},Paired F l₁ c->(∀a b,F a b->G a b)->Paired G l₁ c
 | _,_, .nil,_=> .nil
 | _,_, .cons r t,f=> .cons (f _ _ r) (Paired.mapP t f)
theorem ObjOk.stay (x:ObjOk P w H h a o) (k: ∀b u,(b=a\/H b=some (.own a))->h.get? b=some u->h'.get? b=some u)
  (s: ∀b,H b=some (.own a)->H' b=some (.own a)) (A: ∀b xs,H b=some (.tup xs)->H' b=some (.tup xs)):ObjOk P w H' h' a o:=by
 induction o with
 | lst xs=>let#[z,i,n,r,e]:=x;show#[z,i,n,r,k _ _ (.inl rfl) e]
 | tup xs=>let#[z,i,r,ob,e,c]:=x;show#[z,i,r,ob,k _ _ (.inl rfl) e,c]
 | dK kvs=>let#[z,y,vs,r,ob,g,ep,e,c]:=x;show#[z,y,vs,r,ob,g,ep,k _ _ (.inl rfl) e,c]
 | dT kvs=>
  let#[z,y,xs,r,ob,g,ep,e,c]:=x;show#[z,y,xs,Paired.mapP r λ p q z=>#[z.1,A _ _ z.2.1,z.2.2],ob,g,ep,k _ _ (.inl rfl) e,c]
 | set S n=>let#[ob,g,ep,t,e,c]:=x;show#[ob,g,ep,t,k _ _ (.inl rfl) e,c]
 | ins C dx fs=>
  let#[d,z,B,e,j,#[l,g,ep,m,c],r]:=x;show#[s _ d,z,B,k _ _ (.inl rfl) e,j,#[l,g,ep,k _ _ (.inr d) m,c],r]
 | own y=>let#[ob,e]:=x;show#[ob,k _ _ (.inl rfl) e]
 | xd fs=>let#[j,#[l,g,ep,e,c],r]:=x;show#[j,#[l,g,ep,k _ _ (.inl rfl) e,c],r]
 | rng lo hi=>let#[t,u,v,e]:=x;show#[t,u,v,k _ _ (.inl rfl) e]
 | frz ob u ih=>let#[e,q]:=x;show#[k _ _ (.inl rfl) e,ih q]
 | tbl ps=>
  have e:h.get? a=some { cls:= .none,data:= .fields ps }:=x;change h'.get? a=some { cls:= .none,data:= .fields ps };show k a _ (.inl rfl) e
 | met f y=>
  have e:h.get? a=some (PySem.W.methodObj (.ref f) (.ref y)):=x;change h'.get? a=some (PySem.W.methodObj (.ref f) (.ref y));show k a _ (.inl rfl) e
 | ext φ=>let#[p,#[o,e],st]:=x;show#[st _ _ p λ o q=>k _ _ (.inl rfl) q,#[o,k _ _ (.inl rfl) e],st]
theorem HOk.lt (x:HOk P w H h) (e:H a=some o):a<h.objs.size:=(x a o e).lt
theorem HOk.fresh (x:HOk P w H h) (e:h.objs.size<=a):H a=none:=by
 cases q:H a with
 | none=>rfl
 | some u=>show absurd (Zt (x.lt q) e) (Xp _)
theorem HOk.kept (x:HOk P w H h) (k: ∀b u,h.get? b=some u->h'.get? b=some u):HOk P w H h':=λ a o e=>
 (x a o e).stay (λ b u _ q=>k b u q) (λ _ q=>q) λ _ _ q=>q
theorem HOk.laid (x:HOk P w H h) (k: ∀b u,h.get? b=some u->h'.get? b=some u) (i:h.objs.size<=a) (d:ObjOk P w (upd H a o) h' a o):HOk P w (upd H a o) h':=λ b u e=>by
 have g:=x.fresh i;by_cases f:b=a
 .subst f;rw [aj] at e;cases e;show d
 .rw [aC f] at e;show(x b u e).stay (λ c v _ q=>k c v q) (λ c q=>by rw [aC (aP q g)];show q) λ c xs q=>by rw [aC (aP q g)];show q
end
def Rd (H:Hp) (a:Addr) (u:HO):Prop:=H a=some u\/ ∃o,H a=some (.frz o u)
theorem Rd.ok {P:Program} {h:Heap} {u:HO} (r:Rd H a u) (x:HOk P w H h):ObjOk P w H h a u:=by
 rcases r with r | ⟨o,r⟩
 .exact x a u r
 .obtain ⟨_,q⟩:=x a _ r;show q
def J3:Option HO->Prop
 | some (.lst _)=>True
 | some (.dK _)=>True
 | some (.dT _)=>True
 | some (.set _ _)=>True
 | some (.ins _ _ _)=>True
 | some (.ext _)=>True
 | _=>False
section
variable {P:Program} {w:World} {H:Hp} {h h':Heap} {x e:Addr} {o':HO}
theorem HOk.write (s:HOk P w H h) (j:J3 (H x)) (n:e=x\/H e=some (.own x)) (k: ∀b u,b≠e->h.get? b=some u->h'.get? b=some u) (l: ∃u,h'.get? e=some u)
  (m:ObjOk P w (upd H x o') h' x o'):HOk P w (upd H x o') h':=λ b u q=>by
 have d: ∀c y,H c=some (.own y)->c≠x:=λ c y r z=>by subst z;rw [r] at j;show j
 have f: ∀c xs,H c=some (.tup xs)->c≠x:=λ c xs r z=>by subst z;rw [r] at j;show j
 by_cases g:b=x
 .subst g;rw [aj] at q;cases q;show m
 .rw [aC g] at q;by_cases a:b=e
  .have o:H b=some (.own x):=by
    rcases n with z | z
    .exact absurd (a.trans z) g
    .rw [a];show z
   rw [q] at o;cases o;let#[v,p]:=l;show#[v,by rw [a];show p]
  .refine (s b u q).stay (λ c v i r=>k c v ?_ r) (λ c r=>by rw [aC (d c b r)];show r) λ c xs r=>by rw [aC (f c xs r)];show r
   rcases i with rfl | i
   .exact a
   .rintro rfl;rcases n with z | z
    .exact d c b i z
    .rw [i] at z;cases z;show g rfl
end
structure Un (fs ex:List Addr) (H H':Hp) (h h':Heap):Prop where
 keep: ∀b o,h.get? b=some o->H b=none->b∉fs->b∉ex->h'.get? b=some o
 slot: ∀b o,h.get? b=some o->H b=none->b∈fs->b∉ex-> ∃sl,h'.get? b=some { o with slots:=sl }
 free: ∀b o,h.get? b=some o->H b=none->b∉ex->H' b=none
 there: ∀b o,h.get? b=some o->b∉ex-> ∃o',h'.get? b=some o'
 tups: ∀b xs,H b=some (.tup xs)->H' b=some (.tup xs)
 frzs: ∀b o u,H b=some (.frz o u)->H' b=some (.frz o u)
 tbls: ∀b ps,H b=some (.tbl ps)-> ∃more,H' b=some (.tbl (ps++more))
section
variable {fs fs' ex ex':List Addr} {H H1 H2:Hp} {h h1 h2 h':Heap} {a x e:Addr} {o:HO}
theorem Un.any (u:Un fs ex H H1 h h1) {ob:Obj} (q:h.get? b=some ob) (n:H b=none) (c:b∉ex): ∃d,h1.get? b=some { ob with slots:=d }:=by
 by_cases a:b∈fs
 .exact u.slot b ob q n a c
 .exact #[ob.slots,u.keep b ob q n a c]
theorem Un.trans (a:Un fs ex H H1 h h1) (b:Un fs ex H1 H2 h1 h2):Un fs ex H H2 h h2 where
 keep:=λ c ob q n f d=>b.keep c ob (a.keep c ob q n f d) (a.free c ob q n d) f d
 slot:=λ c ob q n f d=>by
  let#[m,e]:=a.slot c ob q n f d;let#[i,g]:=b.slot c _ e (a.free c ob q n d) f d;show#[i,g]
 free:=λ c ob q n d=>by
  let#[o',e]:=a.there c ob q d;show b.free c o' e (a.free c ob q n d) d
 there:=λ c ob q d=>by
  let#[o',e]:=a.there c ob q d;show b.there c o' e d
 tups:=λ c xs q=>b.tups c xs (a.tups c xs q)
 frzs:=λ c ob xs q=>b.frzs c ob xs (a.frzs c ob xs q)
 tbls:=λ c l q=>by
  let#[j,e]:=a.tbls c l q;let#[k,g]:=b.tbls c _ e;show#[j++k,by rw [g,Ó]]
theorem Un.kept (k: ∀b u,h.get? b=some u->h'.get? b=some u):Un fs ex H H h h':=
 #[λ b ob q _ _ _=>k b ob q,λ b ob q _ _ _=>#[ob.slots,k b ob q],λ _ _ _ n _=>n,λ b ob q _=>#[ob,k b ob q],λ _ _ q=>q,λ _ _ _ q=>q,λ _ a q=>#[([].toArray),by rw [q];simp]]
theorem Un.refl:Un fs ex H H h h:=Un.kept λ _ _ q=>q
theorem Un.laid (k: ∀b u,h.get? b=some u->h'.get? b=some u) (d:h.objs.size<=a) (c:H a=none):Un fs ex H (upd H a o) h h' where
 keep:=λ b u q _ _ _=>k b u q
 slot:=λ b u q _ _ _=>#[u.slots,k b u q]
 free:=λ b u q n _=>by rw [aC (Yn (Zt (Zl q) d))];show n
 there:=λ b u q _=>#[u,k b u q]
 tups:=λ b xs q=>by rw [aC (aP q c)];show q
 frzs:=λ b u xs q=>by rw [aC (aP q c)];show q
 tbls:=λ b e q=>#[([].toArray),by rw [aC (aP q c),q];simp]
theorem Un.write (c:J3 (H x)) (j:e=x\/H e=some (.own x)) (k: ∀b u,b≠e->h.get? b=some u->h'.get? b=some u) (d: ∃u,h'.get? e=some u):Un fs ex H (upd H x o) h h':=by
 have i: ∀b,H b=none->b≠x:=λ b n z=>by subst z;rw [n] at c;show c
 have g: ∀b,H b=none->b≠e:=λ b n z=>by
  subst z;rcases j with r | r
  .exact i b n r
  .rw [n] at r;cases r
 have f: ∀b u,H b=some u-> ¬J3 (some u)->b≠x:=λ b u q nm z=>by subst z;rw [q] at c;show nm c
 refine⟨λ b u q n _ _=>k b u (g b n) q,λ b u q n _ _=>⟨u.slots,k b u (g b n) q⟩,λ b u q n _=>by rw [aC (i b n)];show n,λ b u q _=> ?_,
  λ b xs q=>by rw [aC (f b _ q λ z=>z)];show q,λ b u xs q=>by rw [aC (f b _ q λ z=>z)];show q,λ b l q=>⟨([].toArray),by rw [aC (f b _ q λ z=>z),q];simp⟩⟩
 by_cases a:b=e
 .subst a;show d
 .exact #[u,k b u a q]
theorem Un.mono (u:Un fs ex H H1 h h1) (e: ∀b∈fs,b∈fs') (c: ∀b∈ex,b∈ex'):Un fs' ex' H H1 h h1:=
 #[λ b ob q n d a=>u.keep b ob q n (λ z=>d (e b z)) λ z=>a (c b z),λ _ _ q n _ a=>u.any q n λ z=>a (c _ z),λ b ob q n a=>u.free b ob q n λ z=>a (c b z),λ b ob q a=>u.there b ob q λ z=>a (c b z),u.tups,u.frzs,u.tbls]
end
def M9 (h:Heap) (H:Hp):List Addr:=(List.range h.objs.size).filter λ a=>(H a).isSome
def m9 (h:Heap) (H:Hp):Heap:=PySem.W.hideAll h (M9 h H)
theorem uY (h:Heap) (H:Hp):(m9 h H).objs.size=h.objs.size:=PySem.W.hideAll_size _ _
theorem wy {h:Heap} {o:Obj} (e:h.get? b=some o) (n:H b=none):(m9 h H).get? b=some o:=
 Yz _ e λ a=>by
  have q:(H b).isSome=true:=(Xh.mp a).2;rw [n] at q;simp at q
theorem Bj {h:Heap} {o:Obj} (e:(m9 h H).get? b=some o):h.get? b=some o/\H b=none:=by
 have a:h.get? b=some o:=Ô (M9 h H) e;refine#[a,?_]
 cases q:H b with
 | none=>rfl
 | some x=>
  have c:b∈M9 h H:=Xh.mpr #[List.mem_range.mpr (Zl a),by simp [q]];have z:(m9 h H).get? b=none:=PySem.W.hideAll_none (M9 h H) c;rw [z] at e;cases e
def Bk (g h:Heap) (L:Addr):List (Addr×Obj):=(List.range h.objs.size).filterMap λ a=>if a=L\/(g.get? a).isSome=true then none else (h.get? a).map λ o=>(a,o)
def rest (g h:Heap) (L d:Addr):List (Addr×Obj):=(Bk g h L).filter λ p=>decide (p.1≠d)
structure Mod (K:W.Frag) (mg:Str->Option Value) (base:Heap):Prop where
 kin:K.In base
 glob:base.Ns mainGlobals mg
 blt: ∃mb,base.Ns builtinsNs mb/\ ∀x:Str,x≠"__name__"->mb x=bootBuiltins x
 nolimit:base.NoLimit
structure Cx where
 prog:Program
 w:World
 K:W.Frag
 mg:Str->Option Value
 base:Heap
 A:Around
 N:List Str
 s₀:Shared
 H₀:Hp
 env:Env
 outer:List Env
 stack:List Env
 ex:List Addr
 fn:Str->Bool
 calm:Bool
 pn:List (Addr×Obj)
 xe:Value->Shared->Prop
def frs (l:List Env):List Addr:=l.filterMap (·.frame)
abbrev Cx.fs (X:Cx):List Addr:=frs X.outer
def Mq (sc:Scope) (x:Str):Prop:=sc.names.lookup x=some .local\/sc.names.lookup x=some .cell\/sc.names.lookup x=some .free
def Loc (sc:Scope) (x:Str):Prop:=sc.names.lookup x=some .local\/sc.names.lookup x=some .cell
def Look (env:Env) (h:Heap) (m:Str->Option Value) (x:Str) (u:Value):Prop:=
 (env.kindOf x=some .local/\m x=some u)\/((env.kindOf x=some .cell\/env.kindOf x=some .free)/\ ∃c,env.cells.lookup x=some c/\h.IsCell c (some u))
structure Cx.Ok (X:Cx):Prop where
 mod:Mod X.K X.mg X.base
 kind:X.env.scope.kind= .function
 glob:X.env.globals=mainGlobals
 blt:X.env.builtins=builtinsNs
 above:X.s₀.heap.objs.size<=X.env.locals
 inj: ∀x y c,X.env.cells.lookup x=some c->X.env.cells.lookup y=some c->x=y
 has: ∀x,(X.env.kindOf x=some .cell\/X.env.kindOf x=some .free)-> ∃c,X.env.cells.lookup x=some c
 cab: ∀x c,X.fn x=true->X.env.cells.lookup x=some c->X.s₀.heap.objs.size<=c
 hd:X.calm=true->X.A.handled=none
 frames:X.A.frames=some X.stack
 stk:X.stack=X.outer\/(X.stack=X.env::X.outer/\X.env.frame=some X.env.locals)
 exf: ∀b∈X.ex,b≠X.env.locals/\ ∀x c,X.env.cells.lookup x=some c->c≠b
 bs: ∀b o,X.base.get? b=some o->X.s₀.heap.get? b=some o/\X.H₀ b=none
 bsz:X.base.objs.size<=X.s₀.heap.objs.size
 noex: ∀b o,X.base.get? b=some o->b∉X.ex
 exfs: ∀b∈X.ex,b∉X.fs
 funs:X.s₀.heap.FunFrames X.base X.outer
 frf: ∀b∈X.fs,X.H₀ b=none
structure Inv (X:Cx) (pins:List (Addr×Obj)) (σ:List (Option V)) (H:Hp) (s:Shared):Prop where
 ok:X.Ok
 os:s.os=X.s₀.os
 bare:AllBare s.gens
 base:Un X.fs X.ex X.H₀ H X.s₀.heap s.heap
 loc: ∃m,s.heap.Ns X.env.locals m/\ ∀ (i:Nat) (x:Str) (v:V),X.N[i]? =some x->σ[i]? =some (some v)->Mq X.env.scope x-> ∃u,RelV v u/\Look X.env s.heap m x u
 cell: ∀x c,X.env.cells.lookup x=some c-> ∃v,s.heap.IsCell c v
 free:H X.env.locals=none
 freeC: ∀x c,X.env.cells.lookup x=some c->H c=none
 pin: ∀p∈X.pn++pins,s.heap.get? p.1=some p.2/\H p.1=none/\p.1≠X.env.locals/\p.1∉X.fs/\ ∀v,p.2.data≠ .cell v
 hok:HOk X.prog X.w H s.heap
 len:σ.length=X.N.length
section
variable {X:Cx} {pins:List (Addr×Obj)} {σ:List (Option V)} {H H':Hp} {s:Shared} {h':Heap}
theorem Cx.Ok.nofr (c:X.Ok) {o:Obj} (e:X.base.get? b=some o):b∉X.fs:=λ a=>by
 have:=(c.funs.mem a).1;rw [e] at this;cases this
theorem Inv.bs (I:Inv X pins σ H s): ∀b o,X.base.get? b=some o->s.heap.get? b=some o/\H b=none:=λ b o e=>
 #[I.base.keep b o (I.ok.bs b o e).1 (I.ok.bs b o e).2 (I.ok.nofr e) (I.ok.noex b o e),I.base.free b o (I.ok.bs b o e).1 (I.ok.bs b o e).2 (I.ok.noex b o e)]
theorem Inv.bk (I:Inv X pins σ H s): ∀b o,X.base.get? b=some o->s.heap.get? b=some o:=λ b o e=>(I.bs b o e).1
theorem Inv.mod (I:Inv X pins σ H s):Mod X.K X.mg X.base:=I.ok.mod
theorem Inv.kIn (I:Inv X pins σ H s):X.K.In s.heap:=I.ok.mod.kin.keeps I.bk
theorem Inv.lt (I:Inv X pins σ H s):X.env.locals<s.heap.objs.size:=let ⟨_,hn,_⟩:=I.loc;hn.lt
theorem Inv.sz (I:Inv X pins σ H s):X.s₀.heap.objs.size<=s.heap.objs.size:=Zy I.ok.above (Xu I.lt)
theorem Inv.nofs (I:Inv X pins σ H s) (h:s.heap.objs.size<=a):a∉X.fs:=λ b=>by
 let#[_,o,c,_]:=I.ok.funs.mem b;show absurd (Zt (Zl c) (Zy I.sz h)) (Xp _)
theorem Inv.cne (I:Inv X pins σ H s): ∀x c,X.env.cells.lookup x=some c->c≠X.env.locals:=λ x c e z=>by
 let#[v,o,f,d]:=I.cell x c e;let#[m,#[o',g,ep,b,a,_],_]:=I.loc;rw [z,b] at f;cases f;rw [a] at d;cases d
theorem Inv.funs (I:Inv X pins σ H s):s.heap.FunFrames X.base X.outer:=by
 have all: ∀ (l:List Env),(∀b∈frs l,b∈X.fs)->X.s₀.heap.FunFrames X.base l->s.heap.FunFrames X.base l:=by
  intro l;induction l with
  | nil=>intro _ _;trivial
  | cons env r ih=>
   intro f i;let#[h,#[L,o,d,j,k,g],m]:=i;have a:L∈X.fs:=f L (by unfold frs;rw [Wl,d];show Zp);let#[n,e]:=I.base.slot L o k (I.ok.frf L a) a λ z=>I.ok.exfs L z a
   show#[h,#[L,_,d,j,e,g],ih (λ b c=>f b (by unfold frs;rw [Wl,d];show Zu _ c)) m]
 show all X.outer (λ _ c=>c) I.ok.funs
theorem Inv.stack (I:Inv X pins σ H s):s.heap.FunFrames X.base X.stack:=by
 rcases I.ok.stk with e | ⟨e,hf⟩
 .rw [e];show I.funs
 .rw [e];let#[m,a,_]:=I.loc;refine .cons (by rw [I.ok.kind];decide) hf a ?_ I.funs;show Heap.get?_none_of_le (Zy I.ok.bsz I.ok.above)
theorem Inv.stkSub (I:Inv X pins σ H s): ∀b∈frs X.stack,b∈X.env.locals::X.fs:=λ b a=>by
 rcases I.ok.stk with e | ⟨e,hf⟩
 .rw [e] at a;show Zu _ a
 .rw [e] at a;unfold frs at a;rw [Wl,hf] at a;show a
theorem Inv.stkFree (I:Inv X pins σ H s): ∀b∈frs X.stack,H b=none:=λ b a=>by
 rcases Zx.mp (I.stkSub b a) with e | a
 .rw [e];show I.free
 .obtain ⟨_,o,c,_⟩:=I.ok.funs.mem a;show I.base.free b o c (I.ok.frf b a) λ z=>I.ok.exfs b z a
theorem Inv.step (I:Inv X pins σ H s)
  (h: ∀b∈ch,(b∈X.ex\/X.s₀.heap.objs.size<=b)/\b≠X.env.locals/\(∀x c,X.env.cells.lookup x=some c->c≠b)/\ ∀p∈X.pn++pins,p.1≠b)
  (j: ∀b o,b≠X.env.locals->b∉X.fs->b∉ch->s.heap.get? b=some o->H b=none->h'.get? b=some o)
  (B: ∀b o,b≠X.env.locals->b∈X.fs->b∉ch->s.heap.get? b=some o->H b=none-> ∃O,h'.get? b=some { o with slots:=O }) (f: ∀b o,b∉ch->s.heap.get? b=some o->H b=none->H' b=none)
  (D: ∀b o,b∉ch->s.heap.get? b=some o-> ∃o',h'.get? b=some o')
  (L: ∀b xs,H b=some (.tup xs)->H' b=some (.tup xs)) (G: ∀b o u,H b=some (.frz o u)->H' b=some (.frz o u)) (K: ∀b ps,H b=some (.tbl ps)-> ∃more,H' b=some (.tbl (ps++more)))
  (ns: ∀m,s.heap.Ns X.env.locals m->h'.Ns X.env.locals m) (N:HOk X.prog X.w H' h') (W:AllBare g'):
  Inv X pins σ H' { s with heap:=h',gens:=g',drawn:=d',toks:=t' }:=by
 have J: ∀b o,X.s₀.heap.get? b=some o->b≠X.env.locals:=λ b o e=>Yn (Zt (Zl e) I.ok.above)
 have A: ∀b o,X.s₀.heap.get? b=some o->b∉X.ex->b∉ch:=λ b o e a C=>by
  rcases (h b C).1 with z | z
  .exact a z
  .exact absurd (Zt (Zl e) z) (Xp _)
 have g: ∀x c,X.env.cells.lookup x=some c-> ∀v,s.heap.IsCell c v->h'.IsCell c v:=λ x c e v ⟨o,E,M⟩=>by
  have t:c∉ch:=λ z=>(h c z).2.2.1 x c e rfl
  by_cases Q:c∈X.fs
  .obtain ⟨O,q⟩:=B c o (I.cne x c e) Q t E (I.freeC x c e);show#[_,q,M]
  .exact #[o,j c o (I.cne x c e) Q t E (I.freeC x c e),M]
 refine#[I.ok,I.os,W,#[λ b o e n C a=> ?_,λ b o e n C a=> ?_,λ b o e n a=> ?_,λ b o e a=> ?_,λ b xs e=>L b xs (I.base.tups b xs e),λ b o xs e=>G b o xs (I.base.frzs b o xs e),λ b ps e=> ?_],?_,λ x c e=> ?_,?_,λ x c e=> ?_,λ p R=> ?_,N,I.len]
 .exact j b o (J b o e) C (A b o e a) (I.base.keep b o e n C a) (I.base.free b o e n a)
 .obtain ⟨O,y⟩:=I.base.slot b o e n C a;let#[P,F]:=B b _ (J b o e) C (A b o e a) y (I.base.free b o e n a);show#[P,F]
 .obtain ⟨o',y⟩:=I.base.there b o e a;show f b o' (A b o e a) y (I.base.free b o e n a)
 .obtain ⟨o',y⟩:=I.base.there b o e a;show D b o' (A b o e a) y
 .obtain ⟨m1,y⟩:=I.base.tbls b ps e;let#[m2,F]:=K b _ y;show#[m1++m2,by rw [F,Ó]]
 .obtain ⟨m,Z,Y⟩:=I.loc;refine#[m,ns m Z,λ i x v y F U=> ?_];let#[u,r,l]:=Y i x v y F U;refine#[u,r,?_];rcases l with l | ⟨k,c,e,z⟩
  .exact .inl l
  .exact .inr #[k,c,e,g x c e _ z]
 .obtain ⟨v,z⟩:=I.cell x c e;show#[v,g x c e v z]
 .obtain ⟨m,⟨o,_,_,E,_⟩,_⟩:=I.loc;show f _ o (λ z=>(h _ z).2.1 rfl) E I.free
 .obtain ⟨v,o,E,M⟩:=I.cell x c e;show f c o (λ z=>(h c z).2.2.1 x c e rfl) E (I.freeC x c e)
 .obtain ⟨e,n,S,T,d⟩:=I.pin p R;have t:p.1∉ch:=λ z=>(h p.1 z).2.2.2 p R rfl
  show#[j p.1 p.2 S T t e n,f p.1 p.2 t e n,S,T,d]
theorem Inv.un (I:Inv X pins σ H s) (u:Un X.fs [] H H' s.heap h') (g:HOk X.prog X.w H' h'):Inv X pins σ H' { s with heap:=h',toks:=t' }:=by
 let#[m,#[o,l,ep,h,r],_]:=id I.loc;let#[q,i]:=u.any h I.free (by simp);show I.step (g':=s.gens) (d':=s.drawn) (ch:=[]) (λ _ z=>nomatch z) (λ b o _ f _ e n=>u.keep b o e n f (by simp)) (λ b o _ f _ e n=>u.slot b o e n f (by simp)) (λ b o _ e n=>u.free b o e n (by simp)) (λ b o _ e=>u.there b o e (by simp)) u.tups u.frzs u.tbls (λ p j=>by
  let#[o',d,c,a,k]:=j;rw [h] at a;cases a;show#[_,d,c,i,k]) g I.bare
theorem Inv.call (I:Inv X pins σ H s) (u:Un (frs X.stack) ch H H' s.heap h') (j:HOk X.prog X.w H' h') (q:AllBare g')
  (d: ∀b∈ch,(b∈X.ex\/X.s₀.heap.objs.size<=b)/\b≠X.env.locals/\(∀x c,X.env.cells.lookup x=some c->c≠b)/\ ∀p∈X.pn++pins,p.1≠b):
  Inv X pins σ H' { s with heap:=h',gens:=g',drawn:=d',toks:=t' }:=by
 let#[m,#[o,y,ep,k,r],_]:=id I.loc;let#[B,i]:=u.any k I.free λ z=>(d _ z).2.1 rfl
 show I.step (ch:=ch) d (λ b o i l a e n=>u.keep b o e n (λ z=>(Zx.mp (I.stkSub b z)).elim i l) a) (λ b o _ _ a e n=>u.any e n a) (λ b o a e n=>u.free b o e n a) (λ b o a e=>u.there b o e a) u.tups u.frzs u.tbls (λ A t=>by
  let#[o',h,g,f,v]:=t;rw [k] at f;cases f;show#[_,h,g,i,v]) j q
theorem Inv.turned (I:Inv X pins σ H s) (k: ∀b o,b≠it->s.heap.get? b=some o->h'.get? b=some o) (w:H it=none) (f:it≠X.env.locals)
  (h:it∈X.ex\/X.s₀.heap.objs.size<=it) (i: ∀x c,X.env.cells.lookup x=some c->c≠it) (j: ∀p∈X.pn++pins,p.1≠it):Inv X pins σ H { s with heap:=h',toks:=t' }:=by
 have d: ∀b u,H b=some u->b≠it:=λ b u e z=>by rw [z,w] at e;cases e
 refine I.step (g':=s.gens) (d':=s.drawn) (ch:=[it]) (λ b l=> ?_) (λ b o _ _ a e _=>k b o (λ z=>a (by simp [z])) e) (λ b o _ _ a e _=>#[o.slots,k b o (λ z=>a (by simp [z])) e]) (λ _ _ _ _ n=>n)
  (λ b o a e=>#[o,k b o (λ z=>a (by simp [z])) e]) (λ _ _ e=>e) (λ _ _ _ e=>e) (λ b A e=>#[([].toArray),by rw [e];simp]) (λ m t=> ?_) (λ b u e=> ?_) I.bare
 .have e:b=it:=by simpa using l
  subst e;show#[h,f,i,j]
 .obtain ⟨o,g,ep,y,r⟩:=t;show#[o,g,ep,k _ o (Ne.symm f) y,r]
 .refine (I.hok b u e).stay (λ c v a q=>k c v ?_ q) (λ _ q=>q) λ _ _ q=>q
  rcases a with z | z
  .rw [z];show d b u e
  .exact d c _ z
theorem Inv.tok (I:Inv X pins σ H s) (t:Nat):Inv X pins σ H { s with toks:=t }:=I.un (h':=s.heap) (t':=t) Un.refl I.hok
theorem Inv.kept (I:Inv X pins σ H s) (k: ∀b u,s.heap.get? b=some u->h'.get? b=some u):Inv X pins σ H { s with heap:=h',toks:=t' }:=I.un (Un.kept k) (I.hok.kept k)
theorem Inv.laid {o:HO} (I:Inv X pins σ H s) (k: ∀b u,s.heap.get? b=some u->h'.get? b=some u) (c:s.heap.objs.size<=a) (d:ObjOk X.prog X.w (upd H a o) h' a o):
  Inv X pins σ (upd H a o) { s with heap:=h',toks:=t' }:=I.un (Un.laid k c (I.hok.fresh c)) (I.hok.laid k c d)
theorem Inv.write {x e:Addr} {o:HO} (I:Inv X pins σ H s) (f:J3 (H x)) (d:e=x\/H e=some (.own x)) (k: ∀b u,b≠e->s.heap.get? b=some u->h'.get? b=some u) (a: ∃u,h'.get? e=some u)
  (c:ObjOk X.prog X.w (upd H x o) h' x o):Inv X pins σ (upd H x o) { s with heap:=h',toks:=t' }:=I.un (Un.write f d k a) (I.hok.write f d k a c)
theorem Inv.weak (I:Inv X pins σ H s) (d:σ'.length=σ.length) (w: ∀ (i:Nat) v,σ'[i]? =some (some v)->σ[i]? =some (some v)):Inv X pins σ' H s:=
 #[I.ok,I.os,I.bare,I.base,let ⟨m,hn,hl'⟩:=I.loc;#[m,hn,λ i x v a b c=>hl' i x v a (w i v b) c],I.cell,I.free,I.freeC,I.pin,I.hok,d.trans I.len]
theorem Inv.pins_of (I:Inv X pins σ H s) (h: ∀p∈pins',s.heap.get? p.1=some p.2/\H p.1=none/\p.1≠X.env.locals/\p.1∉X.fs/\ ∀v,p.2.data≠ .cell v):Inv X pins' σ H s:=
 #[I.ok,I.os,I.bare,I.base,I.loc,I.cell,I.free,I.freeC,λ p a=>(Zh.mp a).elim (λ z=>I.pin p (Yw _ z)) (h p),I.hok,I.len]
theorem jJ {N:List Str} (e:N.Nodup) (a:N[i]? =some x) (b:N[j]? =some x):i=j:=by
 let#[f,c]:=Zv.mp a;let#[g,d]:=Zv.mp b;show(È e).mp (c.trans d.symm)
theorem lG {Q:Unit->Shared->Prop} (I:Inv X pins σ H s) (hN:X.N.Nodup) (R:X.N[i]? =some x) (B:Loc X.env.scope x) (r:RelV v u)
  (h: ∀s',Inv X pins (σ.set i (some v)) H s'->(∃a,Heap.SameBut a s.heap s'.heap/\(a=X.env.locals\/X.env.cells.lookup x=some a))->Q Unit.unit s') (hf:X.fn x=true\/X.env.scope.names.lookup x=some .local:=by first | show .inl rfl | show .inr rfl | assumption):wpAny M A (storeName X.env x u) Q E s:=by
 let#[m,hn,hl]:=id I.loc;have P:(X.env.scope.kind== .class||(X.env.scope.kind== .module&&X.env.locals !=X.env.globals))=false:=by rw [I.ok.kind];rfl
 have F:i<σ.length:=by rw [I.len];show(Zv.mp R).1
 have cne:=I.cne;have l: ∀ {a:Addr} {h':Heap},(∃o,s.heap.get? a=some o/\H a=none)->Heap.SameBut a s.heap h'->HOk X.prog X.w H h':=λ {a h'} ha f b ob e=>by
  let#[_,_,C]:=ha;refine(I.hok b ob e).stay (λ c Y t q=>(f.2 c ?_).trans q) (λ _ q=>q) λ _ _ q=>q
  rintro rfl;rcases t with rfl | t
  .rw [C] at e;cases e
  .rw [C] at t;cases t
 rcases B with hk | hk
 .refine wpAny_storeName_local hk hn (λ h' ac f=> ?_) P;let#[oL,_,_,ad,_]:=id hn;refine h _ #[I.ok,I.os,I.bare,#[λ b o e n G B=> ?_,λ b o e n G B=> ?_,I.base.free,λ b o e B=> ?_,I.base.tups,I.base.frzs,I.base.tbls],#[_,ac,λ j y v' g D Z=> ?_],λ y c e=> ?_,I.free,I.freeC,λ p hp=> ?_,l #[oL,ad,I.free] f,by simpa using I.len] #[_,f, .inl rfl]
  .exact (f.2 b (Yn (Zt (Zl e) I.ok.above))).trans (I.base.keep b o e n G B)
  .obtain ⟨sl,g⟩:=I.base.slot b o e n G B;show#[sl,(f.2 b (Yn (Zt (Zl e) I.ok.above))).trans g]
  .obtain ⟨o',g⟩:=I.base.there b o e B;show#[o',(f.2 b (Yn (Zt (Zl e) I.ok.above))).trans g]
  .by_cases K:j=i
   .subst K;rw [R] at g;cases g;rw [Xw F] at D
    cases D;show#[u,r, .inl #[hk,by simp]]
   .rw [Ã (Ne.symm K)] at D;let#[u',r',q]:=hl j y v' g D Z;refine#[u',r',?_];rcases q with ⟨k,e⟩ | ⟨k,c,e,z⟩
    .refine .inl #[k,?_];have:y≠x:=λ e=>K (jJ hN g (e▸R))
     simp [this,e]
    .exact .inr #[k,c,e,z.sameBut f (cne y c e)]
  .obtain ⟨Y,z⟩:=I.cell y c e;show#[Y,z.sameBut f (cne y c e)]
  .obtain ⟨e,n,W,nf,d⟩:=I.pin p hp;show#[(f.2 p.1 W).trans e,n,W,nf,d]
 .have J:X.fn x=true:=by
   rcases hf with z | z
   .exact z
   .rw [z] at hk;cases hk
  let#[c,t]:=I.ok.has x (.inl hk);let#[Y,z]:=I.cell x c t;refine wpAny_storeName_cell I.ok.kind hk t z (λ h' L f=> ?_);let#[oc,S,T]:=id z;refine h { s with heap:=h' } ⟨I.ok,I.os,I.bare,⟨λ b o e n G B=> ?_,λ b o e n G B=> ?_,I.base.free,λ b o e B=> ?_,I.base.tups,I.base.frzs,I.base.tbls⟩,⟨m,hn.sameBut f (Ne.symm (cne x c t)),λ j y v' g D Z=> ?_⟩,λ y U e=> ?_,I.free,I.freeC,λ p hp=> ?_,l ⟨oc,S,I.freeC x c t⟩ f,by simpa using I.len⟩ ⟨c,f, .inr t⟩
  .exact (f.2 b (Yn (Zt (Zl e) (I.ok.cab x c J t)))).trans (I.base.keep b o e n G B)
  .obtain ⟨sl,g⟩:=I.base.slot b o e n G B;show#[sl,(f.2 b (Yn (Zt (Zl e) (I.ok.cab x c J t)))).trans g]
  .obtain ⟨o',g⟩:=I.base.there b o e B;show#[o',(f.2 b (Yn (Zt (Zl e) (I.ok.cab x c J t)))).trans g]
  .by_cases K:j=i
   .subst K;rw [R] at g;cases g;rw [Xw F] at D
    cases D;show#[u,r, .inr #[.inl hk,c,t,L]]
   .rw [Ã (Ne.symm K)] at D;let#[u',r',q]:=hl j y v' g D Z;refine#[u',r',?_];rcases q with q | ⟨k,U,e,z'⟩
    .exact .inl q
    .refine .inr #[k,U,e,z'.sameBut f ?_];rintro rfl;show K (jJ hN g (I.ok.inj _ _ _ e t▸R))
  .by_cases O:U=c
   .subst O;show#[_,L]
   .obtain ⟨w2,z2⟩:=I.cell y U e;show#[w2,z2.sameBut f O]
  .obtain ⟨e,n,W,nf,d⟩:=I.pin p hp;refine#[(f.2 p.1 ?_).trans e,n,W,nf,d];intro q;rw [q,S] at e;have q':oc=p.2:=Zr e;show d Y (by rw [<- q'];show T)
theorem fQ {Q:Unit->Shared->Prop} (I:Inv X pins σ H s) (b:X.N.Nodup) (d:X.N[i]? =some x) (e:Loc X.env.scope x) (r:RelV v u)
  (h: ∀s',Inv X pins (σ.set i (some v)) H s'->Q Unit.unit s') (c:X.fn x=true\/X.env.scope.names.lookup x=some .local:=by first | show .inl rfl | show .inr rfl | assumption):wpAny M A (storeName X.env x u) Q E s:=
 lG I b d e r (λ s' a _=>h s' a) c
theorem Inv.call' (I:Inv X pins σ H s) (g:s'.os=s.os) (u:Un (frs X.stack) ch H H' s.heap s'.heap) (d:HOk X.prog X.w H' s'.heap) (f:AllBare s'.gens)
  (a: ∀b∈ch,(b∈X.ex\/X.s₀.heap.objs.size<=b)/\b≠X.env.locals/\(∀x c,X.env.cells.lookup x=some c->c≠b)/\ ∀p∈X.pn++pins,p.1≠b):Inv X pins σ H' s':=by
 let#[h',g',d',t',o']:=s';have e:o'=s.os:=g;subst e;show I.call (g':=g') (t':=t') (d':=d') u d f a
end
abbrev XK:=Value->Option Addr->Hp->Prop
abbrev St:=List (Option V)
variable {σ:St}
abbrev VK:=V->Hp->Prop
abbrev TE:=St->Hp->VK->Prop
variable {t te tl:TE}
abbrev TT:=St->Hp->(Bool->Hp->Prop)->Prop
abbrev TA:=St->Hp->(List V->Hp->Prop)->Prop
structure Ends where
 nx:St->Hp->Prop
 rt:VK
 bk:St->Hp->Prop:=λ _ _=>False
 ct:St->Hp->Prop:=λ _ _=>False
variable {D:Ends}
abbrev TS:=Ends->St->Hp->Prop
variable {tb:TS}
def EP (X:Cx) (pins:List (Addr×Obj)) (σ:St) (Q:VK) (u:Value) (s':Shared):Prop:= ∃v H',Inv X pins σ H' s'/\RelV v u/\Q v H'
def TP (X:Cx) (pins:List (Addr×Obj)) (σ:St) (Q:Bool->Hp->Prop) (b:Bool) (s':Shared):Prop:= ∃H',Inv X pins σ H' s'/\Q b H'
def AP (X:Cx) (pins:List (Addr×Obj)) (σ:St) (Q:List V->Hp->Prop) (us:List Value) (s':Shared):Prop:= ∃vs H',Inv X pins σ H' s'/\Vals vs us/\Q vs H'
def SP (X:Cx) (pins:List (Addr×Obj)) (D:Ends) (f:Flow) (s':Shared):Prop:=
 match f with
 | .next=> ∃σ' H',Inv X pins σ' H' s'/\D.nx σ' H'
 | .brk=> ∃σ' H',Inv X pins σ' H' s'/\D.bk σ' H'
 | .cont=> ∃σ' H',Inv X pins σ' H' s'/\D.ct σ' H'
 | .ret u=> ∃v σ' H',Inv X pins σ' H' s'/\RelV v u/\D.rt v H'
def PE (X:Cx) (e:Expr) (t:TE):Prop:=
 ∀ (pins:List (Addr×Obj)) (s:Shared) (σ:St) (H:Hp) (Q:VK),Inv X pins σ H s->t σ H Q->wpAny (model X.prog X.w) X.A (eval e X.env) (EP X pins σ Q) X.xe s
def PT (X:Cx) (e:Expr) (t:TT):Prop:=
 ∀ (pins:List (Addr×Obj)) (s:Shared) (σ:St) (H:Hp) (Q:Bool->Hp->Prop),Inv X pins σ H s->t σ H Q->wpAny (model X.prog X.w) X.A (isTrue e X.env (eval e X.env)) (TP X pins σ Q) X.xe s
def PW (X:Cx) (e:Expr) (t:TT):Prop:=
 ∀ (whole:Sem Value) (pins:List (Addr×Obj)) (s:Shared) (σ:St) (H:Hp) (Q:Bool->Hp->Prop),Inv X pins σ H s->t σ H Q->wpAny (model X.prog X.w) X.A (isTrue e X.env whole) (TP X pins σ Q) X.xe s
theorem PW.pt {X:Cx} {t:TT} (h:PW X e t):PT X e t:=h _
def PA (X:Cx) (es:List Expr) (t:TA):Prop:=
 ∀ (pos:Pos) (pins:List (Addr×Obj)) (s:Shared) (σ:St) (H:Hp) (Q:List V->Hp->Prop),Inv X pins σ H s->t σ H Q->wpAny (model X.prog X.w) X.A (spliced (backTo pos (starEach es X.env))) (AP X pins σ Q) X.xe s
def PS (X:Cx) (st:Stmt) (t:TS):Prop:=
 ∀ (pins:List (Addr×Obj)) (s:Shared) (σ:St) (H:Hp) (D:Ends),Inv X pins σ H s->t D σ H->wpAny (model X.prog X.w) X.A (exec st X.env) (SP X pins D) X.xe s
def PSs (X:Cx) (st:List Stmt) (t:TS):Prop:=
 ∀ (pins:List (Addr×Obj)) (s:Shared) (σ:St) (H:Hp) (D:Ends),Inv X pins σ H s->t D σ H->wpAny (model X.prog X.w) X.A (execs st X.env) (SP X pins D) X.xe s
theorem bA {c:Type} {t:Sem c} {Q b:c->Shared->Prop} {s:Shared} (h:wpAny M A t Q E s) (d: ∀a s,Q a s->b a s):wpAny M A t b E s:=Yd h d λ _ _ x=>x
section
variable {X:Cx}
def ak (i:Nat):TE:=λ σ H Q=> ∃v,σ[i]? =some (some v)/\Q v H
def tC (v:V):TE:=λ _ H Q=>Q v H
theorem Ep (f:X.N[i]? =some x) (k:Mq X.env.scope x) (d:(x==("__debug__":Str))=false:=by decide) (b:(x==("__classdict__":Str))=false:=by decide):PE X (.Name x pos) (ak i):=by
 intro a s n H Q I h;let#[v,e,h]:=h;let#[m,j,g]:=I.loc;let#[u,r,l]:=g i x v f e k;have fin:EP X a n Q u s:=#[v,H,I,r,h];rcases l with ⟨hk,hm⟩ | ⟨hk,c,hc,hcell⟩
 .exact wpAny_Name (wpAny_loadName_local I.ok.kind hk j hm fin) d
 .rcases hk with hk | hk
  .exact wpAny_Name (wpAny_loadName_cell I.ok.kind hk hc hcell fin) d
  .exact wpAny_Name (wpAny_loadName_free I.ok.kind hk hc hcell fin b) d
theorem ao {i j pos}:PE X (.Constant (.int i) j pos) (tC (.int i)):=λ _ _ _ H _ I h=>wpAny_Constant_int #[.int i,H,I.tok _,#[_,rfl],h]
theorem fK {b j pos}:PE X (.Constant (.bool b) j pos) (tC (.bl b)):=λ _ _ _ H _ I h=>Constant_bool #[.bl b,H,I,rfl,h]
theorem fU {j pos}:PE X (.Constant .none j pos) (tC .non):=λ _ _ _ H _ I h=>Constant_none #[.non,H,I,rfl,h]
theorem bj {x j pos}:PE X (.Constant (.str x) j pos) (tC (.str x)):=λ _ _ _ H _ I h=>Calls.Constant_str #[.str x,H,I.tok _,#[_,rfl],h]
def Gl (X:Cx) (x:Str):Prop:=X.env.kindOf x=some .globalImplicit
theorem dI {s:Shared} (I:Inv X pins σ H s) (b:Gl X x) (c:X.mg x=some u) (h:Q u s)
  (a:(x==("__debug__":Str))=false:=by decide):wpAny (model X.prog X.w) X.A (eval (.Name x pos) X.env) Q E s:=
 Calls.Name_function_global I.ok.kind b (Calls.loadGlobal_global (by rw [I.ok.glob];show I.mod.glob.keeps I.bk) c h) a
theorem jK {s:Shared} (I:Inv X pins σ H s) (d:Gl X x) (e:X.mg x=none) (g:bootBuiltins x=some u) (h:Q u s)
  (f:x≠"__name__":=by decide) (c:(x==("__debug__":Str))=false:=by decide):wpAny (model X.prog X.w) X.A (eval (.Name x pos) X.env) Q E s:=by
 let#[i,a,b]:=I.mod.blt;show Calls.Name_function_global I.ok.kind d (Calls.loadGlobal_builtin (by rw [I.ok.glob];show I.mod.glob.keeps I.bk) e (by rw [I.ok.blt];show a.keeps I.bk) ((b x f).trans g) h) c
theorem bR (b:Gl X x) (c:X.mg x=some u) (r:RelV v u) (a:(x==("__debug__":Str))=false:=by decide):PE X (.Name x pos) (tC v):=
 λ _ _ _ H _ I h=>dI I b c #[v,H,I,r,h] a
theorem f9 (b:Gl X x) (c:X.mg x=none) (e:bootBuiltins x=some u) (r:RelV v u) (d:x≠"__name__":=by decide) (a:(x==("__debug__":Str))=false:=by decide):PE X (.Name x pos) (tC v):=
 λ _ _ _ H _ I h=>jK I b c e #[v,H,I,r,h] d a
variable {a b:Expr} {ta tb:TE} {pos:Pos}
def PC (X:Cx) (op:CmpOp) (a b:Expr) (t:TE):Prop:=
 ∀ (pins:List (Addr×Obj)) (s:Shared) (σ:St) (H:Hp) (Q:VK),Inv X pins σ H s->t σ H Q->
  wpAny (model X.prog X.w) X.A (eval a X.env) (λ v s₁=>wpAny (model X.prog X.w) X.A (eval b X.env) (λ u s₂=>wpAny (model X.prog X.w) X.A (compareOp op v u) (EP X pins σ Q) X.xe s₂) X.xe s₁) X.xe s
def tB (t:TE):TT:=λ σ H Q=>t σ H λ x H1=> ∃c,x= .bl c/\Q c H1
theorem gW (h:PC X op a b t) (f:behindInMarks op b=false:=by first | show nobehind _ (by decide) (by decide) | rfl):PT X (.Compare a [op] [b] pos) (tB t):=by
 intro e s m H Q I j;refine wpAny_isTrue_Compare1 (bA (h e s m H _ I j) λ v n f=>bA f λ u o i=>bA i λ c p ⟨x,H1,g,l,k⟩=> ?_) f;let#[d,rfl,q]:=k
 cases l;show Xq #[H1,g,q]
variable {tA tB':TT} {rest:List Expr}
def wz (t u:TT):TT:=λ σ H Q=>t σ H λ c H1=>if c=true then u σ H1 Q else Q false H1
def J4 (t u:TT):TT:=λ σ H Q=>t σ H λ c H1=>if c=true then Q true H1 else u σ H1 Q
def iy (t:TT):TT:=λ σ H Q=>t σ H λ c H1=>Q (!c) H1
theorem mj (d:PT X a tA):PW X (.BoolOp .And [a] pos) tA:=by
 intro i b s f H Q I h;refine isTrue_and (bA (d b s f H Q I h) λ c g e=> ?_)
 cases c with
 | true=>show isTrue_and_nil e
 | false=>show e
theorem qG (d:PT X a tA):PW X (.BoolOp .Or [a] pos) tA:=by
 intro i b s f H Q I h;refine isTrue_or (bA (d b s f H Q I h) λ c g e=> ?_)
 cases c with
 | false=>show isTrue_or_nil e
 | true=>show e
theorem qH (i:PT X a tA) (j:PW X (.BoolOp .And (b::rest) pos) tB'):PW X (.BoolOp .And (a::b::rest) pos) (wz tA tB'):=by
 intro l d s g H Q I h;refine isTrue_and (bA (i d s g H _ I h) λ c k ⟨H1,e,f⟩=> ?_)
 cases c with
 | true=>show j l d k g H1 Q e f
 | false=>show#[H1,e,f]
theorem wA (i:PT X a tA) (j:PW X (.BoolOp .Or (b::rest) pos) tB'):PW X (.BoolOp .Or (a::b::rest) pos) (J4 tA tB'):=by
 intro l d s g H Q I h;refine isTrue_or (bA (i d s g H _ I h) λ c k ⟨H1,e,f⟩=> ?_)
 cases c with
 | true=>show#[H1,e,f]
 | false=>show j l d k g H1 Q e f
theorem d9 (d:PT X a tA):PT X (.UnaryOp .Not a pos) (iy tA):=by
 intro b s e H Q I h;show isTrue_not (d b s e H (λ c H1=>Q (!c) H1) I h)
def lH (ta tb:TE):TE:=λ σ H Q=>ta σ H λ x H1=> ∃c,x= .bl c/\if c=true then tb σ H1 Q else Q (.bl false) H1
def Q0 (ta tb:TE):TE:=λ σ H Q=>ta σ H λ x H1=> ∃c,x= .bl c/\if c=true then Q (.bl true) H1 else tb σ H1 Q
def u5 (ta:TE):TE:=λ σ H Q=>ta σ H λ x H1=> ∃c,x= .bl c/\Q (.bl (!c)) H1
theorem mC {op} (h:PE X a t):PE X (.BoolOp op [a] pos) t:=λ b s d H Q I c=>BoolOp_one (h b s d H Q I c)
theorem mD (i:PE X a ta) (j:PE X (.BoolOp .And (b::rest) pos) tb):PE X (.BoolOp .And (a::b::rest) pos) (lH ta tb):=by
 intro d s g H Q I h;refine BoolOp_and (bA (i d s g H _ I h) λ v l ⟨x,H1,f,k,e⟩=> ?_);let#[c,rfl,e]:=e
 cases k;refine Xq ?_
 cases c with
 | true=>show j d l g H1 Q f e
 | false=>show#[.bl false,H1,f,rfl,e]
theorem wB (f:PE X a ta):PE X (.UnaryOp .Not a pos) (u5 ta):=by
 intro b s i H Q I h;refine UnaryOp_ (bA (f b s i H _ I h) λ v j ⟨x,H1,e,g,d⟩=> ?_);let#[c,rfl,d]:=d
 cases g;show not_of (Xq #[.bl (!c),H1,e,rfl,d])
def Qq (t:TT) (ta tb:TE):TE:=λ σ H Q=>t σ H λ c H1=>if c=true then ta σ H1 Q else tb σ H1 Q
end
def SqL (K:W.Frag) (H:Hp) (a:Addr) (xs:List V):Prop:=
 Rd H a (.lst xs)\/
  ∃ (o:Obj) (its:Array Value) (n:Nat),K.lookup a=some o/\o.cls= .type "list"/\o.dict=none/\o.data= .seq its n/\its.size<=sizeLine/\Vals xs its.toList
def SqT (K:W.Frag) (H:Hp) (a:Addr) (xs:List V):Prop:=
 Rd H a (.tup xs)\/
  ∃ (o:Obj) (its:Array Value) (n:Nat),K.lookup a=some o/\o.cls= .type "tuple"/\o.data= .seq its n/\its.size<=sizeLine/\Vals xs its.toList
def Mr:Value->Option V
 | .none=>some .non
 | .bool b=>some (.bl b)
 | .int i _=>some (.int i)
 | .str x _=>some (.str x)
 | .bytes b _=>some (.byt b)
 | .float b _=>some (.flt b)
 | .ref a=>some (.ref a)
 | .type n=>some (.ty n)
 | _=>none
theorem RelV.abs {x:V} (r:RelV x u):Mr u=some x:=by
 cases x with
 | non=>cases r;rfl
 | bl _=>cases r;rfl
 | int _=>let#[t,rfl]:=r;rfl
 | str _=>let#[t,rfl]:=r;rfl
 | byt _=>let#[t,rfl]:=r;rfl
 | flt _=>let#[t,rfl]:=r;rfl
 | ref _=>cases r;rfl
 | ty _=>cases r;rfl
theorem RelV.inj {x:V} (r:RelV x u) (q:RelV y u):x=y:=Zr (r.abs.symm.trans q.abs)
theorem Vals.inj: ∀ {xs ys:List V} {us:List Value},Vals xs us->Vals ys us->xs=ys
 | _,_,_, .nil, .nil=>rfl
 | _,_,_, .cons r t, .cons r' t'=>by rw [r.inj r',Vals.inj t t']
section
variable {X:Cx} {pins:List (Addr×Obj)} {σ:St} {H:Hp} {s:Shared} {a:Addr} {xs ys:List V}
theorem SqL.of {K:W.Frag} (h:H a=some (.lst xs)):SqL K H a xs:= .inl (.inl h)
theorem SqT.of {K:W.Frag} (h:H a=some (.tup xs)):SqT K H a xs:= .inl (.inl h)
theorem Inv.list (I:Inv X pins σ H s) (h:SqL X.K H a xs): ∃its:List Value,Vals xs its/\PlainL s.heap a its.toArray/\xs.length<=sizeLine:=by
 rcases h with h | ⟨o,its,n,hk,hc,hd,hs,hz,r⟩
 .obtain ⟨z,its,n,r,e⟩:=h.ok I.hok;show#[its,r,#[_,n,e,rfl,rfl,rfl],z]
 .refine #[its.toList,r,#[o,n,I.kIn a o hk,hc,hd,by simpa using hs],?_];have e:=r.length;simp only [Xa] at e;rfl'
theorem Inv.tuple (I:Inv X pins σ H s) (h:SqT X.K H a xs): ∃its:List Value,Vals xs its/\IsTup s.heap a its.toArray/\xs.length<=sizeLine:=by
 rcases h with h | ⟨o,its,n,hk,hc,hs,hz,r⟩
 .obtain ⟨z,its,r,p⟩:=h.ok I.hok;show#[its,r,p,z]
 .refine #[its.toList,r,#[o,I.kIn a o hk,hc,n,by simpa using hs],?_];have e:=r.length;simp only [Xa] at e;rfl'
theorem Inv.list_inj (I:Inv X pins σ H s) (h:SqL X.K H a xs) (h':SqL X.K H a ys):xs=ys:=by
 let#[b,r,#[o,n,e,_,_,d],_]:=I.list h;let#[its',f,#[o',g,c,_,_,d'],_]:=I.list h';rw [e] at c;cases c;rw [d] at d';injection d' with d1 _
 have:b=its':=by simpa using Zk Array.toList d1
 subst this;show r.inj f
theorem Inv.tuple_inj (I:Inv X pins σ H s) (h:SqT X.K H a xs) (h':SqT X.K H a ys):xs=ys:=by
 let#[b,r,#[o,e,_,n,d],_]:=I.tuple h;let#[its',f,#[o',c,_,g,d'],_]:=I.tuple h';rw [e] at c;cases c;rw [d] at d';injection d' with d1 _
 have:b=its':=by simpa using Zk Array.toList d1
 subst this;show r.inj f
end
abbrev Cx.wish (X:Cx) (E:Value->Shared->Prop):Cx:={ X with xe:=E }
abbrev Cx.nox (X:Cx):Cx:=X.wish λ _ _=>False
theorem Cx.Ok.wish {X:Cx} (a:X.Ok) (E:Value->Shared->Prop):(X.wish E).Ok:=
 #[a.mod,a.kind,a.glob,a.blt,a.above,a.inj,a.has,a.cab,a.hd,a.frames,a.stk,a.exf,a.bs,a.bsz,a.noex,a.exfs,a.funs,a.frf]
theorem Cx.Ok.unwish {X:Cx} (a:(X.wish E).Ok):X.Ok:=
 #[a.mod,a.kind,a.glob,a.blt,a.above,a.inj,a.has,a.cab,a.hd,a.frames,a.stk,a.exf,a.bs,a.bsz,a.noex,a.exfs,a.funs,a.frf]
section
variable {X:Cx} {pins:List (Addr×Obj)} {σ:St} {H:Hp} {s:Shared} {E:Value->Shared->Prop}
theorem Inv.wish (I:Inv X pins σ H s) (E:Value->Shared->Prop):Inv (X.wish E) pins σ H s:=#[I.ok.wish E,I.os,I.bare,I.base,I.loc,I.cell,I.free,I.freeC,I.pin,I.hok,I.len]
theorem Inv.unwish (I:Inv (X.wish E) pins σ H s):Inv X pins σ H s:=#[I.ok.unwish,I.os,I.bare,I.base,I.loc,I.cell,I.free,I.freeC,I.pin,I.hok,I.len]
theorem SP.unwish {f:Flow} (h:SP (X.wish E) pins D f s'):SP X pins D f s':=by
 cases f with
 | next=>let#[σ',a,I,q]:=h;show#[σ',a,I.unwish,q]
 | brk=>let#[σ',a,I,q]:=h;show#[σ',a,I.unwish,q]
 | cont=>let#[σ',a,I,q]:=h;show#[σ',a,I.unwish,q]
 | ret u=>let#[v,σ',a,I,r,q]:=h;show#[v,σ',a,I.unwish,r,q]
theorem PSs.nox {t:TS} (h:PSs X.nox st t):PSs X st t:=λ a s c H D I b=>
 Yd (h a s c H D (I.wish _) b) (λ _ _ q=>q.unwish) λ _ _ z=>False.elim z
end
section
variable {X:Cx} {st:Stmt} {rest:List Stmt} {t u:TS} {e:Expr} {te:TE} {pos:Pos}
def aW:TS:=λ D σ H=>D.nx σ H
def aG (t u:TS):TS:=λ D σ H=>t { D with nx:=u D } σ H
theorem aL:PSs X [] aW:=λ _ _ a H _ I h=>Wv #[a,H,I,h]
theorem oK (d:PS X st t) (e:PSs X rest u):PSs X (st::rest) (aG t u):=by
 intro a s i H D I h;refine ã (bA (d a s i H { D with nx:=u D } I h) λ f g q=> ?_)
 cases f with
 | next=>
  let#[σ',b,c,q]:=q;show e a g σ' b D c q
 | ret v=>show q
 | brk=>show q
 | cont=>show q
theorem aF (b:PS X st t):PSs X [st] t:=by
 intro a s c H D I h;refine ã (bA (b a s c H D I h) λ f d q=> ?_)
 cases f with
 | next=>show Wv q
 | ret v=>show q
 | brk=>show q
 | cont=>show q
def Ms:TS:=λ D σ H=>D.bk σ H
def O9:TS:=λ D σ H=>D.ct σ H
theorem Inv.quiet {s:Shared} (I:Inv X pins σ H s):interactive X.env=false:=by simp [interactive,I.ok.kind]
def cD (te:TE):TS:=λ D σ H=>te σ H λ _ H1=>D.nx σ H1
theorem bH (d:PE X e te) (f:swapsWith e none pos.line X.env=pure false:=by rfl):PS X (.Expr e pos) (cD te):=by
 intro a s b H D I h;show wpAny_Expr_any (bA (d a s b H _ I h) λ v j ⟨x,H1,c,i,g⟩=>#[b,H1,c,g]) I.quiet f
def bh (te:TE):TS:=λ D σ H=>te σ H D.rt
theorem aH (d:PE X e te):PS X (.Return (some e) pos) (bh te):=by
 intro a s b H D I h;show wpAny_Return_some (bA (d a s b H _ I h) λ v i ⟨x,H1,c,g,f⟩=>#[x,b,H1,c,g,f])
def Oa:TS:=λ D _ H=>D.rt .non H
def bL (c:TT) (t u:TS):TS:=λ D σ H=>c σ H λ b H1=>if b=true then t D σ H1 else u D σ H1
theorem aZ {c:Expr} {a b:List Stmt} {k:TT} (n:PT X c k) (l:PSs X a t) (m:PSs X b u):PS X (.If c a b pos) (bL k t u):=by
 intro e s f H D I h;refine wpAny_If (bA (n e s f H _ I h) λ d j ⟨H1,g,i⟩=> ?_)
 cases d with
 | true=>show l e j f H1 D g i
 | false=>show m e j f H1 D g i
end
abbrev TG:=V->St->Hp->(St->Hp->Prop)->Prop
abbrev Bd:=List V->St->Hp->(St->Hp->Prop)->Prop
def PG (X:Cx) (target:Expr) (t:TG):Prop:=
 ∀ (pins:List (Addr×Obj)) (s:Shared) (σ:St) (H:Hp) (v:V) (u:Value) (Q:St->Hp->Prop),Inv X pins σ H s->RelV v u->t v σ H Q->
  wpAny (model X.prog X.w) X.A (assign target X.env u) (λ _ s'=> ∃σ' H',Inv X pins σ' H' s'/\Q σ' H') X.xe s
def J5 (X:Cx) (ts:List Expr) (t:Bd):Prop:=
 ∀ (pins:List (Addr×Obj)) (s:Shared) (σ:St) (H:Hp) (vs:List V) (us:List Value) (Q:St->Hp->Prop),Inv X pins σ H s->Vals vs us->t vs σ H Q->
  wpAny (model X.prog X.w) X.A (assignInOrder ((assignEach ts X.env).map (·.2)) us) (λ _ s'=> ∃σ' H',Inv X pins σ' H' s'/\Q σ' H') X.xe s
abbrev wC:=V->V->V->Hp->(Hp->Prop)->Prop
def J6 (X:Cx) (t:wC):Prop:=
 ∀ (pins:List (Addr×Obj)) (s:Shared) (σ:St) (H:Hp) (o i v:V) (ov iv u:Value) (Q:Hp->Prop),Inv X pins σ H s->RelV o ov->RelV i iv->RelV v u->t o i v H Q->
  wpAny (model X.prog X.w) X.A (setItem ov iv u) (λ _ s'=> ∃H',Inv X pins σ H' s'/\Q H') X.xe s
abbrev Mt:=V->V->Hp->VK->Prop
section
variable {X:Cx} {pos:Pos}
def aA (i:Nat):TG:=λ v σ H Q=>Q (σ.set i (some v)) H
theorem mF (c:X.N.Nodup) (e:X.N[i]? =some x) (f:Loc X.env.scope x) (d:X.fn x=true\/X.env.scope.names.lookup x=some .local:=by first | show .inl rfl | show .inr rfl | assumption):PG X (.Name x pos) (aA i):=by
 intro a s g H v u Q I r h;show wpAny_assign_Name (fQ I c e f r (λ s' b=>#[_,H,b,h]) d)
def wD:Bd:=λ vs σ H Q=>vs=[]/\Q σ H
def jh (t:TG) (u:Bd):Bd:=λ vs σ H Q=> ∃v r,vs=v::r/\t v σ H λ σ' H'=>u r σ' H' Q
theorem mG:J5 X [] wD:=by
 intro a s b H vs us Q I r h;let#[e,h]:=h;subst e
 cases r;show assignInOrder_nil #[b,H,I,h]
theorem dX {b:List Expr} {t:TG} {u:Bd} (g:PG X e t) (i:J5 X b u)
  (j:(assignEach (e::b) X.env).map (·.2)=assign e X.env::(assignEach b X.env).map (·.2):=by rfl):J5 X (e::b) (jh t u):=by
 intro a s m H vs us Q I r h;let#[v,n,f,h]:=h;subst f
 cases r with
 | cons r rr=>
  rw [j];refine assignInOrder_cons (bA (g a s m H _ _ _ I r h) λ _ l ⟨c,H1,d,k⟩=> ?_);show i a l c H1 _ _ Q d rr k
def uZ (K:W.Frag) (n:Nat) (t:Bd):TG:=λ v σ H Q=> ∃a xs,v= .ref a/\SqT K H a xs/\xs.length=n/\t xs σ H Q
theorem Er {d:List Expr} {t:Bd} (p:X.calm=true) (h:J5 X d t)
  (w:(assignEach d X.env).length=n:=by rfl) (f:(assignEach d X.env).findIdx? (·.1)=none:=by rfl):PG X (.Tuple d k pos) (uZ X.K n t):=by
 intro c s j H v u Q I r g;let#[a,xs,m,x,q,g]:=g;subst m
 cases r;let#[A,i,y,B]:=I.tuple x;refine assign_Tuple_tuple (I.ok.hd p) y (by simp [w,<- q,i.length]) f λ h' z=> ?_
 have l:Inv X c j H { s with heap:=h' }:=I.kept (t':=s.toks) λ b o e=>z b o (Yn (Zl e)) e
 show h c _ j H xs _ Q l (by simpa using i) g
def Bo (to ti:TE) (t:wC):TG:=λ v σ H Q=>to σ H λ o H1=>ti σ H1 λ i H2=>t o i v H2 λ H3=>Q σ H3
theorem wF {o i:Expr} {e d:TE} {t:wC} (m:PE X o e) (l:PE X i d) (n:J6 X t)
  (k: ∀v,assign (.Subscript o i pos) X.env v=(do
   let ov <- holding [v] (eval o X.env)
   let b <- holding [v,ov] (eval i X.env)
   standAt pos
   holding [v,ov,b] (setItem ov b v)
   release [v,ov,b] []):=by intro _;rfl):PG X (.Subscript o i pos) (Bo e d t):=by
 intro a s c H v u Q I r h;rw [k];refine Qr (Yt (bA (m a s c H _ I h) λ ov B ⟨x,H1,f,z,p⟩=> ?_));refine Qr (Yt (bA (l a B c H1 _ f p) λ b C ⟨y,H2,g,A,q⟩=> ?_));refine Qr (Wj (Qr (Yt (bA (n a C c H2 x y v ov b u _ g z A r q) λ _ D ⟨H3,j,w⟩=> ?_))));show wpAny_release #[c,H3,j,w]
def aO (te:TE) (g:TG):TS:=λ D σ H=>te σ H λ x H1=>g x σ H1 D.nx
theorem wG {g:TG} (f:PE X e te) (i:PG X tg g) (j:swapsWithSole [tg] e pos.line X.env=pure false:=by rfl) (k:swappedStores [tg] e X.env=pure none:=by rfl)
  (d:(assignEach [tg] X.env).map (·.2)=[assign tg X.env]:=by rfl):PS X (.Assign [tg] e pos) (aO te g):=by
 intro a s b H D I h;refine wpAny_Assign_stores (bA (f a s b H _ I h) λ v n ⟨x,H1,c,m,l⟩=> ?_) j k;rw [d];show bA (i a n b H1 x v _ c m l) λ _ o q=>q
theorem j0 {a:Pos} (f:X.N.Nodup) (k:X.N[i]? =some x) (m:Loc X.env.scope x) (g:PE X e te) (l:swapsWith e (some (.Name x a)) pos.line X.env=pure false:=by rfl) (j:X.fn x=true\/X.env.scope.names.lookup x=some .local:=by first | show .inl rfl | show .inr rfl | assumption):
  PS X (.Assign [.Name x a] e pos) (aO te (aA i)):=by
 intro b s p H D I h;refine wpAny_Assign_Name (bA (g b s p H _ I h) λ v q ⟨y,H1,c,o,n⟩=> ?_) l;show fQ c f k m o (λ r d=>#[_,H1,d,n]) j
def Q3 (i:Nat) (te:TE) (ti:Mt):TS:=λ D σ H=> ∃x,σ[i]? =some (some x)/\te σ H λ y H1=>ti x y H1 λ z H2=>D.nx (σ.set i (some z)) H2
def Ob (to ti te:TE) (tget:V->V->Hp->VK->Prop) (tip:Mt) (tset:wC):TS:=λ D σ H=>to σ H λ o H1=>ti σ H1 λ i H2=>tget o i H2 λ x H3=>te σ H3 λ y H4=>tip x y H4 λ z H5=>tset o i z H5 λ H6=>D.nx σ H6
def Qs (f:Int->Int->Int):Mt:=λ x y H Q=> ∃i j,x= .int i/\y= .int j/\Q (.int (f i j)) H
end
structure It where
 go:Nat->Hp->Prop
 yld:Nat->Hp->V->Hp->Prop
 stop:Nat->Hp->Prop
def jt (X:Cx) (pins:List (Addr×Obj)) (H:Hp) (b:Addr):Prop:=
 H b=none/\b≠X.env.locals/\b∉X.fs/\(b∈X.ex\/X.s₀.heap.objs.size<=b)/\(∀x c,X.env.cells.lookup x=some c->c≠b)/\ ∀p∈X.pn++pins,p.1≠b
theorem Inv.fpOk {X:Cx} {d:Hp} {s:Shared} (I:Inv X pins σ H s) (a:s.heap.objs.size<=b) (f:d b=none):jt X pins d b:=by
 refine#[f,Ù (Zt I.lt a),I.nofs a, .inr (Zy I.sz a),λ x c e z=> ?_,λ p g z=> ?_]
 .obtain ⟨v,q⟩:=I.cell x c e;show absurd (Zt q.lt (by rw [z];show a)) (Xp _)
 .exact absurd (Zt (Zl (I.pin p g).1) (by rw [z];show a)) (Xp _)
structure Turn (P:Program) (w:World) (K:W.Frag) (tg:Expr) (J:It) (fp:List Addr) (it:Addr) (tn:Nat->Heap->Prop):Prop where
 mem:it∈fp
 obj: ∀i h,tn i h-> ∀b∈fp,∃o,h.get? b=some o/\ ∀v,o.data≠ .cell v
 keep: ∀i h h',tn i h->(∀b∈fp,∀o,h.get? b=some o->h'.get? b=some o)->tn i h'
 item: ∀ (X:Cx),X.prog=P->X.w=w->X.K=K->X.calm=true-> ∀ (i:Nat) (pins:List (Addr×Obj)) (s:Shared) (σ:St) (H:Hp) (E:Value->Shared->Prop),Inv X pins σ H s->(∀b∈fp,jt X pins H b)->tn i s.heap->J.go i H->
  wpAny (model P w) X.A (pyNext (.ref it)) (λ r s1=> ∃u,r=some u/\
   wpAny (model P w) X.A (letOwnedTupleGo tg (.ref it) u) (λ _ s2=> ∃x H',Inv X pins σ H' s2/\RelV x u/\J.yld i H x H'/\tn (i+1) s2.heap/\ ∀b∈fp,H' b=none) E s1) E s
 done: ∀ (X:Cx),X.prog=P->X.w=w->X.K=K->X.calm=true-> ∀ (i:Nat) (pins:List (Addr×Obj)) (s:Shared) (σ:St) (H:Hp) (E:Value->Shared->Prop),Inv X pins σ H s->(∀b∈fp,jt X pins H b)->tn i s.heap->J.stop i H->
  wpAny (model P w) X.A (pyNext (.ref it)) (λ r s1=>r=none/\Inv X pins σ H s1) E s
 self: ∀ (A:Around) (i:Nat) (s:Shared) (Q:Value->Shared->Prop) (E:Value->Shared->Prop),tn i s.heap->Q (.ref it) s->wpAny (model P w) A (pyIter (.ref it)) Q E s
abbrev TI:=St->Hp->(It->Hp->Prop)->Prop
def PIE (X:Cx) (pins:List (Addr×Obj)) (σ:St) (tg:Expr) (R:It->Hp->Prop) (itv:Value) (s2:Shared):Prop:=
 ∃ (it:Addr) (fp:List Addr) (tn:Nat->Heap->Prop) (J:It) (H':Hp),itv= .ref it/\Inv X pins σ H' s2/\Turn X.prog X.w X.K tg J fp it tn/\tn 0 s2.heap/\(∀b∈fp,jt X pins H' b)/\R J H'
def PI (X:Cx) (tg iter:Expr) (wi:TI):Prop:=
 ∀ (pins:List (Addr×Obj)) (s:Shared) (σ:St) (H:Hp) (R:It->Hp->Prop),Inv X pins σ H s->wi σ H R->
  wpAny (model X.prog X.w) X.A (eval iter X.env) (λ v s1=>wpAny (model X.prog X.w) X.A (pyIter v) (PIE X pins σ tg R) X.xe s1) X.xe s
theorem oM {s:Shared} {o:Obj} {n:String} {vs:Array Value} {Q:Unit->Shared->Prop} (e:s.heap.get? it=some o) (b:o.cls= .type n) (c:o.data= .fields vs)
  (d:["enumerate","zip","dict_itemiterator","dict_reverseitemiterator","odict_iterator","itertools.zip_longest","itertools.pairwise"].contains n=false) (a:Q Unit.unit s):wpAny M A (letOwnedTupleGo tg (.ref it) u) Q E s:=by
 unfold letOwnedTupleGo
 cases tg <;> first
  | show Zi a
  | (cases u<;>first
    | show Zi a
    | (refine Qr (wpAny_load e ?_)
       rw [b,c];change wpAny M A (if (["enumerate","zip","dict_itemiterator","dict_reverseitemiterator","odict_iterator","itertools.zip_longest","itertools.pairwise"].contains n&&vs[0]? ==some (rawInt _))=true then _ else _) Q E s;rw [if_neg (by intro h;rw [d,Ä] at h;cases h)];show Zi a))
def Bp (K:W.Frag) (a:Addr):It:=
 #[λ i H=> ∃xs x,SqL K H a xs/\xs[i]? =some x,λ i H x H'=>H'=H/\ ∀xs,SqL K H a xs->xs[i]? =some x,λ i H=> ∃xs,SqL K H a xs/\xs.length<=i]
def Iu (K:W.Frag) (a:Addr):It:=
 #[λ i H=> ∃xs x,SqT K H a xs/\xs[i]? =some x,λ i H x H'=>H'=H/\ ∀xs,SqT K H a xs->xs[i]? =some x,λ i H=> ∃xs,SqT K H a xs/\xs.length<=i]
def vd (lo:Int) (n:Nat):It:=#[λ i _=>i<n,λ i H x H'=>H'=H/\x= .int (lo+i),λ i _=>n<=i]
theorem vf {P:Program} {K:W.Frag} (a j:Addr):Turn P w K tg (Bp K a) [j] j (λ i h=>h.IsListIter j a i) where
 mem:=by simp
 obj:=λ i h st b g=>by
  have e:b=j:=by simpa using g
  subst e;let#[o,e,c,d]:=st;show#[o,e,λ v z=>by rw [d] at z;cases z]
 keep:=λ i h h' st k=>st.at λ o e=>k j (by simp) o e
 item:=by
  intro X B D A L i f s M H E I m st C;subst B D A;let#[xs,x,n,F]:=C;let#[G,J,p,T]:=I.list n;let#[u,R,U]:=J.get F;let#[q,r,Q,t,y,f5]:=m j (by simp);refine wpAny_pyNext_list_item st p.isList (x:=u) (by simpa using R) λ h' l Y=> ?_
  have N:Inv X f M H { s with heap:=h' }:=I.turned (t':=s.toks) (λ b o g e=>(Y.2 b g).trans e) q r t y f5;let#[o,e,c,d]:=id l;show#[u,rfl,oM (s:={ s with heap:=h' }) e c d (by decide) ⟨x,H,N,U,⟨rfl,λ ys S=>by rw [I.list_inj S n];show F⟩,l,λ b g=>(m b g).1⟩]
 done:=by
  intro X B D A L i f s M H E I m st C;subst B D A;let#[xs,n,F]:=C;let#[G,J,p,T]:=I.list n;let#[q,r,Q,t,y,f5]:=m j (by simp);have Z:=J.length;show wpAny_pyNext_list_end (I.ok.hd L) st p.isList (by simp;rfl') λ h' O=>#[rfl,I.turned (t':=s.toks) (λ b o g e=>O b o g e) q r t y f5]
 self:=λ _ _ _ _ _ st h=>wpAny_pyIter_listiter st h
theorem qI {P:Program} {K:W.Frag} (a j:Addr):Turn P w K tg (Iu K a) [j] j (λ i h=>h.IsTupleIter j a i) where
 mem:=by simp
 obj:=λ i h st b g=>by
  have e:b=j:=by simpa using g
  subst e;let#[o,e,c,d]:=st;show#[o,e,λ v z=>by rw [d] at z;cases z]
 keep:=λ i h h' st k=>st.at λ o e=>k j (by simp) o e
 item:=by
  intro X C F B L i f s M H E I n st D;subst C F B;let#[xs,x,q,G]:=D;let#[l,J,p,T]:=I.tuple q;let#[u,R,U]:=J.get G;let#[r,t,Q,y,A,f5]:=n j (by simp);refine wpAny_pyNext_tuple_item st (show s.heap.IsTuple a l.toArray from p) (x:=u) (by simpa using R) λ h' m Y=> ?_
  have N:Inv X f M H { s with heap:=h' }:=I.turned (t':=s.toks) (λ b o g e=>(Y.2 b g).trans e) r t y A f5;let#[o,e,c,d]:=id m;show#[u,rfl,oM (s:={ s with heap:=h' }) e c d (by decide) ⟨x,H,N,U,⟨rfl,λ ys S=>by rw [I.tuple_inj S q];show G⟩,m,λ b g=>(n b g).1⟩]
 done:=by
  intro X C F B L i f s M H E I n st D;subst C F B;let#[xs,q,G]:=D;let#[l,J,p,T]:=I.tuple q;let#[r,t,Q,y,A,f5]:=n j (by simp);have Z:=J.length;show wpAny_pyNext_tuple_end (I.ok.hd L) st (show s.heap.IsTuple a l.toArray from p) (by simp;rfl') λ h' O=>#[rfl,I.turned (t':=s.toks) (λ b o g e=>O b o g e) r t y A f5]
 self:=λ _ _ _ _ _ st h=>wpAny_pyIter_tupleiter st h
theorem qJ {P:Program} {K:W.Frag} (a:Addr) (lo:Int) (n:Nat):Turn P w K tg (vd lo n) [a] a (λ i h=>IsRangeIter h a (lo+(i:Nat)*1) ((n:Int)-(i:Nat)) 1) where
 mem:=by simp
 obj:=λ i h st b d=>by
  have e:b=a:=by simpa using d
  subst e;show⟨_,st,λ v z=>by
   have L:Data.fields _=Data.cell v:=z
   cases L⟩
 keep:=λ i h h' st k=>k a (by simp) _ st
 item:=by
  intro X r y q u i c s B H E I g st x;subst r y q;let#[j,l,F,m,p,f5]:=g a (by simp);have W:=Walks.range (prog:=X.prog) (w:=X.w) (I.ok.hd u) a lo 1 n;refine W.item i s _ _ x st λ v h' A G f J=> ?_
  let#[t,rfl]:=G;have C:Inv X c B H { s with heap:=h',toks:=A }:=I.turned (λ b o d e=>J b o (by simpa using d) e) j l m p f5;refine⟨_,rfl,oM (s:={ s with heap:=h',toks:=A }) (n:="range_iterator") f rfl rfl (by decide) ⟨.int (lo+i),H,C,⟨t,?_⟩,⟨rfl,rfl⟩,f,λ b d=>(g b d).1⟩⟩;rw [Int.mul_one]
 done:=by
  intro X r y q u i c s B H E I g st x;subst r y q;let#[j,l,F,m,p,f5]:=g a (by simp);show wpAny_pyNext_range_end (I.ok.hd u) st (by have:n<=i:=x;rfl') λ h' D=>#[rfl,I.turned (t':=s.toks) (λ b o d e=>D b o d e) j l m p f5]
 self:=λ _ _ _ _ _ st h=>wpAny_pyIter_rangeiter st h
section
variable {X:Cx} {tg:Expr}
def cO (K:W.Frag) (tl:TE):TI:=λ σ H R=>tl σ H λ x H1=> ∃a,x= .ref a/\(∃xs,SqL K H1 a xs)/\R (Bp K a) H1
def oO (K:W.Frag) (tl:TE):TI:=λ σ H R=>tl σ H λ x H1=> ∃a,x= .ref a/\(∃xs,SqT K H1 a xs)/\R (Iu K a) H1
theorem Bq {l:Expr} (i:PE X l tl):PI X tg l (cO X.K tl):=by
 intro c s r H R I h;refine bA (i c s r H _ I h) λ v f ⟨x,H1,d,n,m⟩=> ?_
 let#[a,e,#[xs,j],q]:=m;subst e
 cases n;let#[k,u,p,t]:=d.list j;refine wpAny_pyIter_list p.isList ?_;refine#[f.heap.objs.size,[f.heap.objs.size],_,_,H1,rfl,d.kept (t':=f.toks) λ b o e=>Zd _ e,vf a _,#[_,Zw _ rfl,rfl,rfl],λ b g=> ?_,q];have e:b=f.heap.objs.size:=by simpa using g
 subst e;show d.fpOk (Zo _) (d.hok.fresh (Zo _))
theorem Es {l:Expr} (j:PE X l tl):PI X tg l (oO X.K tl):=by
 intro c s r H R I h;refine bA (j c s r H _ I h) λ v d ⟨x,H1,f,n,m⟩=> ?_
 let#[a,e,#[xs,k],q]:=m;subst e
 cases n;let#[g,u,p,t]:=f.tuple k;refine wpAny_pyIter_tuple (show d.heap.IsTuple a g.toArray from p) ?_;refine#[d.heap.objs.size,[d.heap.objs.size],_,_,H1,rfl,f.kept (t':=d.toks) λ b o e=>Zd _ e,qI a _,#[_,Zw _ rfl,rfl,rfl],λ b i=> ?_,q];have e:b=d.heap.objs.size:=by simpa using i
 subst e;show f.fpOk (Zo _) (f.hok.fresh (Zo _))
theorem wH {s:Shared} {R:It->Hp->Prop} {lo a:Int} {t u v:Tok} {d:Nat} (I:Inv X pins σ H s) (h: -(2^62)<=lo) (i:lo<2^62) (j: -(2^62)<=a) (k:a<2^62)
  (q:R (vd lo (a-lo).toNat) H):wpAny (model X.prog X.w) X.A (pyIter (.ref s.heap.objs.size)) (PIE X pins σ tg R) E { s with heap:=s.heap.push { cls:= .type "range",data:= .fields ([.int lo t, .int a u, .int 1 v].toArray) },toks:=d }:=by
 refine wpAny_pyIter_range (IsRange.new ..) (small_one h i j k) ?_;have c:Inv X pins σ H { s with heap:=s.heap.push { cls:= .type "range",data:= .fields ([.int lo t, .int a u, .int 1 v].toArray) },toks:=d }:=I.kept λ b o e=>Zd _ e
 refine⟨(s.heap.push { cls:= .type "range",data:= .fields ([.int lo t, .int a u, .int 1 v].toArray) }).objs.size,[(s.heap.push { cls:= .type "range",data:= .fields ([.int lo t, .int a u, .int 1 v].toArray) }).objs.size],_,_,H,rfl,
  c.kept (t':=d) λ b o e=>Zd _ e,qJ _ lo (a-lo).toNat,?_,λ b l=> ?_,q⟩
 .have f:lo+((0:Nat):Int)*1=lo:=by simp
  have g:(((a-lo).toNat:Nat):Int)-((0:Nat):Int)=Builtin.Range.rangeSize lo a 1:=by rw [rangeSize_one];split<;>rfl'
  change IsRangeIter _ _ (lo+((0:Nat):Int)*1) ((((a-lo).toNat:Nat):Int)-((0:Nat):Int)) 1;rw [f,g];show Zw _ rfl
 .have e:b=(s.heap.push { cls:= .type "range",data:= .fields ([.int lo t, .int a u, .int 1 v].toArray) }).objs.size:=by simpa using l
  subst e;show c.fpOk (Zo _) (c.hok.fresh (Zo _))
def iz (ta:TA):TI:=λ σ H R=>ta σ H λ vs H1=> ∃j:Int,vs=[.int j]/\ -(2^62)<=j/\j<2^62/\R (vd 0 j.toNat) H1
def Oc (ta:TA):TI:=λ σ H R=>ta σ H λ vs H1=> ∃i j:Int,vs=[.int i, .int j]/\(-(2^62)<=i/\i<2^62/\ -(2^62)<=j/\j<2^62)/\R (vd i (j-i).toNat) H1
theorem cR {a:Expr} {d:TA} {p:Pos} (i:Gl X "range") (k:X.mg "range"=none) (g:PA X [a] d) (l:starEach [a] X.env=[(false,eval a X.env)]:=by rfl):PI X tg (.Call (.Name "range" p) [a] [] pos) (iz d):=by
 intro b s o H R I h;refine Call_ (jK I i k boot_range (PyProof.Rows.callWith_type1 (bA (g pos b s o H _ I h) λ us u ⟨vs,H1,f,n,c⟩=> ?_) l rfl));let#[j,e,c,m,q]:=c;subst e
 cases n with
 | cons r rr=>
  cases rr;let#[t,rfl]:=r;show call_range_1 (wH f () () c m (by simpa using q))
def dO (wi:TI) (g:TG) (tb:TS):TS:=λ D σ H=>wi σ H λ J H1=> ∃W:Nat->Nat->St->Hp->Prop,(∃m,W 0 m σ H1)/\ ∀i m σ H,W i m σ H->
 (J.stop i H/\D.nx σ H)\/(J.go i H/\ ∃N:St->Hp->Prop,(∀σ' H',N σ' H'-> ∃m',m'<m/\W (i+1) m' σ' H')/\ ∀x H',J.yld i H x H'->g x σ H' λ σ2 H2=>tb { D with nx:=N,ct:=N,bk:=D.nx } σ2 H2)
def j4 (fp:List Addr) (h:Heap):List (Addr×Obj):=fp.filterMap λ b=>(h.get? b).map λ o=>(b,o)
theorem cT {h:Heap} {o:Obj} (a:b∈fp) (e:h.get? b=some o):(b,o)∈j4 fp h:=Õ.mpr #[b,a,by rw [e];rfl]
theorem vg {h:Heap} (d:p∈j4 fp h):p.1∈fp/\h.get? p.1=some p.2:=by
 let#[b,c,e]:=Õ.mp d
 cases q:h.get? b with
 | none=>rw [q] at e;cases e
 | some o=>
  rw [q] at e;have a:(b,o)=p:=Zr e;subst a;show#[c,q]
theorem Inv.pinned {s:Shared} (I:Inv X pins σ H s) (i: ∀b∈fp,jt X pins H b) (j: ∀b∈fp,∃o,s.heap.get? b=some o/\ ∀v,o.data≠ .cell v):Inv X (pins++j4 fp s.heap) σ H s:=
 I.pins_of λ p k=>(Zh.mp k).elim (λ z=>I.pin p (Yb _ z)) λ z=>by
  let#[c,e]:=vg z;let#[f,g,h,_]:=i p.1 c;let#[o,a,d]:=j p.1 c;rw [e] at a;cases a;show#[e,f,g,h,d]
theorem Inv.unpinned {pl:List (Addr×Obj)} {s:Shared} (I:Inv X (pins++pl) σ H s):Inv X pins σ H s:=I.pins_of λ p a=>I.pin p (Yb _ (Yw _ a))
theorem gY {q:Expr} {wi:TI} {g:TG} (G:PassesOwn (model X.prog X.w) X.A X.env X.xe) (hc:X.calm=true) (hi:PI X tg q wi) (hg:PG X tg g) (p:PSs X body tb)
  (hs: ∀x,foldedSetIterable q X.env x=pure x:=by intro _;rfl):PS X (.For tg q body [] pos) (dO wi g tb):=by
 intro a s σ H D I h;refine wpAny_For (bA (hi a s σ H _ I h) λ v s1 h1=>bA h1 λ ac s2 h2=> ?_) hs;let#[it,E,tn,J,H2,e,I2,T,S,f2,W,#[m0,w0],M]:=h2;subst e;have t: ∀ {z:Hp},(∀b∈E,z b=none)-> ∀b∈E,jt X a z b:=λ hn b p=>#[hn b p,(f2 b p).2]
 refine codeAny_forLoop_any (λ n s'=> ∃i σ' z,Inv X a σ' z s'/\tn i s'.heap/\(∀b∈E,z b=none)/\W i n σ' z) ?_ m0 #[0,σ,H2,I2,S,λ b p=>(f2 b p).1,w0];rintro n s3 ⟨i,y,H3,Z,L,F,w3⟩;rcases M i n y H3 w3 with ⟨stop,qn⟩ | ⟨go,N,hN,step⟩
 .refine Ñ G (bA (T.done X rfl rfl rfl hc i a s3 y H3 X.xe Z (t F) L stop) λ r s4 ⟨Q,I4⟩=> ?_);subst Q;show Wv #[y,H3,I4,qn]
 .refine Ñ G (bA (T.item X rfl rfl rfl hc i a s3 y H3 X.xe Z (t F) L go) λ r s4 ⟨u,Q,h4⟩=> ?_);subst Q;refine Ñ G (bA h4 λ _ s5 ⟨x,Y,I5,r5,y5,C,P⟩=> ?_);have O:=I5.pinned (t P) (T.obj _ _ C);refine Ñ G (bA (hg _ s5 y Y x u _ O r5 (step x Y y5)) λ _ s6 ⟨U,H6,I6,q6⟩=> ?_);refine Ñ G (bA (p _ s6 U H6 _ I6 q6) λ f R B=> ?_);have l: ∀ {c:St} {j:Hp},Inv X (a++j4 E s5.heap) c j R->N c j-> ∃m,m<n/\ ∃i σ' z,Inv X a σ' z R/\tn i R.heap/\(∀b∈E,z b=none)/\W i m σ' z:=λ {c j} k K=>by
   let#[m',hm,w7]:=hN c j K;refine#[m',hm,i+1,c,j,k.unpinned,T.keep _ _ _ C λ b p o e=>(k.pin (b,o) (Yb _ (Yb _ (cT p e)))).1,λ b p=> ?_,w7];let#[o,e,d]:=T.obj _ _ C b p;show(k.pin (b,o) (Yb _ (Yb _ (cT p e)))).2.1
  cases f with
  | next=>let#[c,j,k,K]:=B;show l k K
  | cont=>let#[c,j,k,K]:=B;show l k K
  | brk=>let#[c,j,k,B]:=B;show#[c,j,k.unpinned,B]
  | ret v=>let#[x7,c,j,k,r7,B]:=B;show#[x7,c,j,k.unpinned,r7,B]
end
theorem wI {K:W.Frag} {xs:List V} {g:TG} (b:Nat->St->Hp->Prop) (f:b 0 σ H) (k: ∀i σ H,i<=xs.length->b i σ H->SqL K H a xs)
  (l: ∀i x σ H,xs[i]? =some x->b i σ H->g x σ H λ c H2=>tb { D with nx:=b (i+1),ct:=b (i+1),bk:=D.nx } c H2) (h: ∀σ H,b xs.length σ H->D.nx σ H):
  ∃W:Nat->Nat->St->Hp->Prop,(∃m,W 0 m σ H)/\ ∀i m σ H,W i m σ H->
   ((Bp K a).stop i H/\D.nx σ H)\/((Bp K a).go i H/\ ∃N:St->Hp->Prop,(∀σ' H',N σ' H'-> ∃m',m'<m/\W (i+1) m' σ' H')/\ ∀x H',(Bp K a).yld i H x H'->g x σ H' λ c H2=>tb { D with nx:=N,ct:=N,bk:=D.nx } c H2):=by
 refine#[λ i m σ H=>m=xs.length-i/\i<=xs.length/\b i σ H,#[xs.length,by simp,Yv _,f],?_];rintro i m σ H ⟨rfl,j,p⟩;have q:=k i σ H j p;by_cases d:i<xs.length
 .refine .inr #[#[xs,xs[i],q,by simp [d]],b (i+1),λ σ' H' n=>#[xs.length-(i+1),(),rfl,d,n],λ x H' y=> ?_];let#[e,y]:=y;subst e;show l i x σ _ (y xs q) p
 .have e:i=xs.length:=()
  subst e;show .inl #[#[xs,q,Zo _],h σ H p]
theorem Br {K:W.Frag} {xs:List V} {g:TG} (b:Nat->St->Hp->Prop) (f:b 0 σ H) (k: ∀i σ H,i<=xs.length->b i σ H->SqT K H a xs)
  (l: ∀i x σ H,xs[i]? =some x->b i σ H->g x σ H λ c H2=>tb { D with nx:=b (i+1),ct:=b (i+1),bk:=D.nx } c H2) (h: ∀σ H,b xs.length σ H->D.nx σ H):
  ∃W:Nat->Nat->St->Hp->Prop,(∃m,W 0 m σ H)/\ ∀i m σ H,W i m σ H->
   ((Iu K a).stop i H/\D.nx σ H)\/((Iu K a).go i H/\ ∃N:St->Hp->Prop,(∀σ' H',N σ' H'-> ∃m',m'<m/\W (i+1) m' σ' H')/\ ∀x H',(Iu K a).yld i H x H'->g x σ H' λ c H2=>tb { D with nx:=N,ct:=N,bk:=D.nx } c H2):=by
 refine#[λ i m σ H=>m=xs.length-i/\i<=xs.length/\b i σ H,#[xs.length,by simp,Yv _,f],?_];rintro i m σ H ⟨rfl,j,p⟩;have q:=k i σ H j p;by_cases d:i<xs.length
 .refine .inr #[#[xs,xs[i],q,by simp [d]],b (i+1),λ σ' H' n=>#[xs.length-(i+1),(),rfl,d,n],λ x H' y=> ?_];let#[e,y]:=y;subst e;show l i x σ _ (y xs q) p
 .have e:i=xs.length:=()
  subst e;show .inl #[#[xs,q,Zo _],h σ H p]
theorem vh {lo:Int} {g:TG} (a:Nat->St->Hp->Prop) (d:a 0 σ H)
  (h: ∀i σ H,i<n->a i σ H->g (.int (lo+i)) σ H λ c H2=>tb { D with nx:=a (i+1),ct:=a (i+1),bk:=D.nx } c H2) (f: ∀σ H,a n σ H->D.nx σ H):
  ∃W:Nat->Nat->St->Hp->Prop,(∃m,W 0 m σ H)/\ ∀i m σ H,W i m σ H->
   ((vd lo n).stop i H/\D.nx σ H)\/((vd lo n).go i H/\ ∃N:St->Hp->Prop,(∀σ' H',N σ' H'-> ∃m',m'<m/\W (i+1) m' σ' H')/\ ∀x H',(vd lo n).yld i H x H'->g x σ H' λ c H2=>tb { D with nx:=N,ct:=N,bk:=D.nx } c H2):=by
 refine#[λ i m σ H=>m=n-i/\i<=n/\a i σ H,#[n,by simp,Yv _,d],?_];rintro i m σ H ⟨rfl,k,p⟩;by_cases b:i<n
 .refine .inr #[b,a (i+1),λ σ' H' j=>#[n-(i+1),(),rfl,b,j],λ x H' y=> ?_];let#[e,y]:=y;subst e y;show h i σ _ b p
 .have e:i=n:=()
  subst e;show .inl #[Nat.le_refl _,f σ H p]
abbrev R2:=V->V->Hp->VK->Prop
variable {r r':R2}
def eY (X:Cx) (f:Value->Value->Sem Value) (r:R2):Prop:=
 ∀ (pins:List (Addr×Obj)) (s:Shared) (σ:St) (H:Hp) (x y:V) (v u:Value) (Q:VK),Inv X pins σ H s->RelV x v->RelV y u->r x y H Q->
  wpAny (model X.prog X.w) X.A (f v u) (EP X pins σ Q) X.xe s
def Mu (X:Cx) (f:Value->Sem Value) (r:V->Hp->VK->Prop):Prop:=
 ∀ (pins:List (Addr×Obj)) (s:Shared) (σ:St) (H:Hp) (x:V) (v:Value) (Q:VK),Inv X pins σ H s->RelV x v->r x H Q->
  wpAny (model X.prog X.w) X.A (f v) (EP X pins σ Q) X.xe s
def bM (X:Cx) (f:Value) (r:List V->Hp->VK->Prop):Prop:=
 ∀ (pins:List (Addr×Obj)) (s:Shared) (σ:St) (H:Hp) (xs:List V) (us:List Value) (Q:VK),Inv X pins σ H s->Vals xs us->r xs H Q->
  wpAny (model X.prog X.w) X.A (call f us) (EP X pins σ Q) X.xe s
def Mv (X:Cx) (r:V->Hp->(Bool->Hp->Prop)->Prop):Prop:=
 ∀ (pins:List (Addr×Obj)) (s:Shared) (σ:St) (H:Hp) (x:V) (v:Value) (Q:Bool->Hp->Prop),Inv X pins σ H s->RelV x v->r x H Q->
  wpAny (model X.prog X.w) X.A (truthy v) (TP X pins σ Q) X.xe s
def aK (r:R2) (ta tb:TE):TE:=λ σ H Q=>ta σ H λ x H1=>tb σ H1 λ y H2=>r x y H2 Q
def Et (r:V->Hp->VK->Prop) (ta:TE):TE:=λ σ H Q=>ta σ H λ x H1=>r x H1 Q
def rI (C:Int->Int->Prop) (g:Int->Int->V):R2:=λ x y H Q=> ∃i j,x= .int i/\y= .int j/\C i j/\Q (g i j) H
def vm (g:Int->Int->V):R2:=λ x y H Q=> ∃i j,x= .int i/\y= .int j/\Q (g i j) H
def rU (g:Int->V):V->Hp->VK->Prop:=λ x H Q=> ∃i,x= .int i/\Q (g i) H
section
variable {X:Cx} {a b c:Expr} {ta tb tc:TE} {pos:Pos}
theorem Eu (g:PE X a ta) (i:PE X b tb) {s:Shared} (I:Inv X pins σ H s)
  (h:ta σ H λ x H1=>tb σ H1 λ y H2=>R x y H2)
  (j: ∀v u c x y H2,Inv X pins σ H2 c->RelV x v->RelV y u->R x y H2->wpAny (model X.prog X.w) X.A (f v u) Q X.xe c):
  wpAny (model X.prog X.w) X.A (eval a X.env) (λ v s₁=>wpAny (model X.prog X.w) X.A (eval b X.env) (λ u s₂=>wpAny (model X.prog X.w) X.A (f v u) Q X.xe s₂) X.xe s₁) X.xe s:=by
 refine bA (g pins s σ H _ I h) λ v o ⟨x,H1,d,m,k⟩=> ?_
 refine bA (i pins o σ H1 _ d k) λ u c ⟨y,H2,e,n,l⟩=> ?_
 show j v u c x y H2 e m n l
theorem aB {d:Operator} (i:eY X (binaryOp d) r) (f:PE X a ta) (g:PE X b tb):PE X (.BinOp a d b pos) (aK r ta tb):=by
 intro c s m H Q I h;show wpAny_BinOp (Eu f g I h λ v u l x y H2 e j k q=>i c l m H2 x y v u Q e j k q)
theorem oR {c:UnaryOp} {r:V->Hp->VK->Prop} (g:Mu X (unaryOp c) r) (f:PE X a ta):PE X (.UnaryOp c a pos) (Et r ta):=by
 intro b s d H Q I h;show UnaryOp_ (bA (f b s d H _ I h) λ v k ⟨x,H1,e,j,i⟩=>g b k d H1 x v Q e j i)
theorem J7
  (a: ∀ (i j:Int) (t u:Tok) (s:Shared) (Q:Value->Shared->Prop) (E:Value->Shared->Prop),C i j->Q (.int (g i j) s.toks) { s with toks:=s.toks+1 }->wpAny (model X.prog X.w) X.A (f (.int i t) (.int j u)) Q E s):
  eY X f (rI C λ i j=> .int (g i j)):=by
 intro b s k H x y v u Q I d e h;let#[i,j,rfl,rfl,c,q]:=h;let#[t,rfl]:=d;let#[t',rfl]:=e;show a i j t t' s _ _ c #[.int (g i j),H,I.tok _,#[_,rfl],q]
theorem J8
  (a: ∀ (i j:Int) (t u:Tok) (s:Shared) (Q:Value->Shared->Prop) (E:Value->Shared->Prop),Q (.int (g i j) s.toks) { s with toks:=s.toks+1 }->wpAny (model X.prog X.w) X.A (f (.int i t) (.int j u)) Q E s):
  eY X f (vm λ i j=> .int (g i j)):=by
 intro b s e H x y v u Q I c d h;let#[i,j,rfl,rfl,q]:=h;let#[t,rfl]:=c;let#[t',rfl]:=d;show a i j t t' s _ _ #[.int (g i j),H,I.tok _,#[_,rfl],q]
theorem Ew {g:Int->Int->Bool}
  (a: ∀ (i j:Int) (t u:Tok) (s:Shared) (Q:Value->Shared->Prop) (E:Value->Shared->Prop),Q (.bool (g i j)) s->wpAny (model X.prog X.w) X.A (f (.int i t) (.int j u)) Q E s):
  eY X f (vm λ i j=> .bl (g i j)):=by
 intro b s e H x y v u Q I c d h;let#[i,j,rfl,rfl,q]:=h;let#[t,rfl]:=c;let#[t',rfl]:=d;show a i j t t' s _ _ #[.bl (g i j),H,I,rfl,q]
def J9 (i j:Int):Prop:=0<j/\j<1073741824
def Ja (i j:Int):Prop:=0<=j/\j<=1000000/\i.natAbs<2^64
def CMul (i j:Int):Prop:=(-(2^64)<i/\i<2^64)\/(-(2^64)<j/\j<2^64)
theorem CMul.ok {i j:Int} (h:CMul i j):IntMulOk i j:=by
 rcases h with ⟨h1,h2⟩ | ⟨h1,h2⟩
 .exact .of_left (intBits_le_64 h1 h2)
 .exact .of_right (intBits_le_64 h1 h2)
theorem qK (k:Nat):(0:Int)<=2^k:=by
 rw [two_pow_cast];show Int.natCast_nonneg _
theorem bU:eY X (binaryOp .Add) (vm λ i j=> .int (i+j)):=J8 λ _ _ _ _ _ _ _ q=>add_int q
theorem j5:eY X (binaryOp .Sub) (vm λ i j=> .int (i-j)):=J8 λ _ _ _ _ _ _ _ q=>sub_int q
theorem cU:eY X (binaryOp .Mult) (rI CMul λ i j=> .int (i*j)):=J7 λ _ _ _ _ _ _ _ a q=>mul_int q a.ok
theorem bG:eY X (binaryOp .FloorDiv) (rI J9 λ i j=> .int (i / j)):=J7 λ i j _ _ _ _ _ a q=>by
 have b:(0:Int)<j:=a.1;have c:j<1073741824:=a.2;show floordiv_int () (by rw [Int.fdiv_eq_ediv_of_nonneg i ()];show q) (.inl (PyProof.noPylong_small ()))
theorem aR:eY X (binaryOp .Mod) (rI (λ _ j=>0<j) λ i j=> .int (i%j)):=J7 λ i j _ _ _ _ _ a q=>by
 have b:(0:Int)<j:=a;show mod_int' () (by rw [Int.fmod_eq_emod_of_nonneg i ()];show q)
theorem Ex:eY X (binaryOp .LShift) (rI Ja λ i j=> .int (i*2^j.toNat)):=J7 λ _ _ _ _ _ _ _ a q=>lshift_int_small a.1 a.2.1 a.2.2 q
theorem Ey:eY X (binaryOp .RShift) (rI (λ _ j=>0<=j) λ i j=> .int (i / 2^j.toNat)):=J7 λ i j _ _ _ _ _ a q=>
 rshift_int a (by rw [Int.fdiv_eq_ediv_of_nonneg i (qK _)];show q)
theorem Q4 {f:Value->Sem Value} {g:Int->Int}
  (a: ∀ (i:Int) (t:Tok) (s:Shared) (Q:Value->Shared->Prop) (E:Value->Shared->Prop),Q (.int (g i) s.toks) { s with toks:=s.toks+1 }->wpAny (model X.prog X.w) X.A (f (.int i t)) Q E s):
  Mu X f (rU λ i=> .int (g i)):=by
 intro b s d H x v Q I c h;let#[i,rfl,q]:=h;let#[t,rfl]:=c;show a i t s _ _ #[.int (g i),H,I.tok _,#[_,rfl],q]
theorem jL:Mu X (unaryOp .USub) (rU λ i=> .int (-i)):=Q4 λ _ _ _ _ _ q=>neg_int q
end
def Jb:V->V->Bool
 | .non, .non=>true | .non, .int _=>true | .int _, .non=>true | .non, .bl _=>true | .bl _, .non=>true | .non, .str _=>true | .str _, .non=>true
 | .int _, .int _=>true | .bl _, .bl _=>true | .str _, .str _=>true | .byt _, .byt _=>true
 | .int _, .str _=>true | .str _, .int _=>true | .bl _, .str _=>true | .str _, .bl _=>true
 | _,_=>false
def qt:R2:=λ x y H Q=>Jb x y=true/\Q (.bl (decide (x=y))) H
def Dv:R2:=λ x y H Q=>Jb x y=true/\Q (.bl (!decide (x=y))) H
theorem u6 {i j:Int}:decide (V.int i=V.int j)=(i==j):=by
 rw [Ò];simp
theorem wJ {i j:Bool}:decide (V.bl i=V.bl j)=(i==j):=by
 rw [Ò];simp
theorem u9 {i j:Str}:decide (V.str i=V.str j)=(i==j):=by
 rw [Ò];simp
theorem uc {i j:Array UInt8}:decide (V.byt i=V.byt j)=(i.toList==j.toList):=by
 rw [Ò]
 cases i
 cases j;simp
section
variable {X:Cx} {a b c:Expr} {ta tb tc:TE} {pos:Pos}
theorem aU {s:Shared} {Q:VK} {k a:Bool} (I:Inv X pins σ H s) (q:Q (.bl k) H) (e:k=a):EP X pins σ Q (.bool a) s:=by
 subst e;show#[.bl k,H,I,rfl,q]
theorem dY:eY X (compareOp .Eq) qt:=by
 intro d s e H x y v u Q I c a h;let#[b,q]:=h
 cases x with
 | non=>
  cases c
  cases y with
  | non=>cases a;show PySem.EqNone.eq_none_none (aU I q (by simp))
  | bl j=>cases a;show PySem.EqNone.eq_none_bool (aU I q (by simp))
  | int j=>let#[t',rfl]:=a;show PySem.EqNone.eq_none_int (aU I q (by simp))
  | str j=>let#[t',rfl]:=a;show PySem.EqNone.eq_none_str (aU I q (by simp))
  | _=>show absurd (show false=true from b) Zq
 | bl i=>
  cases c
  cases y with
  | non=>cases a;show PySem.EqNone.eq_bool_none (aU I q (by simp))
  | bl j=>cases a;show eq_bool (aU I q wJ)
  | str j=>let#[t',rfl]:=a;show PySem.EqMixed.eq_bool_str (aU I q (by simp))
  | _=>show absurd (show false=true from b) Zq
 | int i=>
  let#[t,rfl]:=c
  cases y with
  | non=>cases a;show PySem.EqNone.eq_int_none (aU I q (by simp))
  | int j=>let#[t',rfl]:=a;show eq_int (aU I q u6)
  | str j=>let#[t',rfl]:=a;show PySem.EqMixed.eq_int_str (aU I q (by simp))
  | _=>show absurd (show false=true from b) Zq
 | str i=>
  let#[t,rfl]:=c
  cases y with
  | non=>cases a;show PySem.EqNone.eq_str_none (aU I q (by simp))
  | bl j=>cases a;show PySem.EqMixed.eq_str_bool (aU I q (by simp))
  | int j=>let#[t',rfl]:=a;show PySem.EqMixed.eq_str_int (aU I q (by simp))
  | str j=>let#[t',rfl]:=a;show eq_str (aU I q u9)
  | _=>show absurd (show false=true from b) Zq
 | byt i=>
  let#[t,rfl]:=c
  cases y with
  | byt j=>let#[t',rfl]:=a;show PySem.W.eq_bytes (aU I q uc)
  | _=>show absurd (show false=true from b) Zq
 | _=>cases y<;>show absurd (show false=true from b) Zq
theorem oU:eY X (compareOp .NotEq) Dv:=by
 intro d s e H x y v u Q I c a h;let#[b,q]:=h
 cases x with
 | non=>
  cases c
  cases y with
  | non=>cases a;show PySem.EqNone.ne_none_none (aU I q (by simp))
  | bl j=>cases a;show PySem.EqNone.ne_none_bool (aU I q (by simp))
  | int j=>let#[t',rfl]:=a;show PySem.EqNone.ne_none_int (aU I q (by simp))
  | str j=>let#[t',rfl]:=a;show PySem.EqNone.ne_none_str (aU I q (by simp))
  | _=>show absurd (show false=true from b) Zq
 | bl i=>
  cases c
  cases y with
  | non=>cases a;show PySem.EqNone.ne_bool_none (aU I q (by simp))
  | bl j=>cases a;show ne_bool (aU I q (Zk not wJ))
  | str j=>let#[t',rfl]:=a;show PySem.EqMixed.ne_bool_str (aU I q (by simp))
  | _=>show absurd (show false=true from b) Zq
 | int i=>
  let#[t,rfl]:=c
  cases y with
  | non=>cases a;show PySem.EqNone.ne_int_none (aU I q (by simp))
  | int j=>let#[t',rfl]:=a;show ne_int (aU I q (Zk not u6))
  | str j=>let#[t',rfl]:=a;show PySem.EqMixed.ne_int_str (aU I q (by simp))
  | _=>show absurd (show false=true from b) Zq
 | str i=>
  let#[t,rfl]:=c
  cases y with
  | non=>cases a;show PySem.EqNone.ne_str_none (aU I q (by simp))
  | bl j=>cases a;show PySem.EqMixed.ne_str_bool (aU I q (by simp))
  | int j=>let#[t',rfl]:=a;show PySem.EqMixed.ne_str_int (aU I q (by simp))
  | str j=>let#[t',rfl]:=a;show ne_str (aU I q (Zk not u9))
  | _=>show absurd (show false=true from b) Zq
 | byt i=>
  let#[t,rfl]:=c
  cases y with
  | byt j=>let#[t',rfl]:=a;show PySem.W.ne_bytes (aU I q (Zk not uc))
  | _=>show absurd (show false=true from b) Zq
 | _=>cases y<;>show absurd (show false=true from b) Zq
theorem Dw:eY X (compareOp .Lt) (vm λ i j=> .bl (decide (i<j))):=Ew λ _ _ _ _ _ _ _ q=>lt_int q
theorem wK:eY X (compareOp .LtE) (vm λ i j=> .bl (decide (i<=j))):=Ew λ _ _ _ _ _ _ _ q=>le_int q
theorem oV:eY X (compareOp .Gt) (vm λ i j=> .bl (decide (j<i))):=Ew λ _ _ _ _ _ _ _ q=>gt_int q
theorem Ez:eY X (compareOp .Is) (λ x y H Q=>y= .non/\Q (.bl (decide (x= .non))) H):=by
 intro a s d H x y v u Q I b c h;let#[rfl,q]:=h
 cases c;refine is_none_gen (aU I q ?_)
 cases x<;>first
  | (cases b;rfl)
  | (let#[t,rfl]:=b;rfl)
theorem ud:eY X (compareOp .IsNot) (λ x y H Q=>y= .non/\Q (.bl (!decide (x= .non))) H):=by
 intro a s d H x y v u Q I b c h;let#[rfl,q]:=h
 cases c;refine isnot_none_gen (aU I q ?_)
 cases x<;>first
  | (cases b;rfl)
  | (let#[t,rfl]:=b;rfl)
theorem aQ (b:Expr) (h:op≠ .In:=by decide) (d:op≠ .NotIn:=by decide):behindInMarks op b=false:=by
 have a:(op==CmpOp.In)=false:=by cases op<;>first | rfl | show absurd rfl h
 have c:(op==CmpOp.NotIn)=false:=by cases op<;>first | rfl | show absurd rfl d
 cases b<;>simp [behindInMarks,a,c]
theorem dJ (i:eY X (compareOp op) r) (e:PE X a ta) (f:PE X b tb) (g:behindInMarks op b=false):PE X (.Compare a [op] [b] pos) (aK r ta tb):=by
 intro c s m H Q I h;show wpAny_Compare1 (Eu e f I h λ v u l x y H2 d j k q=>i c l m H2 x y v u Q d j k q) g
def b7 (t:TE):TT:=λ σ H Q=>t σ H λ x H'=> ∃k,x= .bl k/\Q k H'
theorem aM (o:eY X (compareOp op) r) (l:PE X a ta) (m:PE X b tb) (n:behindInMarks op b=false):PT X (.Compare a [op] [b] pos) (b7 (aK r ta tb)):=by
 intro d s f H Q I h;refine wpAny_isTrue_Compare1 (bA (l d s f H _ I h) λ v C ⟨x,H1,g,w,p⟩=>bA (m d C f H1 _ g p) λ u D ⟨y,H2,i,A,q⟩=>
  bA (o d D f H2 x y v u _ i w A q) λ c E ⟨z,H3,j,B,k,e,t⟩=> ?_) n
 subst e
 cases B;show Xq #[H3,j,t]
def j6 (r r':R2) (ta tb tc:TE):TE:=λ σ H Q=>ta σ H λ x H1=>tb σ H1 λ y H2=>r x y H2 λ z H3=> ∃k,z= .bl k/\
 (if k=true then tc σ H3 λ w' H4=>r' y w' H4 Q else Q (.bl false) H3)
theorem wL (C:eY X (compareOp op) r) (i:eY X (compareOp op') r') (t:PE X a ta) (w:PE X b tb) (A:PE X c tc)
  (B:lastMarks [op,op'] [b,c]=false:=by with_unfolding_all rfl):PE X (.Compare a [op,op'] [b,c] pos) (j6 r r' ta tb tc):=by
 intro f s g H Q I h;refine Compare_chain (bA (t f s g H _ I h) λ v L ⟨x,H1,o,G,D⟩=>chain_link (bA (w f L g H1 _ o D) λ u M ⟨y,H2,p,m,E⟩=>
  bA (C f M g H2 x y v u _ p G m E) λ d N ⟨z,H3,j,J,k,e,l⟩=> ?_)) B
 subst e
 cases J;refine Xq ?_
 cases k with
 | false=>show ite_ff #[.bl false,H3,j,rfl,l]
 | true=>show ite_tt (chain_last (bA (A f N g H3 _ j l) λ P O ⟨R,n,q,K,F⟩=>i f O g n y R u P Q q m K F))
theorem oW (G:eY X (compareOp op) r) (i:eY X (compareOp op') r') (C:PE X a ta) (D:PE X b tb) (E:PE X c tc)
  (F:lastMarks [op,op'] [b,c]=false:=by with_unfolding_all rfl):PT X (.Compare a [op,op'] [b,c] pos) (b7 (j6 r r' ta tb tc)):=by
 intro f s g H Q I h;refine isTrue_chain (bA (C f s g H _ I h) λ v T ⟨x,H1,p,O,K⟩=>test_link (bA (D f T g H1 _ p K) λ u U ⟨y,H2,q,m,L⟩=>
  bA (G f U g H2 x y v u _ q O m L) λ d W ⟨z,H3,j,P,k,e,l⟩=> ?_)) F
 subst e
 cases P;refine Xq ?_
 cases k with
 | false=>
  let#[k',A,J]:=l
  cases A;show ite_ff #[H3,j,J]
 | true=>
  refine ite_tt (test_last (bA (E f W g H3 _ j l) λ Z Y ⟨z',n,t,R,M⟩=>bA (i f Y g n y z' u Z _ t m R M) λ d' s5 ⟨z2,o,w,S,k2,B,N⟩=> ?_));subst B
  cases S;show Xq #[o,w,N]
def wM (K:W.Frag) (x:V) (H:Hp) (k:Bool):Prop:=
 match x with
 | .non=>k=false
 | .bl b=>k=b
 | .int i=>k=(i !=0)
 | .str y=>y.length<=sizeLine/\k=((y.length:Int)!=0)
 | .byt y=>y.size<=sizeLine/\k=((y.size:Int)!=0)
 | .ref p=>(∃xs,SqL K H p xs/\k= !xs.isEmpty)\/(∃xs,SqT K H p xs/\k= !xs.isEmpty)\/ ∃kvs,H p=some (.dK kvs)/\k= !kvs.isEmpty
 | _=>False
theorem qM {a:Type} {kvs:List (a×V)} {vs:List (a×Value)} (r:KV kvs vs):(!vs.isEmpty)= !kvs.isEmpty:=by
 cases r<;>rfl
theorem jM {xs:List V} (r:Vals xs its):(!its.toArray.isEmpty)= !xs.isEmpty:=by
 cases r<;>simp
theorem j7:(sizeLine:Nat)<2^63:=by rw [Xc];decide
theorem EY:Mv X (λ x H Q=> ∃k,wM X.K x H k/\Q k H):=by
 intro j s z H x v Q I d h;let#[k,e,q]:=h;have o:=j7;have u:sizeLine=16777216:=Xc
 cases x with
 | non=>
  cases d;have a:k=false:=e;subst a;show truthy_none #[H,I,q]
 | bl b=>
  cases d;have a:k=b:=e;subst a;show Xq #[H,I,q]
 | int i=>
  let#[t,rfl]:=d;have a:k=(i !=0):=e;subst a;show PySem.P.truthy_int #[H,I,q]
 | str y=>
  let#[t,rfl]:=d;let#[n,a]:y.length<=sizeLine/\k=((y.length:Int)!=0):=e;subst a;show PySem.P.truthy_str () #[H,I.tok _,q]
 | byt y=>
  let#[t,rfl]:=d;let#[n,a]:y.size<=sizeLine/\k=((y.size:Int)!=0):=e;subst a;show PySem.W.truthy_bytes () #[H,I.tok _,q]
 | ref p=>
  cases d;have a:(∃xs,SqL X.K H p xs/\k= !xs.isEmpty)\/(∃xs,SqT X.K H p xs/\k= !xs.isEmpty)\/ ∃kvs,H p=some (.dK kvs)/\k= !kvs.isEmpty:=e;rcases a with ⟨xs,hx,a⟩ | ⟨xs,hx,a⟩ | ⟨kvs,hx,a⟩
  .subst a;let#[f,r,pl,g]:=I.list hx;have c:=r.length;show wpAny_truthy_list pl.isList (by simp only [Zs];rfl') #[H,I.tok _,by rw [jM r];show q]
  .subst a;let#[f,r,pl,g]:=I.tuple hx;have c:=r.length;show truthy_tuple pl (by simp only [Zs];rfl') #[H,I.tok _,by rw [jM r];show q]
  .subst a;let#[g,l,vs,r,m]:kvs.length<=sizeLine/\(p==sysModules)=false/\ ∃vs,KV kvs vs/\s.heap.DictOf (aY X.prog X.w) p vs:=I.hok p _ hx;have c:kvs.length=vs.length:=Ì r;show wpAny_truthy_dict l m () #[H,I.tok _,by rw [qM r];show q]
 | _=>show(show False from e).elim
theorem wN (e:PE X a ta) (f: ∀b,isTrue a X.env b=(do let v <- b;standAt a.pos;holding [v] (truthy v))):
  PT X a (λ σ H Q=>ta σ H λ x H'=> ∃k,wM X.K x H' k/\Q k H'):=by
 intro c s σ H Q I h;show isTrue_plain (bA (e c s σ H _ I h) λ v j ⟨x,H1,d,i,g⟩=>EY c j σ H1 x v Q d i g) (f _)
theorem dz:eY X (binaryOp .Add) (λ x y H Q=> ∃i j,x= .str i/\y= .str j/\i.length+j.length<=sizeLine/\Q (.str (i++j)) H):=by
 intro a s f H x y v u Q I c d h;let#[i,j,rfl,rfl,b,q]:=h;let#[t,rfl]:=c;let#[t',rfl]:=d;show add_str (λ t' e=>#[.str (i++j),H,I.tok _,#[_,rfl],q]) b
theorem vals1 {x:V} (r:Vals [x] us): ∃u,us=[u]/\RelV x u:=by
 cases r with
 | cons r1 r2=>cases r2;show#[_,rfl,r1]
theorem vals2 {x:V} (r:Vals [x,y] us): ∃u a,us=[u,a]/\RelV x u/\RelV y a:=by
 cases r with
 | cons r1 r2=>
  cases r2 with
  | cons r3 r4=>cases r4;show#[_,_,rfl,r1,r3]
theorem vo (c:X.calm=true):bM X (.builtin "max") (λ xs H Q=> ∃i j,xs=[.int i, .int j]/\Q (.int (if j>i then j else i)) H):=by
 intro b s f H xs us Q I r h;let#[i,j,rfl,q]:=h;let#[u,e,rfl,#[t,rfl],#[t',rfl]]:=vals2 r;refine max_two_ints (I.ok.hd c) λ h' d k=>#[_,H,I.kept k,?_,q]
 by_cases a:j>i
 .rw [if_pos a,if_pos a];show#[_,rfl]
 .rw [if_neg a,if_neg a];show#[_,rfl]
theorem wO:bM X (.builtin "ord") (λ xs H Q=> ∃x,xs=[.str x]/\x.length=1/\Q (.int (x.cps.getD 0 0:Nat)) H):=by
 intro a s c H xs us Q I r h;let#[x,rfl,b,q]:=h;let#[u,rfl,t,rfl]:=vals1 r;show ord_of_one b #[.int _,H,I.tok _,#[_,rfl],q]
def Jc (K:W.Frag) (x:V) (H:Hp) (n:Nat):Prop:=
 match x with
 | .str y=>y.length<=sizeLine/\n=y.length
 | .byt y=>y.size<=sizeLine/\n=y.size
 | .ref p=>(∃xs,SqL K H p xs/\n=xs.length)\/ ∃xs,SqT K H p xs/\n=xs.length
 | _=>False
theorem wQ:bM X (.builtin "len") (λ xs H Q=> ∃x n,xs=[x]/\Jc X.K x H n/\Q (.int n) H):=by
 intro g s m H xs us Q I r h;let#[x,n,rfl,e,q]:=h;let#[u,rfl,f]:=vals1 r;have k:=j7;have l:sizeLine=16777216:=Xc
 cases x with
 | str y=>
  let#[t,rfl]:=f;let#[i,b]:y.length<=sizeLine/\n=y.length:=e;subst b;show len_str () #[.int _,H,I.tok _,#[_,rfl],q]
 | byt y=>
  let#[t,rfl]:=f;let#[i,b]:y.size<=sizeLine/\n=y.size:=e;subst b;show PySem.W.len_bytes () #[.int _,H,I.tok _,#[_,rfl],q]
 | ref p=>
  cases f;have b:(∃xs,SqL X.K H p xs/\n=xs.length)\/ ∃xs,SqT X.K H p xs/\n=xs.length:=e;rcases b with ⟨xs,hx,b⟩ | ⟨xs,hx,b⟩
  .subst b;let#[c,d,pl,j]:=I.list hx;have a:=d.length;show Calls.call_len_list pl.isList (by simp only [Zs];rfl') #[.int xs.length,H,I.tok _,#[_,by simp only [Zs];rw [a]],q]
  .subst b;let#[c,d,pl,j]:=I.tuple hx;have a:=d.length;show len_tuple pl (by simp only [Zs];rfl') #[.int xs.length,H,I.tok _,#[_,by simp only [Zs];rw [a]],q]
 | _=>show(show False from e).elim
end
structure ObjM (h:Heap) (x dx C:Addr) (mA:Str->Option Value):Prop where
 obj:h.get? x=some (PySem.W.instObj C dx)
 ns:h.Ns1 dx mA
 ne:dx≠x
theorem vp {h:Heap} (n:h.Ns1 dx mA): ∃od,h.get? dx=some od/\ ∀name,PySem.W.lookIn name od=some (mA name):=by
 let#[o,c,ep,j,f,g,_,i]:=n;refine#[o,j,λ name=> ?_];have e:=i name;unfold nsFind findBy at e;rw [<- Array.find?_toList] at e;unfold PySem.W.lookIn;rw [f];dsimp only;split
 .rename_i y q;rw [q] at e;show Zk some e
 .rename_i q;rw [q] at e;have a:c.toList.any (·.refKey)=false:=by
   rw [List.any_eq_false];intro y k;let#[z,t,b]:=g y (Array.mem_toList_iff.mp k);simp [DictEntry.refKey,b]
  have d: ¬c.toList.any (·.refKey)=true:=by rw [a];show Zq
  rw [if_neg d];show Zk some e
theorem ObjM.look {h:Heap} {x C:Addr} (I:ObjM h x dx C mA): ∃od,PySem.W.InstAt h x (PySem.W.instObj C dx) C (some od)/\ ∀name,PySem.W.lookIn name od=some (mA name):=
 let ⟨od,ho,hl⟩:=vp I.ns
 #[od,#[I.obj,rfl,rfl,ho],hl]
theorem RelO.some_of {o:Option Value} (r:RelO (some v) o): ∃u,o=some u/\RelV v u:=by
 cases o with
 | none=>show(show False from r).elim
 | some u=>show#[u,rfl,r]
section
variable {P:Program} {w:World} {H H':Hp} {h h':Heap} {a C dx:Addr} {fs fs':List (Str×V)}
theorem Bt (b:HOk P w H h) (e:H a=some (.ins C dx fs)): ∃mA,ObjM h a dx C mA/\(∀f,RelO (fs.lookup f) (mA f))/\PySem.Within mA (fs.map (·.1))/\fs.length<=1000/\H dx=some (.own a):=by
 let#[d,z,c,ob,mA,n,r,q]:=(show ObjOk P w H h a (.ins C dx fs) from b a _ e);show#[mA,#[ob,n,c],r,q,z,d]
end
structure Cls (K:W.Frag) (C:Addr):Prop where
 pg:PySem.W.plainGet K C Str.empty=true
 hd:PySem.W.hasDictIn K C=true
 po:PySem.W.plainOver K C=true
 sa:PySem.W.findIn K (.ref C) "__setattr__"=some (some (.builtin "object.__setattr__"))
theorem Cls.get {K:W.Frag} {C:Addr} (c:Cls K C) (f:Str):PySem.W.plainGet K C f=true:=c.pg
def Fb (K:W.Frag) (C:Addr) (f:Str):Prop:=PySem.W.findIn K (.ref C) f=some none
structure Con (K:W.Frag) (C:Addr) (f:Str) (v:V) (u:Value):Prop where
 at_:PySem.W.findIn K (.ref C) f=some (some u)
 rel:RelV v u
 get:PySem.W.specialIn K u "__get__"=some none
 cp:PySem.W.copiedNames.contains f=false
structure Meth (K:W.Frag) (C:Addr) (m:Str) (f:Addr):Prop where
 at_:PySem.W.findIn K (.ref C) m=some (some (.ref f))
 fn:PySem.W.isFn K (.ref f)=true
 kp:W.keepIn K (.ref f)=true
def Q5 (K:W.Frag) (ta:TE) (f:Str):TE:=λ σ H Q=>ta σ H λ x H1=> ∃a C dx fs v,x= .ref a/\H1 a=some (.ins C dx fs)/\Cls K C/\Fb K C f/\fs.lookup f=some v/\Q v H1
section
variable {X:Cx} {pins:List (Addr×Obj)} {σ:St} {H:Hp} {s:Shared} {A:Around} {E:Value->Shared->Prop} {Q:Value->Shared->Prop} {c:Value} {b:Bool}
inductive TyOf (K:W.Frag) (H:Hp):V->Value->Prop where
 | non:TyOf K H .non (.type "NoneType")
 | bl (x:Bool):TyOf K H (.bl x) (.type "bool")
 | int (i:Int):TyOf K H (.int i) (.type "int")
 | str (x:Str):TyOf K H (.str x) (.type "str")
 | flt (x:UInt64):TyOf K H (.flt x) (.type "float")
 | lst {a:Addr} {xs:List V} (e:H a=some (.lst xs)):TyOf K H (.ref a) (.type "list")
 | frz {a:Addr} {o:Obj} {xs:List V} (e:H a=some (.frz o (.lst xs))):TyOf K H (.ref a) (.type "list")
 | tup {a:Addr} {xs:List V} (e:H a=some (.tup xs)):TyOf K H (.ref a) (.type "tuple")
 | dK {a:Addr} {kvs:List (Key×V)} (e:H a=some (.dK kvs)):TyOf K H (.ref a) (.type "dict")
 | dT {a:Addr} {kvs:List (List Key×V)} (e:H a=some (.dT kvs)):TyOf K H (.ref a) (.type "dict")
 | ins {a C dx:Addr} {fs:List (Str×V)} (e:H a=some (.ins C dx fs)) (cl:Cls K C) (ha:PySem.W.findIn K (.ref C) "__class__"=some (some (.builtin "object.__class__")))
   (hn:PySem.W.specialIn K (.builtin "object.__class__") "__get__"=some (some (.builtin "getset_descriptor.__get__"))) (htk:PySem.W.takesIn K (.builtin "object.__class__")=some true)
   (hm:PySem.W.mroIn K C (.type "object")=some true):TyOf K H (.ref a) (.ref C)
theorem vq {x:V} {t:Value} (I:Inv X pins σ H s) (d:RelV x u) (k:TyOf X.K H x t) (e:PySem.W.kitOne X.K t c=some b) (h: ∀tk,Q (.bool b) { s with toks:=tk }):
  wpAny (model X.prog X.w) A (call (.builtin "isinstance") [u,c]) Q E s:=by
 cases k with
 | non=>cases (show u=Value.none from d);show Xe PySem.W.kitx_none I.kIn True.intro e (λ z=>nomatch z) h
 | bl y=>cases (show u=Value.bool y from d);show Xe PySem.W.kitx_bool I.kIn True.intro e (λ z=>nomatch z) h
 | int i=>let#[t,q]:=(show ∃t,u=Value.int i t from d);cases q;show Xe PySem.W.kitx_int I.kIn True.intro e (λ z=>nomatch z) h
 | str y=>let#[t,q]:=(show ∃t,u=Value.str y t from d);cases q;show Xe PySem.W.kitx_str I.kIn True.intro e (λ z=>nomatch z) h
 | flt y=>let#[t,q]:=(show ∃t,u=Value.float y t from d);cases q;show Xe PySem.W.kitx_float I.kIn True.intro e (λ z=>nomatch z) h
 | @lst a xs ea=>
  cases (show u=Value.ref a from d);let#[_,_,n,_,f]:=(show ObjOk X.prog X.w H s.heap a (.lst xs) from I.hok a _ ea);show Xe PySem.W.kitx_list I.kIn #[_,f,rfl] e (λ z=>nomatch z) h
 | @frz a ob xs ea=>
  cases (show u=Value.ref a from d);let#[_,_,_,n,_,f]:=(show ObjOk X.prog X.w H s.heap a (.frz ob (.lst xs)) from I.hok a _ ea);show Xe PySem.W.kitx_list I.kIn #[_,f,rfl] e (λ z=>nomatch z) h
 | @tup a xs ea=>
  cases (show u=Value.ref a from d);let#[_,_,_,p]:=(show ObjOk X.prog X.w H s.heap a (.tup xs) from I.hok a _ ea);let#[o,f,g,_]:=p;show Xe PySem.W.kitx_tuple I.kIn #[o,f,g] e (λ z=>nomatch z) h
 | @dK a kvs ea=>
  cases (show u=Value.ref a from d);let#[_,_,vs,_,p]:=(show ObjOk X.prog X.w H s.heap a (.dK kvs) from I.hok a _ ea);let#[o,j,ep,f,g,_]:=p;show Xe PySem.W.kitx_dict I.kIn #[o,f,g.1] e (λ z=>nomatch z) h
 | @dT a kvs ea=>
  cases (show u=Value.ref a from d);let#[_,_,xs,_,o,j,ep,f,g,_]:=(show ObjOk X.prog X.w H s.heap a (.dT kvs) from I.hok a _ ea);show Xe PySem.W.kitx_dict I.kIn #[o,f,g.1] e (λ z=>nomatch z) h
 | @ins a C dx fs ea cl ha hn htk hm=>
  cases (show u=Value.ref a from d);let#[l,O,_]:=Bt I.hok ea;let#[m,J,_]:=O.look;show Xe (PySem.W.kitx_own (cl.get _) cl.hd ha hn htk hm) I.kIn J e (λ z=>nomatch z) h
end
structure Room (k:Nat) (A:Around):Prop where
 hd:A.handled=none
 dp:A.depth+3*k+5<recursionLimit
 un:A.units+16*k+200<cLine
theorem Room.mono (r:Room k A) (h:j<=k):Room j A:=#[r.hd,by have:=r.dp;rfl',by have:=r.un;rfl']
theorem Room.deeper (r:Room (k+1) A) (env:Env):Room k (A.deeper env):=
 #[r.hd,by have:=r.dp;change A.depth+1+3*k+5<_;rfl',by have:=r.un;change A.units+3+16*k+200<_;rfl']
theorem Room.depth (r:Room k A):A.depth<recursionLimit:=by have:=r.dp;rfl'
theorem Room.units (r:Room k A):A.units+64<cLine:=by have:=r.un;rfl'
def au:TA:=λ _ H Q=>Q [] H
def aa (ta:TE) (tr:TA):TA:=λ σ H Q=>ta σ H λ x H1=>tr σ H1 λ xs H2=>Q (x::xs) H2
section
variable {X:Cx} {e:Expr} {es:List Expr} {te:TE} {t:TA} {pos:Pos}
theorem bB:PA X [] au:=λ _ _ _ _ H Q I h=>Ú #[[],H,I, .nil,h]
theorem cu (f:PE X e te) (g:PA X es t) (i:starEach (e::es) X.env=(false,eval e X.env)::starEach es X.env:=by rfl):PA X (e::es) (aa te t):=by
 intro pos a s b H Q I h;rw [i];change wpAny _ _ (spliced ((false,eval e X.env)::backTo pos (starEach es X.env))) _ _ s;refine Wq (bA (f a s b H _ I h) λ u n ⟨x,H1,c,l,j⟩=> ?_);show bA (g pos a n b H1 _ c j) λ us o ⟨xs,H2,d,m,k⟩=>#[x::xs,H2,d, .cons l m,k]
def dH (t:TA):TE:=λ σ H Q=>t σ H λ xs H1=>xs.length<=sizeLine/\ ∀p,H1 p=none->Q (.ref p) (upd H1 p (.tup xs))
def cC (t:TA):TE:=λ σ H Q=>t σ H λ xs H1=>xs.length<=sizeLine/\ ∀p,H1 p=none->Q (.ref p) (upd H1 p (.lst xs))
theorem bN {x1} (h:PA X es t):PE X (.Tuple es x1 pos) (dH t):=by
 intro a s i H Q I g;refine wpAny_Tuple_spliced (bA (h pos a s i H _ I g) λ us c ⟨xs,H1,d,r,z,q⟩=>#[by rw [<- r.length];show z,?_]);have f:H1 c.heap.objs.size=none:=d.hok.fresh (Zo _);refine#[.ref c.heap.objs.size,upd H1 c.heap.objs.size (.tup xs),d.laid (t':=c.toks) (λ b u e=>Zd _ e) (Zo _) ?_,rfl,q _ f];show#[z,us,r,#[_,Zw _ rfl,rfl,_,rfl]]
theorem b8 (h:PA X es t):PE X (.List es pos) (cC t):=by
 intro a s i H Q I g;refine wpAny_List_spliced (bA (h pos a s i H _ I g) λ us c ⟨xs,H1,d,r,z,q⟩=>#[by rw [<- r.length];show z,?_]);have f:H1 c.heap.objs.size=none:=d.hok.fresh (Zo _);refine#[.ref c.heap.objs.size,upd H1 c.heap.objs.size (.lst xs),d.laid (t':=c.toks) (λ b u e=>Zd _ e) (Zo _) ?_,rfl,q _ f];show#[z,us,0,r,Zw _ rfl]
end
abbrev Sp:=List V->Hp->VK->XK->Prop
abbrev wg:=List Env->Hp->Shared->XK->Value->Shared->Prop
variable {CX:wg}
structure Env0 (P:Program) (w:World) (K:W.Frag) (mg:Str->Option Value) (base:Heap) (A:Around) (outer:List Env) (s:Shared) (H:Hp):Prop where
 frames:A.frames=some outer
 mod:Mod K mg base
 bs: ∀b o,base.get? b=some o->s.heap.get? b=some o/\H b=none
 bsz:base.objs.size<=s.heap.objs.size
 funs:s.heap.FunFrames base outer
 frf: ∀b∈frs outer,H b=none
 hok:HOk P w H s.heap
 bare:AllBare s.gens
def CE (outer:List Env) (P:Program) (w:World) (H:Hp) (s:Shared) (Q:VK) (u:Value) (s':Shared):Prop:=
 ∃v H',s'.os=s.os/\AllBare s'.gens/\Un (frs outer) [] H H' s.heap s'.heap/\HOk P w H' s'.heap/\RelV v u/\Q v H'
def CR (CX:wg) (outer:List Env) (P:Program) (w:World) (H:Hp) (s:Shared) (Q:VK) (E:XK) (r:Result) (s':Shared):Prop:=
 match r with
 | .ok (.ret u)=>CE outer P w H s Q u s'
 | .ok _=>False
 | .error e=>CX outer H s E e s'
structure FnOk (P:Program) (w:World) (K:W.Frag) (mg:Str->Option Value) (base:Heap) (CX:wg) (k:Nat) (f:Addr) (fd:FuncData) (ps:List Str) (sp:Sp):Prop where
 len: ∀vs H Q E,sp vs H Q E->vs.length=ps.length
 run: ∀ (A:Around) (outer:List Env) (s:Shared) (H:Hp) (args:Args) (us:List Value) (vs:List V) (Q:VK) (E:XK),Room k A->Env0 P w K mg base A outer s H->BindsTo s fd args (ps.zip us)->Vals vs us->sp vs H Q E->
  codeAny (model P w) A (.call (.ref f) args) (CR CX outer P w H s Q E) s
section
variable {X:Cx} {pins:List (Addr×Obj)} {σ:St} {H:Hp} {s s':Shared}
theorem Inv.env0 (I:Inv X pins σ H s):Env0 X.prog X.w X.K X.mg X.base X.A X.stack s H:=
 #[I.ok.frames,I.ok.mod,I.bs,Zy I.ok.bsz I.sz,I.stack,I.stkFree,I.hok,I.bare]
theorem Inv.after {Q:VK} (I:Inv X pins σ H s) (h:CE X.stack X.prog X.w H s Q u s'):EP X pins σ Q u s':=by
 let#[v,f,j,a,un,c,r,q]:=h;let#[i,g,d,t,e]:=s';obtain rfl:e=s.os:=j;show#[v,f,I.call (h':=i) (g':=g) (d':=d) (t':=t) (ch:=[]) un c a (λ b z=>absurd z (by simp)),r,q]
end
def aJ (sp:Sp) (dvs:List V) (E:XK) (t:TA):TE:=λ σ H Q=>t σ H λ vs H1=>sp (vs++dvs) H1 Q E
def Od (C:Addr) (m:Str) (sp:Sp) (dvs:List V) (E:XK) (ta:TE) (t:TA):TE:=λ σ H Q=>ta σ H λ x H1=> ∃a dx fs,x= .ref a/\H1 a=some (.ins C dx fs)/\fs.lookup m=none/\
 t σ H1 λ vs H2=>sp (x::(vs++dvs)) H2 Q E
def Oe (C:Addr) (sp:Sp) (dvs:List V) (E:XK) (t:TA):TE:=λ σ H Q=>t σ H λ vs H1=> ∀x dx,H1 x=none->H1 dx=none->dx≠x->
 sp (.ref x::(vs++dvs)) (upd (upd H1 dx (.own x)) x (.ins C dx [])) (λ v H2=>v= .non/\Q (.ref x) H2) E
def Binds (K:W.Frag) (fd:FuncData) (ps:List Str) (ds:List Value):Prop:=
 ∀ (s:Shared) (us:List Value),K.In s.heap->(us++ds).length=ps.length->BindsTo s fd #[us,[]] (ps.zip (us++ds))
theorem Binds.all {K:W.Frag} {a:List Str} (h: ∀us:List Value,us.length=a.length->bindArgs fd #[us,[]]=pure (a.zip us)):Binds K fd a []:=λ s us _ b=>by
 rw [è] at b ⊢;show .of_eq (h us b)
def dR (CX:wg) (X:Cx) (E:XK):Prop:= ∀ (pins:List (Addr×Obj)) (σ:St) (H:Hp) (s:Shared) (e:Value) (s':Shared),Inv X pins σ H s->CX X.stack H s E e s'->X.xe e s'
section
variable {X:Cx} {CX:wg} {k:Nat} {f C:Addr} {fd:FuncData} {ps:List Str} {sp:Sp} {dvs:List V} {ds:List Value} {E:XK} {x m:Str} {p pos apos:Pos} {e o:Expr} {es:List Expr} {ta:TE} {t:TA}
theorem wR {s:Shared} {Q:VK} {vs:List V} (F:FnOk X.prog X.w X.K X.mg X.base CX k f fd ps sp) (i:Room k X.A) (c:Binds X.K fd ps ds) (d:Vals dvs ds) (j:dR CX X E)
  (I:Inv X pins σ H s) (r:Vals vs us) (h:sp (vs++dvs) H Q E):wpAny (model X.prog X.w) X.A (call (.ref f) us) (EP X pins σ Q) X.xe s:=by
 have b:Vals (vs++dvs) (us++ds):=r.append d;have g:(us++ds).length=ps.length:=by rw [<- b.length];show F.len _ _ _ _ h
 refine wpAny_call (ë (F.run X.A X.stack s H #[us,[]] (us++ds) (vs++dvs) Q E i I.env0 (c s us I.kIn g) b h) λ r s' a=> ?_)
 cases r with
 | error e=>show j pins σ H s e s' I a
 | ok fl=>
  cases fl with
  | ret u=>show I.after a
  | next=>show False.elim a
  | brk=>show False.elim a
  | cont=>show False.elim a
theorem ue (F:FnOk X.prog X.w X.K X.mg X.base CX k f fd ps sp) (u:Room k X.A) (m:Gl X x) (o:X.mg x=some (.ref f)) (n:W.keepIn X.K (.ref f)=true) (i:Binds X.K fd ps ds) (j:Vals dvs ds) (v:dR CX X E)
  (g:PA X (e::es) t) (b:(x==("__debug__":Str))=false:=by decide) (l:starEach (e::es) X.env=(false,eval e X.env)::starEach es X.env:=by rfl) (c:(backTo pos (starEach es X.env)).any (·.1)=false:=by rfl):
  PE X (.Call (.Name x p) (e::es) [] pos) (aJ sp dvs E t):=by
 intro a s y H Q I h;refine Xx (dI I m o ?_ b);refine PySem.W.callWith_K (h₀:=X.base) I.ok.mod.kin n (bA (g pos a s y H _ I h) λ us z ⟨vs,H1,d,r,q⟩=>#[d.kIn,?_]) l c;show wR F u i j v d r q
theorem wU (F:FnOk X.prog X.w X.K X.mg X.base CX k f fd ps sp) (j:Room k X.A) (e:Gl X x) (i:X.mg x=some (.ref f)) (g:W.keepIn X.K (.ref f)=true) (c:Binds X.K fd ps ds) (d:Vals dvs ds) (l:dR CX X E)
  (a:(x==("__debug__":Str))=false:=by decide):PE X (.Call (.Name x p) [] [] pos) (aJ sp dvs E au):=by
 intro b s m H Q I h;refine Xx (dI I e i ?_ a);show PySem.W.callWith_K0 I.kIn g (wR (us:=[]) F j c d l I .nil h)
structure Mk (K:W.Frag) (C f:Addr):Prop where
 makes:PySem.W.makesIn K C=true
 init:PySem.W.findIn K (.ref C) "__init__"=some (some (.ref f))
 fn:PySem.W.isFn K (.ref f)=true
 kp:W.keepIn K (.ref C)=true
end
section
variable {X:Cx} {CX:wg} {k:Nat} {f C:Addr} {fd:FuncData} {ps ks:List Str} {sp:Sp} {E:XK} {x m:Str} {p pos apos kpos:Pos} {e o:Expr} {es:List Expr} {kws:List Keyword} {te ta:TE} {t tk:TA} {nm:Option Str}
structure KBinds (K:W.Frag) (fd:FuncData) (ps ks:List Str) (g:List Value->List Value->List Value) (gV:List V->List V->List V):Prop where
 to: ∀ (s:Shared) (us ws:List Value),K.In s.heap->(g us ws).length=ps.length->BindsTo s fd #[us,ks.zip ws] (ps.zip (g us ws))
 rel: ∀ {vs:List V} {us:List Value} {zs:List V} {ws:List Value},Vals vs us->Vals zs ws->Vals (gV vs zs) (g us ws)
variable {g:List Value->List Value->List Value} {gV:List V->List V->List V}
end
structure FnScope (N P:List Str) (sc:Scope):Prop where
 kind:sc.kind= .function
 co:sc.isCoroutine=false
 gen:sc.isGenerator=false
 nd:N.Nodup
 pre:N.take P.length=P
 par: ∀x∈P,sc.names.lookup x=some .local\/sc.names.lookup x=some .cell
 nofree: ∀y∈sc.names,y.2≠ .free
theorem lJ {a:Str->Option NameKind} {x:Str}: ∀ {binds:List (Str×Value)} {m:Str->Option Value},(∀v,(x,v)∉binds)->bindL a binds m x=m x
 | [],_,_=>rfl
 | (n,v)::r,m,h=>by
  unfold bindL;rw [lJ λ w b=>h w (Zu _ b)];split
  .have:x≠n:=by rintro rfl;show h v Zp
   simp [this]
  .rfl
theorem lK {a:Str->Option NameKind} {x:Str}: ∀ {binds:List (Str×Value)} {m:Str->Option Value},(∀v,(x,v)∉binds)->bindC a binds m x=m x
 | [],_,_=>rfl
 | (n,v)::r,m,h=>by
  unfold bindC;rw [lK λ w b=>h w (Zu _ b)];split
  .rfl
  .have:x≠n:=by rintro rfl;show h v Zp
   simp [this]
theorem lM {a:Str->Option NameKind} {x:Str} {v:Value}: ∀ {P:List Str} {vs:List Value} {i:Nat} {m:Str->Option Value},P.Nodup->P[i]? =some x->vs[i]? =some v->a x=some .local->
  bindL a (P.zip vs) m x=some v
 | [],_,_,_,_,h,_,_=>by simp at h
 | _::_,[],_,_,_,_,h,_=>by simp at h
 | p::P,w::vs,0,m,nd,h1,h2,hk=>by
  simp at h1 h2;subst h1;subst h2;change bindL a ((p,w)::P.zip vs) m p=_;unfold bindL;rw [lJ λ v b=>(Ym.mp nd).1 (ă b).1,if_pos hk];simp
 | p::P,w::vs,i+1,m,nd,h1,h2,hk=>by
  change bindL a ((p,w)::P.zip vs) m x=_;unfold bindL;show lM (i:=i) (Ym.mp nd).2 (by simpa using h1) (by simpa using h2) hk
theorem lN {a:Str->Option NameKind} {x:Str} {v:Value}: ∀ {P:List Str} {vs:List Value} {i:Nat} {m:Str->Option Value},P.Nodup->P[i]? =some x->vs[i]? =some v->a x≠some .local->
  bindC a (P.zip vs) m x=some v
 | [],_,_,_,_,h,_,_=>by simp at h
 | _::_,[],_,_,_,_,h,_=>by simp at h
 | p::P,w::vs,0,m,nd,h1,h2,hk=>by
  simp at h1 h2;subst h1;subst h2;change bindC a ((p,w)::P.zip vs) m p=_;unfold bindC;rw [lK λ v b=>(Ym.mp nd).1 (ă b).1,if_neg hk];simp
 | p::P,w::vs,i+1,m,nd,h1,h2,hk=>by
  change bindC a ((p,w)::P.zip vs) m x=_;unfold bindC;show lN (i:=i) (Ym.mp nd).2 (by simpa using h1) (by simpa using h2) hk
def start (N:List Str) (vs:List V):St:=vs.map some++List.replicate (N.length-vs.length) none
def gZ (CX:wg) (P:Program) (w:World) (K:W.Frag) (mg:Str->Option Value) (base:Heap) (N:List Str) (qual:Str) (scope:Scope) (f:Addr) (cd:Value) (A:Around) (outer:List Env) (s:Shared) (H:Hp) (E:XK):Cx where
 prog:=P
 w:=w
 K:=K
 mg:=mg
 base:=base
 A:=A.deeper (envOfC qual scope s.heap.objs.size f cd)
 N:=N
 s₀:=s
 H₀:=H
 env:=envOfC qual scope s.heap.objs.size f cd
 outer:=outer
 stack:=envOfC qual scope s.heap.objs.size f cd::outer
 ex:=[]
 calm:=true
 fn:=λ _=>true
 pn:=[]
 xe:=λ e s'=>wpAny (model P w) (A.deeper (envOfC qual scope s.heap.objs.size f cd)) (leaving (envOfC qual scope s.heap.objs.size f cd) e) (λ _ s''=>CX outer H s E e s'') (λ e' s''=>CX outer H s E e' s'') s'
theorem oX (h:sc.names.lookup x=some .cell): ∃c,(cellsFrom n sc.names []).lookup x=some c:=by
 have q:=PySem.W.cellsFrom_some sc.names n [] (.inl h);show Option.isSome_iff_exists.mp q
theorem vy {P:Program} {K:W.Frag} {base:Heap} {N m:List Str} {f:Addr} {s:Shared} {E:XK} {vs:List V}
  (S:FnScope N m scope) (I:A.handled=none) (g:Env0 P w K mg base A outer s H) (O:vs.length=m.length) (r:Vals vs us)
  (x:InCallC s s.heap.objs.size (bindL (envOfC qual scope s.heap.objs.size f cd).kindOf (m.zip us) λ _=>none) (cellsFrom (s.heap.objs.size+1) scope.names []) (bindC (envOfC qual scope s.heap.objs.size f cd).kindOf (m.zip us) λ _=>none) s1):
  Inv (gZ CX P w K mg base N qual scope f cd A outer s H E) [] (start N vs) H s1:=by
 have J:m.length<=N.length:=by have:=Zk List.length S.pre;rw [Yp] at this;rfl'
 let#[B,Q,rfl,D]:=x.done;have l: ∀b:Addr,b∉(gZ CX P w K mg base N qual scope f cd A outer s H E).ex:=λ b z=>absurd (show b∈([]:List Addr) from z) (by simp)
 refine⟨⟨g.mod,S.kind,rfl,rfl,Zo _,λ y z c B d=> ?_,λ y j=> ?_,λ y c _ h=> ?_,λ _=>I,Around.frames_deeper g.frames, .inr ⟨rfl,rfl⟩,λ b z=>absurd z (l b),g.bs,g.bsz,λ b _ _=>l b,λ b z=>absurd z (l b),g.funs,g.frf⟩,
  rfl,g.bare,Un.kept D,⟨_,x.toInCall.ns,λ i y v B d M=> ?_⟩,λ y c h=>⟨_,x.cell y c h⟩,g.hok.fresh (Zo _),λ y c h=> ?_,λ p o=>absurd (show p∈([]:List (Addr×Obj)) from o) (by simp),g.hok.kept D,?_⟩
 .exact name_of_addr x.apart (Wm B) (Wm d)
 .have j:scope.names.lookup y=some .cell\/scope.names.lookup y=some .free:=j;rcases j with j | j
  .exact oX j
  .exact absurd rfl (S.nofree _ (Wm j))
 .exact Xu (x.above y c (Wm h))
 .have C:i<vs.length:=by
   unfold start at d;by_cases C:i<vs.length
   .exact C
   .rw [Xd (by simpa using C)] at d;rw [List.getElem?_replicate] at d;split at d<;>cases d
  have G:vs[i]? =some v:=by
   unfold start at d;rw [Yx (by simpa using C),Zm] at d
   cases e:vs[i]? with
   | none=>rw [e] at d;cases d
   | some a=>rw [e] at d;cases d;rfl
  let#[u,F,L]:=r.get G;have o:m[i]? =some y:=by
   rw [<- S.pre,List.getElem?_take_of_lt ()];show B
  have t:m.Nodup:=by rw [<- S.pre];show S.nd.sublist (Á _ _)
  refine#[u,L,?_];rcases S.par y (Zg o) with k | k
  .exact .inl #[k,lM t o F k]
  .obtain ⟨c,e⟩:=oX (n:=s.heap.objs.size+1) k;refine .inr #[.inl k,c,e,?_];have q:=x.cell y c e;rw [lN t o F (by change scope.names.lookup y≠_;rw [k];decide)] at q;show q
 .exact g.hok.fresh (Xu (x.above y c (Wm h)))
 .unfold start;change _=N.length;rw [Zf,Qb,Yo];rfl'
theorem Dy {P:Program} {K:W.Frag} {base:Heap} {f:Addr} {name:Str} {G kV h L a ct oc:Value} {F od:Option Addr}
  {N m:List Str} {sp:Sp} (lk:K.lookup f=some #[oc,od, .func (W.fnOf name qual params body scope G kV h L F a ct),osl]) (p:W.codeIn K a qual=true) (S:FnScope N m scope)
  (l: ∀vs H Q E,sp vs H Q E->vs.length=m.length)
  (c: ∀ (A:Around) (outer:List Env) (s:Shared) (H:Hp) (vs:List V) (Q:VK) (E:XK),Room k (A.deeper (envOfC qual scope s.heap.objs.size f a))->sp vs H Q E->
   ∃t,PSs (gZ CX P w K mg base N qual scope f a A outer s H E) body t/\t { nx:=λ _ H'=>Q .non H',rt:=Q } (start N vs) H):
  FnOk P w K mg base CX (k+1) f (W.fnOf name qual params body scope G kV h L F a ct) m sp:=by
 refine#[l,λ A outer s H args us vs Q E z i R r j=> ?_];have U:=l _ _ _ _ j;have D:K.In s.heap:=i.mod.kin.keeps λ b o e=>(i.bs b o e).1
 have B:s.heap.NoLimit:=i.mod.nolimit.keeps λ b o e=>(i.bs b o e).1
 have d: ∀y∈m.zip us,scope.names.lookup y.1=some .local\/(scope.names.lookup y.1=some .cell/\((cellsFrom (s.heap.objs.size+1) scope.names []).lookup y.1).isSome=true):=λ ⟨n,v⟩ Z=>by
  rcases S.par n (ă Z).1 with q | q
  .exact .inl q
  .exact .inr #[q,PySem.W.cellsFrom_some _ _ _ (.inl q)]
 refine codeAny_call_function z.depth (D _ _ lk) rfl S.co S.gen rfl (PySem.W.codeRec_of D p) (R _ _ _ _ ?_);refine wpAny_newFunctionEnv_cells S.kind d λ env T M x=> ?_
 subst T;refine#[B.keeps x.toInCall.keep,codeAny_func ?_];let#[t,Y,X]:=c A outer s H vs Q E (z.deeper _) j;have I:Inv (gZ CX P w K mg base N qual scope f a A outer s H E) [] (start N vs) H M:=vy S z.hd i U r x;refine Yd (Y [] M (start N vs) H _ I X) (λ O s' g=> ?_) λ e s' g=>g
 have fin: ∀ {σ':St} {H':Hp} {v:V} {u:Value},Inv (gZ CX P w K mg base N qual scope f a A outer s H E) [] σ' H' s'->RelV v u->Q v H'->CE outer P w H s Q u s':=
  λ {σ' H' v u} J C q=>#[v,H',J.os,J.bare,J.base,J.hok,C,q]
 cases O with
 | ret u=>
  let#[v,σ',H',J,C,q]:=g;show fin J C q
 | next=>
  let#[σ',H',J,q]:=g;show fin (v:=V.non) (u:=Value.none) J rfl q
 | brk=>
  let#[_,_,_,q]:=g;show False.elim q
 | cont=>
  let#[_,_,_,q]:=g;show False.elim q
section
variable {X:Cx} {x:Str} {p pos:Pos} {e:Expr} {es:List Expr} {t:TA} {id T:String} {r:List V->Hp->VK->Prop}
def cz (r:List V->Hp->VK->Prop) (t:TA):TE:=λ σ H Q=>t σ H λ vs H1=>r vs H1 Q
theorem wV (i:bM X (.builtin id) r) (k:Gl X x) (l:X.mg x=none) (n:bootBuiltins x=some (.builtin id)) (g:PA X (e::es) t) (m:x≠"__name__":=by decide) (b:(x==("__debug__":Str))=false:=by decide)
  (j:starEach (e::es) X.env=(false,eval e X.env)::starEach es X.env:=by rfl) (c:(backTo pos (starEach es X.env)).any (·.1)=false:=by rfl):PE X (.Call (.Name x p) (e::es) [] pos) (cz r t):=by
 intro a s d H Q I h;refine Xx (jK I k l n ?_ m b);show PyProof.Rows.callWith_builtin1 (bA (g pos a s d H _ I h) λ us u ⟨vs,H1,f,q,o⟩=>i a u d H1 vs us Q f q o) j c
theorem aX (i:bM X (.type T) r) (k:Gl X x) (l:X.mg x=none) (n:bootBuiltins x=some (.type T)) (g:PA X (e::es) t) (m:x≠"__name__":=by decide) (b:(x==("__debug__":Str))=false:=by decide)
  (j:starEach (e::es) X.env=(false,eval e X.env)::starEach es X.env:=by rfl) (c:(backTo pos (starEach es X.env)).any (·.1)=false:=by rfl):PE X (.Call (.Name x p) (e::es) [] pos) (cz r t):=by
 intro a s d H Q I h;refine Xx (jK I k l n ?_ m b);show PyProof.Rows.callWith_type1 (bA (g pos a s d H _ I h) λ us u ⟨vs,H1,f,q,o⟩=>i a u d H1 vs us Q f q o) j c
end
end L2
namespace HT
open PySem PyProof.Rows
variable {Q:Value->Shared->Prop}
section
variable {prog:Program} {w:World} {A:Around} {E:Value->Shared->Prop} {s:Shared}
theorem Bu {t b:Addr} {vs a:List Value} (y:IsTup s.heap t vs.toArray) (x:IsTup s.heap b a.toArray) (p:vs≠[])
  (u:a=[]->Q (.ref t) s) (v:a≠[]->Q (.ref s.heap.objs.size) { s with heap:=s.heap.push { cls:= .type "tuple",data:= .seq (vs++a).toArray } })
  (hsz:vs.length+a.length<=sizeLine):wpAny (model prog w) A (binaryOp .Add (.ref t) (.ref b)) Q E s:=by
 let#[#[cls,dd,data,r],i,m,n,o]:=id y;let#[#[l,d,k,h],c,f,q,g]:=id x;simp only at m o f g;subst m o f g;have e:vs.toArray++a.toArray=(vs++a).toArray:=by simp
 by_cases j:a=[]
 .exact concat_meets #[_,i,rfl] #[_,c,rfl] noFill_tuple_add seq_tuple_add PySem.F.slot_tuple_add PySem.F.entry_tuple_add (PySem.F.args_tuple_add_2 _ _)
   (tuple_addW1 t b vs.toArray a.toArray n q dd d r h (by simpa using p) (by simp [j])) #[i,c,u j]
 .refine concat_meets #[_,i,rfl] #[_,c,rfl] noFill_tuple_add seq_tuple_add PySem.F.slot_tuple_add PySem.F.entry_tuple_add (PySem.F.args_tuple_add_2 _ _)
   (tuple_addW2 t b vs.toArray a.toArray n q dd d r h (by simpa using p) (by simpa using j) (by rw [Zs,Zs];show hsz)) #[i,c,?_]
  rw [e];show v j
def qN (n d:Nat):Option Int->Nat
 | none=>d
 | some v=>if v<0 then (v+(n:Int)).toNat else min v.toNat n
end
end HT
namespace L2
open PySem PySem.Spec PyProof.Rows
variable {H:Hp} {σ:St} {i:Int} {x y:V} {p:Addr} {A:Around} {T:String} {u v:Value} {ys:List V} {j n t':Nat} {pins:List (Addr×Obj)} {its its' us:List Value} {f:Array Value->Array Value} {r:V->Option Int->Option Int->Hp->VK->Prop}
abbrev TO:=St->Hp->(Option Int->Hp->Prop)->Prop
def PO (X:Cx) (e:Option Expr) (t:TO):Prop:=
 ∀ (pins:List (Addr×Obj)) (s:Shared) (σ:St) (H:Hp) (Q:Option Int->Hp->Prop),Inv X pins σ H s->t σ H Q->
  wpAny (model X.prog X.w) X.A (evalPart e X.env) (λ u s'=> ∃o H',Inv X pins σ H' s'/\IsPart u o/\Q o H') X.xe s
def gr:TO:=λ _ H Q=>Q none H
def ji (t:TE):TO:=λ σ H Q=>t σ H λ x H1=> ∃i,x= .int i/\Q (some i) H1
theorem intsAre_of {ns:List Int}: ∀ {us:List Value},Vals (ns.map V.int) us->IntsAre us ns:=by
 induction ns with
 | nil=>intro us r;rw [Ā] at r;cases r;show .nil
 | cons n ns ih=>
  intro us r;rw [Zn] at r
  cases r with
  | cons r1 r2=>
   let#[t,e]:=r1;subst e;show .cons n t (ih r2)
section
variable {X:Cx} {e:Expr} {te:TE} {lo hi:Option Expr} {tl th:TO} {pos p2:Pos}
theorem jx:PO X none gr:=by
 intro a s b H Q I h;rw [evalPart_none];show Zi #[none,H,I, .none,h]
theorem gw (h:PE X e te):PO X (some e) (ji te):=by
 intro a s g H Q I c;rw [evalPart_some];refine bA (h a s g H _ I c) λ u j ⟨x,H1,b,f,d⟩=> ?_
 let#[i,rfl,q]:=d;let#[t,rfl]:=f;show#[some i,H1,b, .int i t,q]
def Ma (X:Cx) (r:V->Option Int->Option Int->Hp->VK->Prop):Prop:=
 ∀ (pins:List (Addr×Obj)) (s:Shared) (σ:St) (H:Hp) (x:V) (v vl vu:Value) (lo hi:Option Int) (sl:Addr) (Q:VK),Inv X pins σ H s->RelV x v->s.heap.IsSliceOf sl vl vu .none->IsPart vl lo->IsPart vu hi->r x lo hi H Q->
  ∃T id,typeLookup (.type T) "__getitem__"=pure (some (.builtin id))/\s.TypeIs v T/\wpAny (model X.prog X.w) X.A (getItem v (.ref sl)) (EP X pins σ Q) X.xe s
def Fd (r:V->Option Int->Option Int->Hp->VK->Prop) (te:TE) (tl th:TO):TE:=λ σ H Q=>te σ H λ x H1=>tl σ H1 λ l H2=>th σ H2 λ u H3=>r x l u H3 Q
theorem fV (y:Ma X r) (o:PE X e te) (t:PO X lo tl) (B:PO X hi th):PE X (.Subscript e (.Slice lo hi none p2) pos) (Fd r te tl th):=by
 intro a s d H Q I h;refine Subscript_ (bA (o a s d H _ I h) λ v J ⟨x,H1,i,G,D⟩=> ?_);refine wpAny_Slice (bA (t a J d H1 _ i D) λ f K ⟨l,H2,j,pl,E⟩=>bA (B a K d H2 _ j E) λ g c ⟨u,H3,k,C,F⟩=> ?_);rw [evalPart_none];refine Zi ?_;have m:Inv X a d H3 { c with heap:=c.heap.push { cls:= .type "slice",data:= .fields ([f,g, .none].toArray) } }:=k.kept (t':=c.toks) λ b ob q=>Zd _ q
 let#[T,id,n,z,p]:=y a { c with heap:=c.heap.push { cls:= .type "slice",data:= .fields ([f,g, .none].toArray) } } d H3 x v f g l u c.heap.objs.size Q m G (Heap.IsSliceOf.new ..) pl C F;change wpAny (model X.prog X.w) X.A (subscriptTail e (.Slice lo hi none p2) v (.ref c.heap.objs.size)) (EP X a d Q) X.xe { c with heap:=c.heap.push { cls:= .type "slice",data:= .fields ([f,g, .none].toArray) } };show tail_any (ops:=[.ref c.heap.objs.size,v]) z n p (by with_unfolding_all rfl)
def oY (xs:List V) (lo hi:Option Int):List V:=(xs.drop (HT.qN xs.length 0 lo)).take (HT.qN xs.length xs.length hi-HT.qN xs.length 0 lo)
theorem oZ (xs:List V) (lo a:Option Int):(oY xs lo a).length<=xs.length:=by
 unfold oY;rw [Yp,É];rfl'
def uf (K:W.Frag):R2:=λ x y H Q=> ∃a b xs ys,x= .ref a/\y= .ref b/\SqT K H a xs/\SqT K H b ys/\xs≠[]/\xs.length+ys.length<=sizeLine/\
 (ys=[]->Q (.ref a) H)/\(ys≠[]-> ∀p,H p=none->Q (.ref p) (upd H p (.tup (xs++ys))))
theorem Vals.nil_iff {xs:List V} (r:Vals xs us):us=[]↔xs=[]:=by
 cases r with
 | nil=>simp
 | cons _ _=>simp
theorem Bv:eY X (binaryOp .Add) (uf X.K):=by
 intro g s B H x y v u Q I t A h;let#[a,b,xs,ys,rfl,rfl,i,j,k,e,p,r]:=h
 cases t
 cases A;let#[l,d,m,_]:=I.tuple i;let#[f,c,n,_]:=I.tuple j;refine HT.Bu m n (λ z=>k (d.nil_iff.mp z)) (λ z=>#[.ref a,H,I,rfl,p (c.nil_iff.mp z)]) (λ z=> ?_) (by rw [<- d.length,<- c.length];show e);refine#[.ref s.heap.objs.size,_,I.laid (t':=s.toks) (o:= .tup (xs++ys)) (λ b ob q=>Zd _ q) (Zo _) ?_,rfl,r (λ w=>z (c.nil_iff.mpr w)) _ (I.hok.fresh (Zo _))];show#[by rw [Zf];show e,_,d.append c,IsTup.new _ _]
end
def wW (n:Nat) (i:Int):Option Nat:=if 0<=i then (if i<n then some i.toNat else none) else if-(n:Int)<=i then some (i+n).toNat else none
def oG {α:Type} (xs:List α) (i:Int):Option α:=(wW xs.length i).bind λ j=>xs[j]?
theorem ug (h:wW n i=some j):seqIndex? i n=some j/\j<n/\ -(n:Int)<=i/\i<n:=by
 unfold wW at h;by_cases b:0<=i
 .rw [if_pos b] at h;by_cases a:i<n
  .rw [if_pos a] at h;have e:i.toNat=j:=Zr h;show#[by rw [seqIndex_of b a,e],(),(),a]
  .rw [if_neg a] at h;cases h
 .rw [if_neg b] at h;by_cases a: -(n:Int)<=i
  .rw [if_pos a] at h;have e:(i+n).toNat=j:=Zr h;show#[by rw [seqIndex_neg () a,e],(),a,()]
  .rw [if_neg a] at h;cases h
theorem mH {a:Type} {xs:List a} {v:a} (h:oG xs i=some v): ∃j,seqIndex? i xs.length=some j/\xs[j]? =some v/\j<xs.length/\ -(xs.length:Int)<=i/\i<xs.length:=by
 unfold oG at h
 cases e:wW xs.length i with
 | none=>rw [e] at h;cases h
 | some j=>
  rw [e] at h;let#[b,c,d,f]:=ug e;show#[j,b,h,c,d,f]
theorem bf {a:Type} {xs:List a} {v:a} (h:xs[j]? =some v):oG xs (j:Int)=some v:=by
 have b:j<xs.length:=(Zv.mp h).1;have e:wW xs.length (j:Int)=some j:=by
  unfold wW;rw [if_pos (),if_pos ()];simp
 unfold oG;rw [e];show h
theorem iB {a:Type} (xs:List a) (v:a):oG (xs++[v]) (-1)=some v:=by
 have b:(xs++[v]).length=xs.length+1:=by simp
 have e:wW (xs++[v]).length (-1)=some xs.length:=by
  unfold wW;rw [b,if_neg (by decide),if_pos ()];congr 1;rfl'
 unfold oG;rw [e];change(xs++[v])[xs.length]? =some v;simp
def Bw (b:Expr):Prop:= ∀o i,subscripted b false o i=operate [o,i] (getItem o i)
def Iv (X:Cx) (r:R2):Prop:=
 ∀ (value slice:Expr) (pins:List (Addr×Obj)) (s:Shared) (σ:St) (H:Hp) (x y:V) (v u:Value) (Q:VK),Inv X pins σ H s->RelV x v->RelV y u->r x y H Q->
  subscripted slice false v u=operate [v,u] (getItem v u)->wpAny (model X.prog X.w) X.A (subscriptTail value slice v u) (EP X pins σ Q) X.xe s
def Og (X:Cx) (id:String) (r:V->List V->Hp->VK->Prop):Prop:=
 ∀ (pins:List (Addr×Obj)) (s:Shared) (σ:St) (H:Hp) (x:V) (xs:List V) (v:Value) (us:List Value) (Q:VK),Inv X pins σ H s->RelV x v->Vals xs us->r x xs H Q->
  wpAny (model X.prog X.w) X.A (call (.builtin id) (v::us)) (EP X pins σ Q) X.xe s
section
variable {X:Cx} {a b:Expr} {ta tb:TE} {pos:Pos}
theorem jj {r:R2} (g:Iv X r) (e:PE X a ta) (f:PE X b tb) (i:Bw b):PE X (.Subscript a b pos) (aK r ta tb):=by
 intro c s m H Q I h;show Subscript_ (Eu e f I h λ v u l x y H2 d j k q=>g a b c l m H2 x y v u Q d j k q (i _ _))
def dU (K:W.Frag):R2:=λ x y H Q=> ∃p xs i v,x= .ref p/\y= .int i/\SqL K H p xs/\oG xs i=some v/\Q v H
def cF (K:W.Frag):R2:=λ x y H Q=> ∃p xs i v,x= .ref p/\y= .int i/\SqT K H p xs/\oG xs i=some v/\Q v H
def wX:R2:=λ x y H Q=> ∃z i c,x= .str z/\y= .int i/\z.length<=sizeLine/\oG z.cps.toList i=some c/\Q (.str #[([c].toArray)]) H
theorem Bx:Iv X (dU X.K):=by
 intro g f a s n H x y v u Q I F G h m;let#[p,xs,i,z,rfl,rfl,E,C,q]:=h
 cases F;let#[t,rfl]:=G;let#[d,r,pl,M]:=I.list E;let#[j,b,o,J,A,B]:=mH C;let#[w,k,e]:=r.get o;have D:=r.length;have L:=j7;have fin:EP X a n Q w s:=#[z,H,I,e,q];by_cases l:0<=i
 .have c:i.toNat=j:=by
   rw [seqIndex_of l B] at b;show Zr b
  show item_listR pl.isList l () (by rw [c];simpa using k) fin m
 .have c:(i+(d.toArray.size:Int)).toNat=j:=by
   rw [seqIndex_neg () A] at b;rw [Zs,<- D];show Zr b
  show subscriptTail_builtinR (x:=w) pl.isList.typeIs slot_list_getitem.lookup
   (wpAny_getItem_list_neg (Q:=λ r s'=>r=w/\EP X a n Q r s') pl.isList () (by rw [Zs]<;>rfl') () (by rw [c];simpa using k) #[rfl,fin]) m
theorem Fe:Iv X (cF X.K):=by
 intro d c a s e H x y v u Q I B C h o;let#[p,xs,i,z,rfl,rfl,n,l,q]:=h
 cases B;let#[t,rfl]:=C;let#[A,r,pl,J]:=I.tuple n;let#[j,g,k,D,E,F]:=mH l;let#[w,f,b]:=r.get k;have m:=r.length;have G:=j7;have fin:EP X a e Q w s:=#[z,H,I,b,q];show subscriptTail_builtinR (x:=w) pl.typeIs slot_tuple_getitem.lookup
  (getItem_tuple (j:=j) (Q:=λ r s'=>r=w/\EP X a e Q r s') pl () () (by rw [Zs,<- m];show g) (by simpa using f) #[rfl,fin]) o
theorem qO:Iv X wX:=by
 intro b a e s D H x y v u Q I r w h p;let#[z,i,c,rfl,rfl,C,n,q]:=h;let#[t,rfl]:=r;let#[t',rfl]:=w;let#[j,d,k,A,l,m]:=mH n;have o:z.cps.toList.length=z.length:=by simp [Str.length]
 rw [o] at d l m;have B:=j7;show tail_any (typeIs_str s z t) slot_str_getitem.lookup (getItem_str (c:=c) (by
  have f:decide (i< -(2^63:Int))=false:=Yj ();have g:decide (i>=2^63)=false:=Yj ();rw [f,g,Bool.or_false]) (by rw [d];simpa using k) #[.str #[([c].toArray)],H,I.tok _,#[_,rfl],q]) p
theorem qP (a:List Value) (n j:Nat) (u:Value):Obj.mapSeq (·.setIfInBounds j u) { cls:= .type "list",data:= .seq a.toArray n }={ cls:= .type "list",data:= .seq (a.set j u).toArray n }:=by
 simp [Obj.mapSeq]
theorem Inv.lst {s:Shared} {xs:List V} (I:Inv X pins σ H s) (h:H p=some (.lst xs)):
  ∃ (its:List Value) (n:Nat),Vals xs its/\s.heap.get? p=some { cls:= .type "list",data:= .seq its.toArray n }/\xs.length<=sizeLine:=by
 let#[z,its,n,r,e]:=I.hok p _ h;show#[its,n,r,e,z]
theorem Inv.lstUpd {s:Shared} {xs:List V} {a:Nat} {f:Obj->Obj} (I:Inv X pins σ H s) (h:H p=some (.lst xs))
  (g:s.heap.get? p=some { cls:= .type "list",data:= .seq its.toArray n }) (c:f { cls:= .type "list",data:= .seq its.toArray n }={ cls:= .type "list",data:= .seq its'.toArray a }) (r:Vals ys its') (i:ys.length<=sizeLine) (t:Nat):
  Inv X pins σ (upd H p (.lst ys)) { s with heap:=s.heap.update p f,toks:=t }:=by
 have e:(s.heap.update p f).get? p=some { cls:= .type "list",data:= .seq its'.toArray a }:=by
  rw [Xf f g (by rw [c]<;>rfl),c]
 refine I.write (x:=p) (e:=p) (by rw [h];trivial) (.inl rfl) (λ b u d q=>(Yy _ _ (Ne.symm d)).trans q) #[_,e] ?_;show#[i,its',a,r,e]
def ph:V->V->V->Hp->(Hp->Prop)->Prop:=λ o i v H Q=> ∃p xs k j,o= .ref p/\i= .int k/\H p=some (.lst xs)/\wW xs.length k=some j/\Q (upd H p (.lst (xs.set j v)))
theorem set_list:J6 X ph:=by
 intro b s D H o i v ov G u Q I B A C h;let#[p,xs,k,j,rfl,rfl,x,y,q]:=h
 cases B;let#[t,rfl]:=A;let#[a,n,r,f,z]:=I.lst x;let#[c,E,m,w]:=ug y;have e:=r.length;have F:=j7;have g:Inv X b D (upd H p (.lst (xs.set j v))) { s with heap:=s.heap.update p (Obj.mapSeq (·.setIfInBounds j u)) }:=
  I.lstUpd x f (qP a n j u) (r.set C j) (by rw [Ą];show z) s.toks
 by_cases l:0<=k
 .have d:k.toNat=j:=by
   rw [seqIndex_of l w] at c;show Zr c
  show PySem.W.ki_setAt f l () (by rw [Zs,<- e];show w) (by rw [d];show#[_,g,q])
 .have d:(k+(a.toArray.size:Int)).toNat=j:=by
   rw [seqIndex_neg () m] at c;rw [Zs,<- e];show Zr c
  show PySem.W.ki_setBack f () (by rw [Zs,<- e];show m) () (by rw [d];show#[_,g,q])
theorem mJ (lo a:Option Int) (n:Nat):(sliceBounds lo a none n).1=((HT.qN n 0 lo:Nat):Int)/\(sliceBounds lo a none n).2.1=((HT.qN n n a:Nat):Int)/\(sliceBounds lo a none n).2.2=1:=by
 refine#[?_,?_,rfl]
 .cases lo with
  | none=>simp [sliceBounds,HT.qN]
  | some i=>
   simp only [sliceBounds,HT.qN,Option.getD_none,show(1:Int)>0 by decide,ð];by_cases h:i<0
   .simp only [h,ð]<;>rfl'
   .simp only [h,Í]<;>rfl'
 .cases a with
  | none=>simp [sliceBounds,HT.qN]
  | some i=>
   simp only [sliceBounds,HT.qN,Option.getD_none,show(1:Int)>0 by decide,ð];by_cases h:i<0
   .simp only [h,ð]<;>rfl'
   .simp only [h,Í]<;>rfl'
theorem lz (a:List Value) (lo b:Option Int):slicePick a.toArray lo b none=((a.drop (HT.qN a.length 0 lo)).take (HT.qN a.length a.length b-HT.qN a.length 0 lo)).toArray:=by
 let#[c,d,e]:=mJ lo b a.toArray.size;unfold slicePick;rw [c,d,e];simp only [sliceRange_one,pick_run,Zs]<;>rfl
def By (K:W.Frag):V->Option Int->Option Int->Hp->VK->Prop:=λ x lo hi H Q=> ∃a xs,x= .ref a/\SqL K H a xs/\ ∀p,H p=none->Q (.ref p) (upd H p (.lst (oY xs lo hi)))
theorem BJ:Ma X (By X.K):=by
 intro f s u H x v p t lo d n Q I m g pl l h;let#[a,xs,rfl,i,q]:=h
 cases m;let#[k,r,e,j]:=I.list i;have c:=r.length;refine#["list",_,slot_list_getitem.lookup,e.isList.typeIs,?_];refine wpAny_getItem_list_slice e.isList g pl l .none (by simp) ?_ (by rw [Zs]<;>rfl');rw [lz,<- c];refine#[.ref s.heap.objs.size,_,I.laid (t':=s.toks) (o:= .lst (oY xs lo d)) (λ b ob q=>Zd _ q) (Zo _) ?_,rfl,q _ (I.hok.fresh (Zo _))];show#[Nat.le_trans (oZ xs lo d) j,_,0,(r.drop (HT.qN xs.length 0 lo)).take (HT.qN xs.length xs.length d-HT.qN xs.length 0 lo),Zw _ rfl]
def dB:V->Bool
 | .non=>true
 | .bl _=>true
 | .int _=>true
 | .str _=>true
 | _=>false
def wY:V->V->Bool
 | .non, .non=>true
 | .bl a, .bl b=>a==b
 | .bl a, .int b=>(if a then 1 else 0)==b
 | .int a, .bl b=>a==(if b then 1 else 0)
 | .int a, .int b=>a==b
 | .str a, .str b=>a==b
 | _,_=>false
theorem Ff {s:Shared} (e:RelV y u) (c:RelV x v) (f:dB y=true) (d:dB x=true):SeqAt.EqAt A s u v (wY y x):=by
 cases y with
 | non=>
  cases e
  cases x with
  | non=>cases c;show SeqAt.EqAt.same _
  | bl b=>cases c;show SeqAt.EqAt.none_bool b
  | int b=>let#[t,rfl]:=c;show SeqAt.EqAt.none_int b t
  | str b=>let#[t,rfl]:=c;show SeqAt.EqAt.none_str b t
  | _=>show absurd (show false=true from d) Zq
 | bl a=>
  cases e
  cases x with
  | non=>cases c;show SeqAt.EqAt.bool_none a
  | bl b=>cases c;show SeqAt.EqAt.bool_bool a b
  | int b=>let#[t,rfl]:=c;show SeqAt.EqAt.bool_int a b t
  | str b=>let#[t,rfl]:=c;show SeqAt.EqAt.bool_str a b t
  | _=>show absurd (show false=true from d) Zq
 | int a=>
  let#[t',rfl]:=e
  cases x with
  | non=>cases c;show SeqAt.EqAt.int_none a t'
  | bl b=>cases c;show SeqAt.EqAt.int_bool a t' b
  | int b=>let#[t,rfl]:=c;show SeqAt.EqAt.int_int a t' b t
  | str b=>let#[t,rfl]:=c;show SeqAt.EqAt.int_str a t' b t
  | _=>show absurd (show false=true from d) Zq
 | str a=>
  let#[t',rfl]:=e
  cases x with
  | non=>cases c;show SeqAt.EqAt.str_none a t'
  | bl b=>cases c;show SeqAt.EqAt.str_bool a t' b
  | int b=>let#[t,rfl]:=c;show SeqAt.EqAt.str_int a t' b t
  | str b=>let#[t,rfl]:=c;show SeqAt.EqAt.str_str a t' b t
  | _=>show absurd (show false=true from d) Zq
 | _=>show absurd (show false=true from f) Zq
def qQ (x:V) (u:Value):Bool:=match u with
 | .none=>wY .non x
 | .bool b=>wY (.bl b) x
 | .int i _=>wY (.int i) x
 | .str z _=>wY (.str z) x
 | _=>false
theorem wZ (r:RelV y u) (f:dB y=true):qQ x u=wY y x:=by
 cases y with
 | non=>cases r;rfl
 | bl b=>cases r;rfl
 | int i=>let#[t,rfl]:=r;rfl
 | str z=>let#[t,rfl]:=r;rfl
 | _=>show absurd (show false=true from f) Zq
theorem iC {x:V}: ∀ {xs:List V} {us:List Value},Vals xs us->xs.all dB=true->us.any (qQ x)=xs.any λ y=>wY y x
 | _,_, .nil,_=>rfl
 | y::xs,u::us, .cons r t,f=>by
  rw [List.all_cons,Xm] at f;rw [Î,Î,wZ r f.1,iC t f.2]
theorem fW {A:Around} {s:Shared} {x:V} {v:Value} (c:RelV x v) (b:dB x=true): ∀ {xs:List V} {us:List Value},Vals xs us->xs.all dB=true-> ∀u∈us,SeqAt.EqAt A s u v (qQ x u)
 | _,_, .nil,_=>λ u a=>by cases a
 | y::xs,u::us, .cons r t,f=>λ d a=>by
  rw [List.all_cons,Xm] at f;rcases Zx.mp a with rfl | a
  .rw [wZ r f.1];show Ff r c f.1 b
  .exact fW c b t f.2 d a
def inV (x:V) (xs:List V):Bool:=xs.any λ y=>wY y x
def Be (K:W.Frag) (neg:Bool):R2:=λ x y H Q=> ∃p xs,y= .ref p/\(SqL K H p xs\/SqT K H p xs)/\dB x=true/\xs.all dB=true/\Q (.bl (if neg then !inV x xs else inV x xs)) H
theorem vA:eY X (compareOp .In) (Be X.K false):=by
 intro e s j H x y v u Q I f i h;let#[p,xs,rfl,b,d,fs,q]:=h
 cases i;rcases b with b | b
 .obtain ⟨a,r,pl,g⟩:=I.list b;refine SeqAt.in_listAt (qQ x) pl.isList (λ w c=>fW f d r fs w (by simpa using c)) #[.bl _,H,I,rfl,?_];rw [show a.toArray.any (qQ x)=a.any (qQ x) by simp,iC r fs];show q
 .obtain ⟨a,r,pl,g⟩:=I.tuple b;refine SeqAt.in_tupleAt (qQ x) pl (λ w c=>fW f d r fs w (by simpa using c)) #[.bl _,H,I,rfl,?_];rw [show a.toArray.any (qQ x)=a.any (qQ x) by simp,iC r fs];show q
theorem mK:eY X (compareOp .NotIn) (Be X.K true):=by
 intro e s j H x y v u Q I f i h;let#[p,xs,rfl,b,d,fs,q]:=h
 cases i;rcases b with b | b
 .obtain ⟨a,r,pl,g⟩:=I.list b;refine SeqAt.notIn_listAt (qQ x) pl.isList (λ w c=>fW f d r fs w (by simpa using c)) #[.bl _,H,I,rfl,?_];rw [show a.toArray.any (qQ x)=a.any (qQ x) by simp,iC r fs];show q
 .obtain ⟨a,r,pl,g⟩:=I.tuple b;refine SeqAt.notIn_tupleAt (qQ x) pl (λ w c=>fW f d r fs w (by simpa using c)) #[.bl _,H,I,rfl,?_];rw [show a.toArray.any (qQ x)=a.any (qQ x) by simp,iC r fs];show q
theorem mL:bM X (.type "list") (λ xs H Q=> ∃p ys,xs=[.ref p]/\(SqL X.K H p ys\/SqT X.K H p ys)/\ ∀l,H l=none->Q (.ref l) (upd H l (.lst ys))):=by
 intro k s y H xs us Q I r h;let#[p,ys,rfl,g,q]:=h;let#[u,rfl,x]:=vals1 r
 cases x;have fin: ∀ (a:List Value),Vals ys a->ys.length<=sizeLine-> ∀ (h':Heap) (c:Nat),(∀b o',s.heap.get? b=some o'->h'.get? b=some o')->
   h'.get? s.heap.objs.size=some { cls:= .type "list",dict:=none,data:= .seq a.toArray c,slots:= ([].toArray) }->EP X k y Q (.ref s.heap.objs.size) { s with heap:=h' }:=λ a d i h' c j e=>
  #[.ref s.heap.objs.size,_,I.laid (t':=s.toks) j (Zo _) (show ObjOk X.prog X.w _ h' _ (.lst ys) from #[i,a,c,d,e]),rfl,q _ (I.hok.fresh (Zo _))]
 rcases g with g | g
 .obtain ⟨a,d,pl,i⟩:=I.list g;have f:=d.length;let#[o,v,m,n,t]:=pl.isList;show call_list_seq p (.inl rfl) v m t (λ h' c j e=>fin a d i h' c j e) (by simp only [Zs]<;>rfl')
 .obtain ⟨a,d,pl,i⟩:=I.tuple g;have f:=d.length;let#[o,v,m,n,t]:=pl;show call_list_seq p (.inr rfl) v m t (λ h' c j e=>fin a d i h' c j e) (by simp only [Zs]<;>rfl')
theorem lA:bM X (.type "tuple") (λ xs H Q=> ∃p ys,xs=[.ref p]/\((SqL X.K H p ys/\ ∀l,H l=none->Q (.ref l) (upd H l (.tup ys)))\/(SqT X.K H p ys/\Q (.ref p) H))):=by
 intro a s j H xs us Q I r h;let#[p,ys,rfl,h]:=h;let#[u,rfl,n]:=vals1 r
 cases n;rcases h with ⟨hq,q⟩ | ⟨hq,q⟩
 .obtain ⟨c,d,pl,i⟩:=I.list hq;have g:=d.length;refine call_tuple_list pl.isList (λ h' m=> ?_) (by simp only [Zs]<;>rfl');have f:Inv X a j H { s with heap:=h' }:=I.kept (t':=s.toks) m;have k:Inv X a j (upd H h'.objs.size (.tup ys)) { s with heap:=h'.push { cls:= .type "tuple",data:= .seq c.toArray } }:=
   f.laid (t':=s.toks) (λ b o e=>Zd _ e) (Zo _) (show ObjOk X.prog X.w _ _ _ (.tup ys) from #[i,c,d,IsTup.new _ _])
  show#[.ref h'.objs.size,_,k,rfl,q _ (f.hok.fresh (Zo _))]
 .obtain ⟨c,d,pl,i⟩:=I.tuple hq;show call_tuple_same pl #[.ref p,H,I,rfl,q]
def Iw (K:W.Frag) (T:String) (x:V) (H:Hp):Prop:=match x with
 | .str _=>T="str"
 | .int _=>T="int"
 | .ref p=>(T="list"/\ ∃xs,SqL K H p xs)\/(T="tuple"/\ ∃o,K.lookup p=some o/\o.cls= .type "tuple"/\o.dict=none)\/
   (T="dict"/\((∃kvs,H p=some (.dK kvs))\/ ∃kvs,H p=some (.dT kvs)))\/(T="set"/\ ∃S n,H p=some (.set S n))
 | _=>False
theorem Fg {s:Shared} (I:Inv X pins σ H s) (r:RelV x v) (d:Iw X.K T x H):
  s.TypeIs v T/\ ∀a,v= .ref a-> ∃ob,s.heap.get? a=some ob/\ob.dict=none:=by
 cases x with
 | str z=>
  let#[t,rfl]:=r
  cases (show T="str" from d);show#[typeIs_str s z t,λ _ e=>nomatch e]
 | int i=>
  let#[t,rfl]:=r
  cases (show T="int" from d);show#[typeIs_int s i t,λ _ e=>nomatch e]
 | ref p=>
  cases r;rcases d with ⟨rfl,xs,hq⟩ | ⟨rfl,o,hk,hc,g⟩ | ⟨rfl,hk⟩ | ⟨rfl,S,n,hk⟩
  .obtain ⟨h,_,pl,_⟩:=I.list hq;refine#[pl.isList.typeIs,λ a e=> ?_]
   cases e;let#[o,n,e,c,g,_]:=pl;show#[o,e,g]
  .refine #[#[o,I.kIn p o hk,hc],λ a e=> ?_]
   cases e;show#[o,I.kIn _ o hk,g]
  .have z: ∃o,s.heap.get? p=some o/\o.ExactDict:=by
    rcases hk with ⟨kvs,hk⟩ | ⟨kvs,hk⟩
    .obtain ⟨_,_,_,_,o,_,_,e,b,_⟩:=I.hok p _ hk;show#[o,e,b]
    .obtain ⟨_,_,_,_,o,_,_,e,b,_⟩:=I.hok p _ hk;show#[o,e,b]
   let#[o,e,b]:=z;refine#[#[o,e,b.1],λ a f=> ?_]
   cases f;show#[o,e,b.2.1]
  .obtain ⟨o,_,_,_,e,b,_⟩:=I.hok p _ hk;refine#[#[o,e,b.1],λ a f=> ?_]
   cases f;show#[o,e,b.2.1]
 | _=>show False.elim d
def Q6 (K:W.Frag) (T:String) (r:V->List V->Hp->VK->Prop) (to:TE):TE:=λ σ H Q=>to σ H λ x H1=>Iw K T x H1/\r x [] H1 Q
def qu (K:W.Frag) (T:String) (r:V->List V->Hp->VK->Prop) (to:TE) (t:TA):TE:=λ σ H Q=>to σ H λ x H1=>Iw K T x H1/\t σ H1 λ xs H2=>r x xs H2 Q
variable {o e:Expr} {es:List Expr} {to:TE} {t:TA} {name:Str} {apos cpos:Pos} {T id:String} {r:V->List V->Hp->VK->Prop}
theorem Jd (A:PlainAttrs T) (g:Slot T name id) (i:typeOf (.builtin id)=pure (.type "method_descriptor")) (w:Og X id r) (y:PE X o to) (u:PA X (e::es) t)
  (c:attributeBase o name X.env (eval o X.env)=eval o X.env:=by rfl)
  (f:((backTo cpos (starEach (e::es) X.env)).all (λ x=> !x.1)&&(backToKw cpos (keywordEach [] X.env)).all (λ x=>x.1.isSome)
   &&decide ((e::es).length+([]:List Keyword).length+(if ([]:List Keyword).isEmpty then 0 else 1)<30))=true:=by rfl)
  (d:(apos.endLine==cpos.line)=true:=by rfl) (z:starEach (e::es) X.env=(false,eval e X.env)::starEach es X.env:=by rfl) (b:(backTo cpos (starEach es X.env)).any (·.1)=false:=by rfl):
  PE X (.Call (.Attribute o name apos) (e::es) [] cpos) (qu X.K T r to t):=by
 intro a s j H Q I h;refine wpAny_Call_method_late c f d rfl (bA (y a s j H _ I h) λ v E ⟨x,H1,k,m,ty,B⟩=> ?_);let#[p,q]:=Fg k m ty;refine#[T,id,A,g,i,p,q,?_];have l:=u cpos a E j H1 _ k B;rw [z] at l ⊢;refine Û (by change(false||(backTo cpos (starEach es X.env)).any (·.1))=false;rw [b]<;>rfl) (Å ?_);show bA l λ us F ⟨vs,H2,n,D,C⟩=>w a F j H2 x vs v us Q n m D C
end
def Oh (X:Cx) (id:String) (r:V->List V->Hp->VK->Prop):Prop:=
 ∀ (pins:List (Addr×Obj)) (s:Shared) (σ:St) (H:Hp) (x:V) (xs:List V) (v:Value) (us:List Value) (Q:VK),Inv X pins σ H s->RelV x v->Vals xs us->r x xs H Q->
  wpAny (model X.prog X.w) X.A (call (.builtin id) (v::us)) (EP X pins σ Q) X.xe s
theorem Vals.one: ∀ {x:V} {us:List Value},Vals [x] us-> ∃u,us=[u]/\RelV x u
 | _,_, .cons r .nil=>#[_,rfl,r]
theorem Vals.two: ∀ {x y:V} {us:List Value},Vals [x,y] us-> ∃u v,us=[u,v]/\RelV x u/\RelV y v
 | _,_,_, .cons r (.cons q .nil)=>#[_,_,rfl,r,q]
theorem Vals.rep {xs:List V} (h:Vals xs us): ∀k:Nat,Vals (List.replicate k xs).flatten (List.replicate k us).flatten
 | 0=> .nil
 | k+1=>by
  rw [Xb,Xb,Wd,Wd];show Vals.append h (Vals.rep h k)
theorem foldl_rep (b:List Value): ∀ (k:Nat) (a:List Value),
  List.foldl (λ d f=>d++f) a.toArray (List.replicate k b.toArray)=(a++(List.replicate k b).flatten).toArray
 | 0,a=>by simp
 | k+1,a=>by
  have e:a.toArray++b.toArray=(a++b).toArray:=by simp
  have c:(a++b)++(List.replicate k b).flatten=a++(List.replicate (k+1) b).flatten:=by
   rw [Xb,Wd,ñ]
  rw [<- c,<- foldl_rep b k (a++b),<- e,Xb,List.foldl_cons]
section
variable {X:Cx} {pins:List (Addr×Obj)} {σ:St} {H:Hp} {s:Shared} {l b:Addr} {xs ys zs:List V}
theorem Inv.lset (I:Inv X pins σ H s) (a:H l=some (.lst xs))
  (e:s.heap.get? l=some { cls:= .type "list",data:= .seq its.toArray n }) (c:f its.toArray=its'.toArray) (g:Vals ys its') (h:ys.length<=sizeLine):
  Inv X pins σ (upd H l (.lst ys)) { s with heap:=s.heap.update l (Obj.mapSeq f),toks:=t' }:=by
 have q:=PySem.IsL.update e f;rw [c] at q;refine I.write (x:=l) (e:=l) (by rw [a];show trivial) (.inl rfl) (λ i u b d=>(Yy s.heap (Obj.mapSeq f) (Ne.symm b)).trans d) #[_,q] ?_;show#[h,its',_,g,q]
theorem Inv.lnew (I:Inv X pins σ H s) (a:Vals ys its) (b:ys.length<=sizeLine):
  Inv X pins σ (upd H s.heap.objs.size (.lst ys)) { s with heap:=s.heap.push { cls:= .type "list",data:= .seq its.toArray },toks:=t' }:=
 I.laid (λ _ _ q=>Zd _ q) (Zo _) #[b,its,0,a,Zw _ rfl]
theorem Inv.fresh (I:Inv X pins σ H s):H s.heap.objs.size=none:=I.hok.fresh (Zo _)
theorem Inv.lstM (I:Inv X pins σ H s) (a:H l=some (.lst xs)):xs.length<=sizeLine/\ ∃ (its:List Value) (n:Nat),Vals xs its/\xs.length=its.length/\s.heap.get? l=some { cls:= .type "list",data:= .seq its.toArray n }:=by
 let#[z,its,n,r,e]:=I.hok l _ a;show#[z,its,n,r,r.length,e]
theorem pq (h:n<=sizeLine):Builtin.List.listTooLong n=false:=by
 unfold Builtin.List.listTooLong;show Yj ()
end
section
variable {X:Cx}
def bY:V->List V->Hp->VK->Prop:=λ x vs H Q=> ∃l xs y,x= .ref l/\vs=[y]/\H l=some (.lst xs)/\xs.length<sizeLine/\Q .non (upd H l (.lst (xs++[y])))
theorem vB:Oh X "list.append" bY:=by
 intro c s k H x vs v us Q I g f h;let#[l,xs,y,rfl,rfl,b,j,q]:=h
 cases g;let#[u,rfl,d]:=f.one;let#[z,a,n,r,i,e]:=I.lstM b;refine ä F.slot_list_append #[_,e,rfl] F.entry_list_append (F.args_list_append_2 _ _) (PySem.list_append l a.toArray n u (by rw [Zs];rfl')) #[e,?_];refine#[.non,_,I.lset (its':=a++[u]) b e (by simp) (r.append (.cons d .nil)) ?_,rfl,q];rw [Zf,Yf];rfl'
def mO:V->List V->Hp->VK->Prop:=λ x vs H Q=> ∃l b xs zs,x= .ref l/\vs=[.ref b]/\H l=some (.lst xs)/\H b=some (.lst zs)/\xs.length+zs.length<=sizeLine/\Q .non (upd H l (.lst (xs++zs)))
theorem vC:Oh X "list.extend" mO:=by
 intro g s C H x vs v us Q I w t h;let#[l,b,xs,zs,rfl,rfl,f,j,A,q]:=h
 cases w;let#[u,rfl,p]:=t.one
 cases p;let#[z,c,n,r,y,e]:=I.lstM f;let#[B,a,m,o,k,i]:=I.lstM j;have hsz:c.toArray.size+a.toArray.size<=sizeLine:=by rw [Zs,Zs];rfl'
 have d: ¬ (!c.toArray.isEmpty&&Builtin.List.listTooLong (c.toArray.size+a.toArray.size))=true:=by
  rw [pq hsz,Bool.and_false];show Zq
 refine ä F.slot_list_extend #[_,e,rfl] F.entry_list_extend (F.args_list_extend_2 _ _)
  (AutoSeq1.list_extend_list_list_0 l c.toArray n b a.toArray m d (by rw [Zs];rfl') ()) #[e,i,?_]
 refine#[.non,_,I.lset (its':=c++a) f e (by simp) (r.append o) ?_,rfl,q];rw [Zf];rfl'
def j8:R2:=λ x y H Q=> ∃l b xs zs,x= .ref l/\y= .ref b/\H l=some (.lst xs)/\H b=some (.lst zs)/\xs.length+zs.length<=sizeLine/\ ∀p,H p=none->Q (.ref p) (upd H p (.lst (xs++zs)))
theorem dC:eY X (binaryOp .Add) j8:=by
 intro d s C H x y v u Q I o p h;let#[l,b,xs,zs,rfl,rfl,j,i,w,q]:=h
 cases o
 cases p;let#[z,c,n,r,t,e]:=I.lstM j;let#[B,a,A,m,k,f]:=I.lstM i;refine PySem.P.add_list e f ?_ (by rw [Zs,Zs];rfl');have g:c.toArray++a.toArray=(c++a).toArray:=by simp
 rw [g];show#[.ref _,_,I.lnew (t':=s.toks) (r.append m) (by rw [Zf];rfl'),rfl,q _ I.fresh]
def Fi:R2:=λ x y H Q=> ∃l k xs,x= .ref l/\y= .int k/\H l=some (.lst xs)/\ -(2^63)<=k/\k<2^63/\xs.length*k.toNat<=sizeLine/\
 ∀p,H p=none->Q (.ref p) (upd H p (.lst (List.replicate k.toNat xs).flatten))
theorem len_rep {a:Type} (xs:List a) (k:Nat):(List.replicate k xs).flatten.length=k*xs.length:=by
 induction k with
 | zero=>simp
 | succ k ih=>rw [Xb,Wd,Zf,ih,Nat.succ_mul,Nat.add_comm]
theorem xf:eY X (binaryOp .Mult) Fi:=by
 intro w s K H x y v u Q I G J h;let#[l,k,xs,rfl,rfl,D,B,C,p,q]:=h
 cases G;let#[t,rfl]:=J;let#[z,b,n,r,E,e]:=I.lstM D;have g:b.toArray.size*k.toNat<=sizeLine:=by rw [Zs,<- E];show p
 have d: ¬b.toArray.size*k.toNat>(2^63-1) / 8:=by
  have:(sizeLine:Nat)<=(2^63-1) / 8:=by decide
  rfl'
 have f: ¬ (!Builtin.List.listFitsIndex k)=true:=by
  rw [fitsIndex_both B C];show Zq
 have c: ¬Builtin.List.listTooLong (b.toArray.size*k.toNat)=true:=by
  rw [pq g];show Zq
 have i:List.foldl (λ j o=>j++o) ([].toArray) (List.replicate (if b.toArray.isEmpty=true then 0 else k.toNat) b.toArray)=(List.replicate k.toNat b).flatten.toArray:=by
  have A: ∀m:Nat,List.foldl (λ j o=>j++o) ([].toArray) (List.replicate m b.toArray)=(List.replicate m b).flatten.toArray:=λ m=>by
   have:=foldl_rep b m [];rw [Ð] at this;show this
  rw [A]
  cases b with
  | nil=>simp
  | cons a r'=>rw [if_neg (by simp)]
 refine wpAny_binaryOp_repeat_ref (T:="list") (U:="int") (by decide) #[_,e,rfl] (λ s'=>typeIs_int s' k t) noFill_list_mul F.fills_int_mul é repeat_list F.slot_int_index.lookup
  (ä é (typeIs_int s k t) F.entry_int_rmul (F.args_int_rmul_2 _ _) (int___rmul___int_list k t l b.toArray n)
   #[e,rfl,#[_,e,rfl],ä F.slot_list_mul #[_,e,rfl] F.entry_list_mul (F.args_list_mul_2 _ _) (AutoListH.list___mul___list_int_3 l b.toArray n k t f d c) #[e,?_]])
 rw [i];show#[.ref _,_,I.lnew (t':=s.toks) (r.rep k.toNat) (by rw [len_rep,Nat.mul_comm];show p),rfl,q _ I.fresh]
end
end L2
namespace Att
open PySem PySem.W PySem.Calls PyProof.Rows
variable {n:Nat} {d:DefRec} {q:Program} {loose:List Str} {args:List WData} {vals:List Value} {YP:World->Heap->Prop} {XP:(Str->Option Value)->Heap->Prop}
theorem ju {P:Params} {h:Heap}: ∀ (ns:List Int) (vs:List Value),WellAll P h vs (ns.map WData.int)->IntsAre vs ns:=by
 intro ns;induction ns with
 | nil=>
  intro vs w;rw [Ā] at w
  cases w;show .nil
 | cons n ns ih=>
  intro vs w;rw [Zn] at w
  cases w with
  | cons a b=>
   cases a;show .cons _ _ (ih _ b)
theorem vD {l:OpenLaw} (p:l.most=some n) {P:Params} {h:Heap}
  (b:l.row.toRowW.claim.pre args=true) (i:WellAll P h vals args):
  ∃a vs ns,vals=[Value.ref a]/\args=[WData.list (ns.map WData.int)]/\h.get? a=some { cls:= .type "list",data:= .seq vs.toArray }/\IntsAre vs ns/\ns.length<=n:=by
 have g:WShape.hasAll [] args [.list .int]=true:=(pre_splitW b).1;have j:l.pre.holds [] { args:=args }=true:=(pre_splitW b).2;let#[d,r,rfl,k,m]:=hasAllW_cons g;obtain rfl:=hasAllW_nil m;let#[xs,rfl,o]:=hasW_list k;let#[ns,rfl]:=items_int o;have c:ns.length<=n:=by
  unfold OpenLaw.pre at j;have e:(WTm.not (.lt (.lit (.int (n:Int))) (.len (.arg 0)))).holds [] { args:=[.list (ns.map .int)] }=true:=by
   have e:=(holds_andW j).1;rw [p] at e;show e
  have f:=condW_of e (w_not (w_lt w_lit (w_len_list (w_arg rfl))));rw [Qb] at f;refine Nat.le_of_not_lt λ q=> ?_
  have s:(n:Int)<((ns.length:Nat):Int):=()
  first
   | (rw [Yi s] at f;show absurd f (by decide))
   | (simp at f;rfl')
 cases i with
 | cons w1 w2=>
  cases w2
  cases w1 with
  | list ho hall=>show#[_,_,ns,rfl,rfl,ho,ju ns _ hall,c]
theorem vG (l:OpenLaw) (args:List WData):l.row.toRowW.claim.post args (.bool true) args=true:=
 postW_of (r:=l.row.toRowW) (X:=(true==true))
  (show WShape.has [] (.bool true) .bool=true by first | rfl | decide | simp [WShape.has,WShape.arms,WShape.armsAll])
  (show(WTm.eq .res (.lit (.bool true))).value [] { args:=args,res:=some (.bool true),after:=args }=some (.bool (true==true)) from w_eq_bool (w_res rfl) w_lit) rfl
theorem pA {l:OpenLaw}
  (I:l.most=some n) (m:d.params.defaults=[])
  (b: ∀ (w:World) (s₀ s₁:Shared) (mg t:Str->Option Value) (g:Addr) (o:Obj) (u cd c:Value) (a:Addr) (vs:List Value) (ns:List Int),
   Ground q loose [] XP w s₀ mg t s₁.heap->YP w s₁.heap->
   s₁.heap.get? g=some o->o.data= .func (docDef d.name d.params d.body d.scope u cd c)->s₁.heap.CodeRec cd d.name->mg d.name=some (.ref g)->
   s₁.heap.get? a=some { cls:= .type "list",data:= .seq vs.toArray }->IntsAre vs ns->ns.length<=n->s₁.gens= ([].toArray)->
   codeAny (model l.prog w) callerA (.call (.ref g) #[[.ref a],[]]) (λ r s'=>r= .ok (.ret (.bool true))/\OldK s₁.heap s'.heap/\s'.os=s₁.os/\AllBare s'.gens) s₁):
  WalkO q loose XP YP l.row.toRowW d [] (λ f vs=>PySem.call f vs):=by
 intro w s₀ s₁ mg t G Y g o u cd c z kV J D k v p E args y M j x L s F;obtain rfl:z= .none:=Dflts.none v m;obtain rfl:kV= .none:=Dflts.noKw v;let#[a,vs,ns,rfl,rfl,i,e,h]:=vD I j s;refine enter_call (ë (b w s₀ s₁ mg t g o u cd c a vs ns G Y J (fd_plain D) k p i e h E) λ r s' K=> ?_);let#[rfl,A,B,C]:=K;show#[.inl #[.bool true, .bool true,[],rfl,λ _=>rfl, .bool true,vG l _,λ _=>#[List.Pairwise.nil,λ _ H=>(nomatch H)]],A,B,C]
section
variable {prog:Program} {w:World} {A:Around} {E:Value->Shared->Prop} {s:Shared} {K:Frag}
def ledger (h:Heap) (L d:Addr):List (Addr×Obj):=(List.range h.objs.size).filterMap λ a=>if a=L\/a=d then none else (h.get? a).map λ o=>(a,o)
end
end Att
namespace L2
open PySem PySem.Spec PyProof.Rows
variable {y:V} {σ:St} {n:Nat} {H H':Hp} {h':Heap} {st:Stmt} {w:World} {A:Around} {a f:Addr} {d:DefRec} {s₁:Shared} {qual x:Str} {fd:FuncData} {ks:List Key} {CX:World->wg} {sp:World->Sp} {d' oc u:Value} {loose:List Str} {prog q:Program} {YP:World->Heap->Prop} {pins:List (Addr×Obj)} {kvs:List (List Key×V)} {E Q:Value->Shared->Prop} {osl:Array (Option Value)} {XP:(Str->Option Value)->Heap->Prop}
theorem j9: ∀ {vs:List Value} {ns:List Int},IntsAre vs ns->Vals (ns.map V.int) vs
 | _,_, .nil=> .nil
 | _,_, .cons n t h=> .cons #[t,rfl] (j9 h)
def Only (H:Hp):Prop:= ∀b,H b=none\/ ∃o xs,H b=some (.frz o (.lst xs))
theorem xg {P:Program} {K:W.Frag} {E Q:Str->Option Value} {CX:wg} {k:Nat} {L:Addr} {sp:Sp} {vs:List Value} {ns:List Int}
  (S:K.In s₁.heap) (A:s₁.heap.Ns mainGlobals E) (f:s₁.heap.Ns builtinsNs Q) (N: ∀x:Str,x≠"__name__"->Q x=bootBuiltins x) (y:s₁.heap.NoLimit) (hg:s₁.gens= ([].toArray))
  (I:s₁.heap.get? a=some { cls:= .type "list",data:= .seq vs.toArray }) (Y:IntsAre vs ns) (Z:ns.length<=sizeLine) (hr:Room k callerA)
  (F: ∀base:Heap,K.In base->base.Ns mainGlobals E->FnOk P w K E base CX k L fd [x] sp) (j: ∀ (s:Shared) (u:Value),BindsTo s fd #[[u],[]] [(x,u)])
  (O: ∀H:Hp,Only H->SqL K H a (ns.map V.int)->sp [.ref a] H (λ v _=>v= .bl true) λ _ _ _=>False)
  (M: ∀H e s',CX [] H s₁ (λ _ _ _=>False) e s'->False):
  codeAny (model P w) callerA (.call (.ref L) #[[.ref a],[]]) (λ r s'=>r= .ok (.ret (.bool true))/\OldK s₁.heap s'.heap/\s'.os=s₁.os/\AllBare s'.gens) s₁:=by
 have rv:=j9 Y;have D:=Y.length;have i : ∀ H : Hp, Only H -> SqL K H a (ns.map V.int) -> HOk P w H s₁.heap -> (∀ b, H b ≠ none -> b = a) -> (H a ≠ none -> K.lookup a = none) ->
   codeAny (model P w) callerA (.call (.ref L) #[[.ref a],[]]) (λ r s'=>r= .ok (.ret (.bool true))/\OldK s₁.heap s'.heap/\s'.os=s₁.os/\AllBare s'.gens) s₁:=by
  intro H X hS B U hK;have c: ∀ {b:Addr} {o:Obj},s₁.heap.get? b=some o->H b=none->(m9 s₁.heap H).get? b=some o:=λ e n=>wy e n
  have R: ∀ {b:Addr} {o:Obj} {p:Array DictEntry} {ep:Nat},s₁.heap.get? b=some o->o.data= .dict p ep->H b=none:=λ {b o p ep} e d=>by
   cases q:H b with
   | none=>rfl
   | some u=>
    have J:b=a:=U b (by rw [q];simp);subst J;rw [I] at e;cases e;have d':Data.seq vs.toArray _=Data.dict p ep:=d
    cases d'
  have g: ∀ {b:Addr} {m:Str->Option Value},s₁.heap.Ns b m->(m9 s₁.heap H).Ns b m:=λ {b m} ⟨o,p,ep,e,d,r⟩=>#[o,p,ep,c e (R e d),d,r]
  have t:K.In (m9 s₁.heap H):=λ b o e=>c (S b o e) (by
   cases q:H b with
   | none=>rfl
   | some u=>
    have J:b=a:=U b (by rw [q];simp);subst J;rw [hK (by rw [q];simp)] at e;cases e)
  have hM:Mod K E (m9 s₁.heap H):=#[t,g A,#[Q,g f,N],let ⟨mc,h1,h2⟩:=y;#[mc,g h1,h2]];have e0:Env0 P w K E (m9 s₁.heap H) callerA [] s₁ H:=#[rfl,hM,λ b o e=>Bj e,Nat.le_of_eq (uY _ _),trivial,λ b f=>absurd (show b∈([]:List Addr) from f) (by simp),B, .of_eq hg];refine ë ((F _ t (g A)).run callerA [] s₁ H #[[.ref a],[]] [.ref a] [.ref a] _ _ hr e0 (j s₁ (.ref a)) (.cons rfl .nil) (O H X hS)) λ r s' h=> ?_
  cases r with
  | error e=>show(M H e s' h).elim
  | ok fl=>
   cases fl with
   | next=>show False.elim h
   | brk=>show False.elim h
   | cont=>show False.elim h
   | ret u=>
    let#[v,H',os,l,un,C,r',q]:=h;have q':v= .bl true:=q;subst q';obtain rfl:u=Value.bool true:=r';refine#[rfl,OldK.of_keep λ b o e=> ?_,os,l]
    cases q:H b with
    | none=>show un.keep b o e q (by intro z;show absurd (show b∈([]:List Addr) from z) (by simp)) (by simp)
    | some u=>
     rcases X b with z | ⟨ob,xs,z⟩
     .rw [q] at z;cases z
     .have z2:=un.frzs b ob _ z;let#[T,_]:=B b _ z;let#[e2,_]:=C b _ z2;rw [e] at T;cases T;show e2
 cases hk:K.lookup a with
 | some o=>
  have e:=S a o hk;rw [I] at e
  cases e;refine i (λ _=>none) (λ _=> .inl rfl) (.inr #[_,vs.toArray,_,hk,rfl,rfl,rfl,by rw [Zs,D];show Z,by simpa using rv]) (λ b u z=>by have G:(none:Option HO)=some u:=z;cases G) (λ b z=>absurd rfl z) λ z=>absurd rfl z
 | none=>
  refine i (λ b=>if b=a then some (.frz { cls:= .type "list",data:= .seq vs.toArray } (.lst (ns.map V.int))) else none) (λ b=> ?_) (.inl (.inr #[{ cls:= .type "list",data:= .seq vs.toArray },if_pos rfl])) (λ b u z=> ?_) (λ b z=> ?_) λ _=>hk
  .by_cases f:b=a
   .exact .inr #[_,_,if_pos f]
   .exact .inl (if_neg f)
  .by_cases f:b=a
   .have G:=(if_pos f).symm.trans z
    cases G;subst f;show#[I,by rw [Qb];show Z,vs,_,rv,I]
   .have G:=(if_neg f).symm.trans z
    cases G
  .by_cases f:b=a
   .exact f
   .exact absurd (if_neg f) z
abbrev KOf {K:W.Frag} {h:Heap} (_:K.In h):W.Frag:=K
theorem BK {l:W.OpenLaw} {k:Nat} {K:Params->W.Frag}
  (P:l.most=some n) (z:n<=sizeLine) (t:d.params.defaults=[]) (Q:Room k callerA)
  (L: ∀ (w:World) (h:Heap),YP w h->(K w.params).In h)
  (F: ∀ (w:World) (mg:Str->Option Value) (p:Addr) (h:Heap),(K w.params).In h->h.Ns mainGlobals mg->mg d.name=some (.ref p)->
   ∃fd:FuncData,(∀ (s:Shared) (u:Value),BindsTo s fd #[[u],[]] [(x,u)])/\
    ∀base:Heap,(K w.params).In base->base.Ns mainGlobals mg->FnOk l.prog w (K w.params) mg base (CX w) k p fd [x] (sp w))
  (A: ∀ (w:World) (H:Hp) (a:Addr) (ns:List Int),ns.length<=n->Only H->SqL (K w.params) H a (ns.map V.int)->sp w [.ref a] H (λ v _=>v= .bl true) λ _ _ _=>False)
  (r: ∀ (w:World) (H:Hp) (s:Shared) (e:Value) (s':Shared),CX w [] H s (λ _ _ _=>False) e s'->False):
  PySem.W.WalkO q loose XP YP l.row.toRowW d [] (λ f vs=>PySem.call f vs):=by
 refine Att.pA P t λ w C m mg X p o Z R D a vs ns G Y U S N y j i c O=> ?_
 have B:=L w _ Y;let#[fd,M,E]:=F w mg p _ B G.T.g y;show xg B G.T.g G.T.b G.T.builtins G.T.nolimit O j i (Zy c z) Q E M (λ H I J=>A w H a ns c I J) λ H e s'=>r w H m e s'
abbrev DG:wg:=λ _ _ _ _ _ _=>False
abbrev E0:XK:=λ _ _ _=>False
theorem DK {X:Cx}:dR DG X E0:=λ _ _ _ _ _ _ _ h=>h.elim
structure Fun (K:W.Frag) (x qual:Str) (st:Stmt) (f:Addr) (fd:FuncData):Prop where
 ex: ∃ (oc:Value) (od:Option Addr) (kV doc pm:Value) (an:Option Addr) (cdv ct:Value) (osl:Array (Option Value)),
  fd=W.fnOf x qual (cX st) (cA st) (az st) .none kV doc pm an cdv ct/\K.lookup f=some #[oc,od, .func fd,osl]/\W.codeIn K cdv qual=true
 kp:W.keepIn K (.ref f)=true
section
variable {P:Program} {w:World} {K:W.Frag} {mg:Str->Option Value} {base:Heap}
theorem Fun.ok {N g:List Str} {k:Nat} {sp:Sp} (F:Fun K x qual st f fd) (S:FnScope N g (az st)) (e: ∀vs H Q E,sp vs H Q E->vs.length=g.length)
  (b: ∀ (a:Value) (A:Around) (outer:List Env) (s:Shared) (H:Hp) (vs:List V) (Q:VK) (E:XK),Room k (A.deeper (envOfC qual (az st) s.heap.objs.size f a))->sp vs H Q E->
   ∃t,PSs (gZ DG P w K mg base N qual (az st) f a A outer s H E).nox (cA st) t/\t { nx:=λ _ H'=>Q .non H',rt:=Q } (start N vs) H):FnOk P w K mg base DG (k+1) f fd g sp:=by
 let#[n,o,kV,i,p,m,a,ct,l,rfl,lk,c]:=F.ex;refine Dy lk c S e λ A outer s H vs Q E j d=> ?_
 let#[t,h,q]:=b a A outer s H vs Q E j d;show#[t,h.nox,q]
theorem Fun.binds {e:List Str} (F:Fun K x qual st f fd)
  (h: ∀ (kV b d:Value) (c:Option Addr) (a ct:Value) (us:List Value),us.length=e.length->bindArgs (W.fnOf x qual (cX st) (cA st) (az st) .none kV b d c a ct) #[us,[]]=pure (e.zip us)):Binds K fd e []:=by
 let#[j,k,kV,b,d,c,a,ct,i,rfl,lk,g]:=F.ex;show .all (h kV b d c a ct)
theorem jN {g d:Option Addr} {kV b e a ct:Value} (l:K.lookup f=some #[oc,g, .func (W.fnOf x qual (cX st) (cA st) (az st) .none kV b e d a ct),osl])
  (c:W.codeIn K a qual=true) (k:W.keepIn K (.ref f)=true):Fun K x qual st f (W.fnOf x qual (cX st) (cA st) (az st) .none kV b e d a ct):=#[#[oc,g,kV,b,e,d,a,ct,osl,rfl,l,c],k]
end
theorem c7 {k:Nat} (a:Room k A):A.units+1<cLine:=Yg (Nat.add_le_add_left (by decide:1<=64) _) a.units
theorem vH (h:n<=1000):n<sizeLine:=Yg h (by decide)
section
variable {X:Cx}
theorem pv (i:Nat) {x:Str} {pos:Pos} (b:X.N[i]? =some x:=by rfl) (d:Mq X.env.scope x:=by first | show Or.inl rfl | show Or.inr (Or.inl rfl) | show Or.inr (Or.inr rfl)) (c:(x==("__debug__":Str))=false:=by decide)
  (a:(x==("__classdict__":Str))=false:=by decide):PE X (.Name x pos) (ak i):=Ep b d c a
end
theorem xj {A B:Prop} (h:B):if false=true then A else B:=by
 rw [if_neg Zq];show h
theorem xm {A B:Prop} (h:A):if true=true then A else B:=by
 rw [if_pos rfl];show h
def Same (H H':Hp):Prop:= ∀b o,H b=some o->H' b=some o
theorem Same.refl (H:Hp):Same H H:=λ _ _ h=>h
theorem Same.trans {H1 H2:Hp} (a:Same H H1) (b:Same H1 H2):Same H H2:=λ c o h=>b c o (a c o h)
theorem Same.free (e:Same H H') {l:Addr} (h:H' l=Option.none):H l=Option.none:=by
 cases q:H l with
 | none=>rfl
 | some o=>
  rw [e l o q] at h
  cases h
theorem Same.seq {K:W.Frag} {xs:List V} (e:Same H H') (h:SqL K H a xs):SqL K H' a xs:=by
 rcases h with (h | ⟨o,h⟩) | h
 .exact .inl (.inl (e _ _ h))
 .exact .inl (.inr #[o,e _ _ h])
 .exact .inr h
section
variable {κ:Type} [DecidableEq κ]
def dh (kvs:List (κ×V)) (k:κ):Option V:=(kvs.find? λ kv=>decide (kv.1=k)).map (·.2)
def putK (kvs:List (κ×V)) (k:κ) (v:V):List (κ×V):=
 if (kvs.any λ kv=>decide (kv.1=k))=true then kvs.map (λ kv=>if kv.1=k then (kv.1,v) else kv) else kvs++[(k,v)]
def Je (kvs:List (κ×V)) (k:κ):List (κ×V):=kvs.filter λ kv=>decide (kv.1≠k)
theorem fX {p:κ×V} {r:List (κ×V)} {k:κ} (e:p.1=k):dh (p::r) k=some p.2:=by simp [dh,Wb,e]
theorem dZ {p:κ×V} {r:List (κ×V)} {k:κ} (e: ¬p.1=k):dh (p::r) k=dh r k:=by simp [dh,Wb,e]
theorem iG (k:κ): ∀kvs:List (κ×V),(kvs.any λ a=>decide (a.1=k))=(dh kvs k).isSome
 | []=>rfl
 | p::r=>by
  rw [Î];by_cases e:p.1=k
  .simp only [fX e,Yi e,Bool.true_or,Option.isSome_some]
  .rw [dZ e,Yj e,Bool.false_or];show iG k r
theorem jk (kvs:List (κ×V)) (k:κ) (v:V):(putK kvs k v).length<=kvs.length+1:=by
 unfold putK;split
 .rw [Qb];rfl'
 .rw [Zf,Wo,List.length_nil];rfl'
theorem pB {kvs:List (κ×V)} {k:κ} (v:V) (h:dh kvs k=none):putK kvs k v=kvs++[(k,v)]:=by
 unfold putK;rw [iG,h];show if_neg (by decide)
theorem RelO.isSome_eq {o:Option V} {u:Option Value} (r:RelO o u):o.isSome=u.isSome:=by
 cases o with
 | none=>cases u with
  | none=>rfl
  | some _=>show(show False from r).elim
 | some _=>cases u with
  | none=>show(show False from r).elim
  | some _=>rfl
theorem RelO.getD {o:Option V} {u:Option Value} {d:V} (r:RelO o u) (a:RelV d d'):RelV (o.getD d) (u.getD d'):=by
 cases o with
 | none=>cases u with
  | none=>show a
  | some _=>show(show False from r).elim
 | some _=>cases u with
  | none=>show(show False from r).elim
  | some _=>show r
theorem KV.val {kvs:List (κ×V)} {vs:List (κ×Value)} (r:KV kvs vs) (k:κ):RelO (dh kvs k) (valueAt vs k):=by
 unfold KV at r;induction r with
 | nil=>show True.intro
 | @cons p q ps qs h t ih=>
  let#[c,d]:=h;by_cases e:p.1=k
  .have a:q.1=k:=c.symm.trans e;have b:valueAt (q::qs) k=some q.2:=by simp [valueAt,Wb,a]
   rw [fX e,b];show d
  .have a: ¬q.1=k:=λ z=>e (c.trans z)
   have b:valueAt (q::qs) k=valueAt qs k:=by simp [valueAt,Wb,a]
   rw [dZ e,b];show ih
theorem KV.any {kvs:List (κ×V)} {vs:List (κ×Value)} (r:KV kvs vs) (k:κ):(kvs.any λ a=>decide (a.1=k))=vs.any λ a=>decide (a.1=k):=by
 unfold KV at r;induction r with
 | nil=>rfl
 | cons h t ih=>rw [Î,Î,ih,h.1]
theorem KV.repl {kvs:List (κ×V)} {vs:List (κ×Value)} (r:KV kvs vs) (k:κ) (d:RelV y u):
  KV (kvs.map λ a=>if a.1=k then (a.1,y) else a) (vs.map λ a=>if a.1=k then (a.1,u) else a):=by
 unfold KV at r ⊢;induction r with
 | nil=>show .nil
 | @cons p q ps qs h t ih=>
  rw [Zn,Zn];refine .cons ?_ ih;let#[b,c]:=h;by_cases e:p.1=k
  .rw [if_pos e,if_pos (b.symm.trans e)];show#[b,d]
  .rw [if_neg e,if_neg (λ z=>e (b.trans z))];show#[b,c]
theorem KV.put {kvs:List (κ×V)} {vs:List (κ×Value)} (r:KV kvs vs) (k:κ) (a:RelV y u):KV (putK kvs k y) (stored vs k u):=by
 unfold putK stored;rw [r.any k];by_cases e:(vs.any λ b=>decide (b.1=k))=true
 .rw [if_pos e,if_pos e];show r.repl k a
 .rw [if_neg e,if_neg e];show Paired.snoc r #[rfl,a]
theorem KV.keys {kvs:List (κ×V)} {vs:List (κ×Value)} (r:KV kvs vs):kvs.map (·.1)=vs.map (·.1):=by
 unfold KV at r;induction r with
 | nil=>rfl
 | cons h t ih=>rw [Zn,Zn,ih,h.1]
theorem KV.length {kvs:List (κ×V)} {vs:List (κ×Value)} (r:KV kvs vs):kvs.length=vs.length:=Ì r
end
theorem lO {P:Program} {k:Key} (r:RelV (kV k) u):(aY P w).is k u=true:=by
 cases k with
 | inl i=>let#[t,e]:=(show ∃t,u=Value.int i t from r);subst e;show oH P w i t
 | inr x=>let#[t,e]:=(show ∃t,u=Value.str x t from r);subst e;show oJ P w x t
theorem lQ {P:Program} {w:World}: ∀ {ks:List Key} {us:List Value},Vals (ks.map kV) us->ItemsAre (aY P w) ks us
 | [],_,r=>by rw [Ā] at r;cases r;show .nil
 | k::ks,_,r=>by
  rw [Zn] at r
  cases r with
  | cons h t=>show .cons (lO h) (lQ t)
abbrev KT (H:Hp):List (List Key×V)->List (List Key×Addr×Value)->Prop:=Paired λ p q=>p.1=q.1/\H q.2.1=some (.tup (p.1.map kV))/\RelV p.2 q.2.2
theorem KT.val {xs:List (List Key×Addr×Value)} (r:KT H kvs xs) (k:List Key):RelO (dh kvs k) ((atKey xs k).map (·.2)):=by
 induction r with
 | nil=>show True.intro
 | @cons p q ps qs h t ih=>
  let#[c,_,d]:=h;by_cases e:p.1=k
  .have a:q.1=k:=c.symm.trans e;have b:atKey (q::qs) k=some q.2:=by simp [atKey,Wb,a]
   rw [fX e,b];show d
  .have a: ¬q.1=k:=λ z=>e (c.trans z)
   have b:atKey (q::qs) k=atKey qs k:=by simp [atKey,Wb,a]
   rw [dZ e,b];show ih
theorem KT.repl {xs:List (List Key×Addr×Value)} (r:KT H kvs xs) (k:List Key) (f:RelV y u):
  KT H (kvs.map λ b=>if b.1=k then (b.1,y) else b) (xs.map (putAt k u)):=by
 induction r with
 | nil=>show .nil
 | @cons p q ps qs h t ih=>
  rw [Zn,Zn];refine .cons ?_ ih;let#[a,c,d]:=h;unfold putAt;by_cases e:p.1=k
  .rw [if_pos e,if_pos (a.symm.trans e)];show#[a,c,f]
  .rw [if_neg e,if_neg (λ z=>e (a.trans z))];show#[a,c,d]
theorem KT.put {xs:List (List Key×Addr×Value)} (r:KT H kvs xs) (k:List Key) {b:Addr} (c:H b=some (.tup (k.map kV))) (a:RelV y u):
  KT H (putK kvs k y) (storedH xs k b u):=by
 have e:(kvs.any λ d=>decide (d.1=k))=(atKey xs k).isSome:=by
  rw [iG,(r.val k).isSome_eq,ò]
 unfold putK storedH;rw [e];by_cases q:(atKey xs k).isSome=true
 .rw [if_pos q,if_pos q];show r.repl k a
 .rw [if_neg q,if_neg q];show Paired.snoc r #[rfl,c,a]
theorem KT.keeps {xs:List (List Key×Addr×Value)} (r:KT H kvs xs) (a: ∀b ys,H b=some (.tup ys)->H' b=some (.tup ys)):KT H' kvs xs:=
 Paired.mapP r λ _ _ z=>#[z.1,a _ _ z.2.1,z.2.2]
section
variable {P:Program} {w:World} {H:Hp} {h:Heap} {a:Addr}
theorem DN {u:HO} (b:HOk P w H h) (e:Rd H a u):ObjOk P w H h a u:=e.ok b
theorem gK {kvs:List (Key×V)} (b:HOk P w H h) (e:Rd H a (.dK kvs)):kvs.length<=sizeLine/\(a==sysModules)=false/\ ∃vs,KV kvs vs/\h.DictOf (aY P w) a vs:=
 show ObjOk P w H h a (.dK kvs) from DN b e
theorem Jf {kvs:List (Key×V)} (b:HOk P w H h) (e:H a=some (.dK kvs)):kvs.length<=sizeLine/\(a==sysModules)=false/\ ∃vs,KV kvs vs/\h.DictOf (aY P w) a vs:=gK b (.inl e)
theorem jb (g:HOk P w H h) (e:H a=some (.tup (ks.map kV))):(tupleKind (aY P w)).is h ks a:=by
 let#[_,b,r,o,c,d,n,f]:=(show ObjOk P w H h a (.tup (ks.map kV)) from g a _ e);show#[o,b.toArray,n,c,d,f,by simpa using lQ r]
theorem jO (c:HOk P w H h) (e:Rd H a (.dT kvs)):kvs.length<=sizeLine/\(a==sysModules)=false/\
  ∃xs,KT H kvs xs/\h.DictOfH (tupleKind (aY P w)) a xs:=by
 let#[z,y,xs,r,o,d,ep,f,g,i,j,k]:=(show ObjOk P w H h a (.dT kvs) from DN c e);refine#[z,y,xs,r,o,d,ep,f,g,i,j,λ x b=> ?_,k];have all: ∀ {l:List (List Key×V)} {m:List (List Key×Addr×Value)},KT H l m-> ∀x∈m,(tupleKind (aY P w)).is h x.1 x.2.1:=by
  intro l m q;induction q with
  | nil=>intro x b;show nomatch b
  | @cons p q ps qs hq t ih=>
   intro x b;rcases Zx.mp b with e | b
   .subst e;show jb c (by rw [<- hq.1];show hq.2.1)
   .exact ih x b
 show all r x b
theorem Jg (b:HOk P w H h) (e:H a=some (.dT kvs)):kvs.length<=sizeLine/\(a==sysModules)=false/\
  ∃xs,KT H kvs xs/\h.DictOfH (tupleKind (aY P w)) a xs:=jO b (.inl e)
end
def DGet (H:Hp) (a:Addr) (y:V) (r:Option V):Prop:=
 (∃kvs k,Rd H a (.dK kvs)/\y=kV k/\r=dh kvs k)\/ ∃kvs k b,Rd H a (.dT kvs)/\y= .ref b/\H b=some (.tup (k.map kV))/\r=dh kvs k
def DPut (H:Hp) (a:Addr) (y v:V) (H':Hp):Prop:=
 (∃kvs k,H a=some (.dK kvs)/\y=kV k/\kvs.length<sizeLine/\H'=upd H a (.dK (putK kvs k v)))\/
 ∃kvs k b,H a=some (.dT kvs)/\y= .ref b/\H b=some (.tup (k.map kV))/\kvs.length<sizeLine/\H'=upd H a (.dT (putK kvs k v))
theorem DGet.k {H:Hp} {a:Addr} {kvs:List (Key×V)} {k:Key} (e:H a=some (.dK kvs)):DGet H a (kV k) (dh kvs k):= .inl #[kvs,k, .inl e,rfl,rfl]
theorem DPut.k {H:Hp} {a:Addr} {kvs:List (Key×V)} {k:Key} {v:V} (e:H a=some (.dK kvs)) (b:kvs.length<sizeLine):DPut H a (kV k) v (upd H a (.dK (putK kvs k v))):= .inl #[kvs,k,e,rfl,b,rfl]
section
variable {X:Cx} {pins:List (Addr×Obj)} {σ:St} {H:Hp} {s:Shared} {a:Addr} {y v:V} {u r:Value} {o:Option V} {A:Around} {E:Value->Shared->Prop}
theorem Inv.big (I:Inv X pins σ H s):sysModules<s.heap.objs.size:=by
 have h:mainGlobals<s.heap.objs.size:=(I.mod.glob.keeps I.bk).lt;show Ü (by decide) h
theorem vI (r:A.units+1<cLine) (I:Inv X pins σ H s) (g:DGet H a y (some v)) (m:RelV y u) (h: ∀f s',Inv X pins σ H s'->RelV v f->Q f s'):
  wpAny (model X.prog X.w) A (getItem (.ref a) u) Q E s:=by
 rcases g with ⟨kvs,k,e,ey,l⟩ | ⟨kvs,k,b,e,ey,eb,l⟩
 .subst ey;let#[z,n,vs,c,dd]:=gK I.hok e;let#[f,j,d]:=RelO.some_of (v:=v) (o:=valueAt vs k) (by rw [l];show c.val k);show wpAny_getItem_of (lO m) dd.mapOf j (h f _ (I.tok _) d)
 .subst ey
  cases (show u=Value.ref b from m);let#[z,n,xs,c,dd]:=jO I.hok e;let#[f,j,d]:=RelO.some_of (v:=v) (o:=(atKey xs k).map (·.2)) (by rw [l];show c.val k);let#[p,q,i]:=Yk.mp j;refine wpAny_getItem_heap (Ö r) (jb I.hok eb) dd q ?_;rw [i];show h f _ (I.tok _) d
theorem Mw (i:A.units+1<cLine) (I:Inv X pins σ H s) (g:DGet H a y o) (f:RelV y u) (h: ∀s',Inv X pins σ H s'->Q (.bool o.isSome) s'):
  wpAny (model X.prog X.w) A (compareOp .In u (.ref a)) Q E s:=by
 rcases g with ⟨kvs,k,e,ey,l⟩ | ⟨kvs,k,b,e,ey,eb,l⟩
 .subst ey;let#[z,d,vs,c,dd]:=gK I.hok e;refine wpAny_in_of (lO f) d dd.mapOf ?_;rw [<- (c.val k).isSome_eq,<- l];show h _ (I.tok _)
 .subst ey
  cases (show u=Value.ref b from f);let#[z,d,xs,c,dd]:=jO I.hok e;refine wpAny_in_heap (Ö i) (jb I.hok eb) d dd ?_;have q:=(c.val k).isSome_eq;rw [ò] at q;rw [<- q,<- l];show h _ (I.tok _)
theorem BL (i:A.units+1<cLine) (I:Inv X pins σ H s) (g:DGet H a y o) (f:RelV y u) (h: ∀s',Inv X pins σ H s'->Q (.bool (!o.isSome)) s'):
  wpAny (model X.prog X.w) A (compareOp .NotIn u (.ref a)) Q E s:=by
 rcases g with ⟨kvs,k,e,ey,l⟩ | ⟨kvs,k,b,e,ey,eb,l⟩
 .subst ey;let#[z,d,vs,c,dd]:=gK I.hok e;refine wpAny_notIn_of (lO f) d dd.mapOf ?_;rw [<- (c.val k).isSome_eq,<- l];show h _ (I.tok _)
 .subst ey
  cases (show u=Value.ref b from f);let#[z,d,xs,c,dd]:=jO I.hok e;refine wpAny_notIn_heap (Ö i) (jb I.hok eb) d dd ?_;have q:=(c.val k).isSome_eq;rw [ò] at q;rw [<- q,<- l];show h _ (I.tok _)
theorem uh {t':Nat} {ob:HO} (I:Inv X pins σ H s) (h:J3 (H a)) (g:Heap.SameBut a s.heap h') (f: ∃q,h'.get? a=some q) (c:ObjOk X.prog X.w (upd H a ob) h' a ob):
  Inv X pins σ (upd H a ob) { s with heap:=h',toks:=t' }:=
 I.write (x:=a) (e:=a) h (.inl rfl) (λ b q d z=>(g.2 b d).trans z) f c
theorem Fj {P:Program} {kvs:List (Key×V)} {vs:List (Key×Value)} (z:kvs.length<=sizeLine) (c:(a==sysModules)=false) (b:KV kvs vs) (dd:h'.DictOf (aY P w) a vs):
  ObjOk P w H' h' a (.dK kvs):=#[z,c,vs,b,dd]
theorem vJ {Q:Unit->Shared->Prop} (K:A.units+1<cLine) (I:Inv X pins σ H s) (g:DPut H a y v H') (x:RelV y u) (t:RelV v r) (h: ∀s',Inv X pins σ H' s'->Q Unit.unit s'):
  wpAny (model X.prog X.w) A (setItem (.ref a) u r) Q E s:=by
 rcases g with ⟨kvs,k,e,ey,l,eH⟩ | ⟨kvs,k,b,e,ey,eb,l,eH⟩
 .subst ey eH;let#[z,j,vs,d,dd]:=Jf I.hok e;have o:vs.length<=sizeLine:=by rw [<- d.length];show z
  have m:(putK kvs k v).length<=sizeLine:=by have:=jk kvs k v;rfl'
  refine wpAny_setItem_pairs (hsz:=o) (lO x) dd λ h' f n=>h _ ?_
  have J: ∃q,h'.get? a=some q:=let ⟨q,_,_,i,_⟩:=f;#[q,i];show uh I (by rw [e];show True.intro) n J (Fj m j (d.put k t) f)
 .subst ey eH
  cases (show u=Value.ref b from x);let#[z,j,xs,d,dd]:=Jg I.hok e;have o:xs.length<=sizeLine:=by rw [<- Ì d];show z
  have m:(putK kvs k v).length<=sizeLine:=by have:=jk kvs k v;rfl'
  refine wpAny_setItem_heap (hsz:=o) (Ö K) (jb I.hok eb) dd λ h' f n=>h _ ?_
  let#[q,B,ep,i,C,D,F,_,G]:=f;refine uh I (by rw [e];show True.intro) n ⟨q,i⟩ ⟨m,j,_,(d.put k eb t).keeps λ c ys p=> ?_,q,B,ep,i,C,D,F,G⟩;rw [aC (fJ p e (λ z=>nomatch z))];show p
end
def Jh (i:Expr):Prop:= ∀ov iv,subscripted i false ov iv=operate [ov,iv] (getItem ov iv)
theorem BP {s:Shared} {env:Env} {b a:Expr} {pos:Pos} {T id:String}
  (g:typeLookup (.type T) "__getitem__"=pure (some (.builtin id))) (j:Jh a)
  (h:wpAny (model prog w) A (eval b env) (λ o s₁=>wpAny (model prog w) A (eval a env) (λ i s₂=>s₂.TypeIs o T/\wpAny (model prog w) A (getItem o i) Q E s₂) E s₁) E s):
  wpAny (model prog w) A (eval (.Subscript b a pos) env) Q E s:=by
 refine Subscript_ (Yd h (λ o s₁ h₁=>Yd h₁ (λ i s₂ c=> ?_) λ _ _ x=>x) λ _ _ x=>x);let#[f,c]:=c;unfold subscriptTail;refine Qr ?_;rw [getitemInPython_of_ne f.not_modules];refine Qr (wpAny_specialOf f g ?_);have fin:wpAny (model prog w) A (subscripted a false o i) (λ r d=>wpAny (model prog w) A (letTemporaryGo b o r >>= λ _=>pure r) Q E d) E s₂:=by
  rw [j o i];show wpAny_operating (Yd c (λ r d e=>Qr (wpAny_letTemporaryGo (Zi e))) λ _ _ x=>x)
 first
  | show Zi (Qr fin)
  | show Qr (Zi (Qr fin))
  | show Qr fin
theorem pC {X:Cx} {s:Shared} {o:Option V} (I:Inv X pins σ H s) (g:DGet H a y o):s.TypeIs (.ref a) "dict":=by
 rcases g with ⟨kvs,k,e,_,_⟩ | ⟨kvs,k,b,e,_,_,_⟩
 .obtain ⟨_,_,vs,_,dd⟩:=gK I.hok e;show dd.typeIs
 .obtain ⟨_,_,xs,_,dd⟩:=jO I.hok e;show dd.typeIs
def fL (td ty:TE):TE:=λ σ H Q=>td σ H λ x H1=>ty σ H1 λ y H2=> ∃a v,x= .ref a/\DGet H2 a y (some v)/\Q v H2
def BR (ty td:TE):TE:=λ σ H Q=>ty σ H λ y H1=>td σ H1 λ x H2=> ∃a o,x= .ref a/\DGet H2 a y o/\Q (.bl o.isSome) H2
def dM (ty td:TE):TE:=λ σ H Q=>ty σ H λ y H1=>td σ H1 λ x H2=> ∃a o,x= .ref a/\DGet H2 a y o/\Q (.bl (!o.isSome)) H2
def jP (td ty tv:TE):TS:=λ D σ H=>tv σ H λ v H1=>td σ H1 λ x H2=>ty σ H2 λ y H3=> ∃a H4,x= .ref a/\DPut H3 a y v H4/\D.nx σ H4
section
variable {X:Cx} {o i e value:Expr} {pos pos' tpos:Pos} {td ty tv:TE}
theorem cY (p:X.A.units+1<cLine) (m:PE X o td) (l:PE X i ty) (n:Jh i):PE X (.Subscript o i pos) (fL td ty):=by
 intro b s e H Q I h;refine BP PySem.F.slot_dict_getitem.lookup n (bA (m b s e H _ I h) λ u z ⟨x,H1,f,t,q⟩=>bA (l b z e H1 _ f q) λ B C ⟨y,H2,d,w,a,v,k,g,r⟩=> ?_);subst k;obtain rfl:u=Value.ref a:=t;show#[pC d g,vI p d g w λ E D j c=>#[v,H2,j,c,r]]
theorem xn (m:X.A.units+1<cLine) (k:PE X i ty) (l:PE X o td):PC X .In i o (BR ty td):=by
 intro b s c H Q I h;refine bA (k b s c H _ I h) λ v t ⟨y,H1,d,r,n⟩=>bA (l b t c H1 _ d n) λ u w ⟨x,H2,e,q,a,ov,j,g,p⟩=> ?_
 subst j;obtain rfl:u=Value.ref a:=q;show Mw m e g r λ z f=>#[.bl ov.isSome,H2,f,rfl,p]
theorem eE (m:X.A.units+1<cLine) (k:PE X i ty) (l:PE X o td):PC X .NotIn i o (dM ty td):=by
 intro b s c H Q I h;refine bA (k b s c H _ I h) λ v t ⟨y,H1,d,r,n⟩=>bA (l b t c H1 _ d n) λ u w ⟨x,H2,e,q,a,ov,j,g,p⟩=> ?_
 subst j;obtain rfl:u=Value.ref a:=q;show BL m e g r λ z f=>#[.bl (!ov.isSome),H2,f,rfl,p]
theorem iH (q:X.A.units+1<cLine) (n:PE X o td) (m:PE X i ty) (t:PE X value tv) (p:swapsWith value (some (.Subscript o i pos')) pos.line X.env=pure false):
  PS X (.Assign [.Subscript o i pos'] value pos) (jP td ty tv):=by
 intro b s c H D I h;refine wpAny_Assign_Subscript (bA (t b s c H _ I h) λ r G ⟨v,H1,e,C,w⟩=>bA (n b G c H1 _ e w) λ u J ⟨x,H2,f,E,z⟩=>bA (m b J c H2 _ f z) λ K L ⟨y,H3,j,F,a,d,l,g,B⟩=> ?_) p;subst l;obtain rfl:u=Value.ref a:=E;show vJ q j g F C λ M k=>#[c,d,k,B]
end
theorem xq {P:Program} (h:Heap) (a:sysModules<h.objs.size):ObjOk P w H (h.push { cls:= .type "dict",data:= .dict ([].toArray) }) h.objs.size (.dK []):=
 #[Nat.zero_le _,Ë.mpr (Ne.symm (Yn a)),[], .nil,Heap.DictOf.new h]
def jQ:TE:=λ _ H Q=> ∀p,H p=none->Q (.ref p) (upd H p (.dK []))
def Mx:TE:=λ _ H Q=> ∀p,H p=none->Q (.ref p) (upd H p (.dT []))
section
variable {X:Cx} {pos:Pos}
theorem jR:PE X (.Dict [] [] pos) jQ:=λ b s c H Q I h=>
 wpAny_Dict_empty #[.ref s.heap.objs.size,_,I.laid (a:=s.heap.objs.size) (o:= .dK []) (t':=s.toks) (λ _ _ q=>Zd _ q) (Zo _) (xq s.heap I.big),rfl,h _ (I.hok.fresh (Zo _))]
end
def xr:List (TE×TE)->St->Hp->(List (V×V)->Hp->Prop)->Prop
 | [],_,H,Q=>Q [] H
 | (tk,tv)::r,σ,H,Q=>tk σ H λ x H1=>tv σ H1 λ y H2=>xr r σ H2 λ ps H3=>Q ((x,y)::ps) H3
def Fl (kvs more:List (Key×V)):List (Key×V):=more.foldl (λ acc kv=>putK acc kv.1 kv.2) kvs
def Oi (trs:List (TE×TE)):TE:=λ σ H Q=> ∀p,H p=none->xr trs σ (upd H p (.dK [])) λ ps H2=>H2 p=some (.dK [])/\ ∃kvs:List (Key×V),ps=kvs.map (λ kv=>(kV kv.1,kv.2))/\kvs.length<=15/\Q (.ref p) (upd H2 p (.dK (Fl [] kvs)))
structure M1 (X:Cx) (o:Expr) (m:Str) (apos:Pos) (e:Expr) (cpos:Pos):Prop where
 base:attributeBase o m X.env (eval o X.env)=eval o X.env
 few:((backTo cpos (starEach [e] X.env)).all (λ x=> !x.1)&&(backToKw cpos (keywordEach [] X.env)).all (λ x=>x.1.isSome)
  &&decide (([e]:List Expr).length+([]:List Keyword).length+(if ([]:List Keyword).isEmpty then 0 else 1)<30))=true
 line:(apos.endLine==cpos.line)=true
 trees:backTo cpos (starEach [e] X.env)=[(false,eval e X.env)]
structure M2 (X:Cx) (o:Expr) (m:Str) (apos:Pos) (e f:Expr) (cpos:Pos):Prop where
 base:attributeBase o m X.env (eval o X.env)=eval o X.env
 few:((backTo cpos (starEach [e,f] X.env)).all (λ x=> !x.1)&&(backToKw cpos (keywordEach [] X.env)).all (λ x=>x.1.isSome)
  &&decide (([e,f]:List Expr).length+([]:List Keyword).length+(if ([]:List Keyword).isEmpty then 0 else 1)<30))=true
 line:(apos.endLine==cpos.line)=true
 trees:backTo cpos (starEach [e,f] X.env)=[(false,eval e X.env),(false,eval f X.env)]
def Iz (H:Hp) (a:Addr):Prop:=(∃kvs,Rd H a (.dK kvs))\/ ∃kvs,Rd H a (.dT kvs)
theorem xu {X:Cx} {s:Shared} (I:Inv X pins σ H s) (d:Iz H a):
  s.TypeIs (.ref a) "dict"/\(∀b,Value.ref a= .ref b-> ∃ob,s.heap.get? b=some ob/\ob.dict=none)/\(a==sysModules)=false:=by
 rcases d with ⟨kvs,e⟩ | ⟨kvs,e⟩
 .obtain ⟨_,g,vs,_,dd⟩:=gK I.hok e;refine#[dd.typeIs,λ b q=> ?_,g]
  cases q;let#[ob,_,_,c,f,_]:=dd;show#[ob,c,f.2.1]
 .obtain ⟨_,g,xs,_,dd⟩:=jO I.hok e;refine#[dd.typeIs,λ b q=> ?_,g]
  cases q;let#[ob,_,_,c,f,_]:=dd;show#[ob,c,f.2.1]
section
variable {X:Cx} {pins:List (Addr×Obj)} {σ:St} {H:Hp} {s:Shared} {a:Addr} {y d:V} {u r:Value} {o:Option V} {A:Around} {E:Value->Shared->Prop}
theorem Fp (n:A.units+1<cLine) (I:Inv X pins σ H s) (g:DGet H a y o) (j:RelV y u) (i:RelV d r) (h: ∀m s',Inv X pins σ H s'->RelV (o.getD d) m->Q m s'):
  wpAny (model X.prog X.w) A (call (.builtin "dict.get") [.ref a,u,r]) Q E s:=by
 rcases g with ⟨kvs,k,e,ey,l⟩ | ⟨kvs,k,b,e,ey,eb,l⟩
 .subst ey;let#[z,f,vs,c,dd]:=gK I.hok e;refine call_meetsIn á dd.typeIs PySem.F.entry_dict_get (PySem.F.args_dict_get_3 _ _ _) (meets_dict_get_default (aY X.prog X.w) a (lO j) f r) #[_,dd.mapOf,h _ _ (I.tok _) ?_];rw [l];show(c.val k).getD i
 .subst ey
  cases (show u=Value.ref b from j);let#[z,f,xs,c,dd]:=jO I.hok e;refine call_meetsIn á dd.typeIs PySem.F.entry_dict_get (PySem.F.args_dict_get_3 _ _ _) (meetsH_dict_get_default (tupleKind (aY X.prog X.w)) a b f r) #[tupleKind_room_in1 n,k,xs,jb I.hok eb,dd,h _ _ (I.tok _) ?_];rw [l];show(c.val k).getD i
end
def My (td ty:TE):TE:=λ σ H Q=>td σ H λ x H1=> ∃a,x= .ref a/\Iz H1 a/\ty σ H1 λ y H2=> ∃o,DGet H2 a y o/\Q (o.getD .non) H2
def qR (td ty tx:TE):TE:=λ σ H Q=>td σ H λ x H1=> ∃a,x= .ref a/\Iz H1 a/\ty σ H1 λ y H2=>tx σ H2 λ z H3=> ∃o,DGet H3 a y o/\Q (o.getD z) H3
section
variable {X:Cx} {o e f:Expr} {apos cpos:Pos} {td ty tx:TE}
theorem xx (v:X.A.units+1<cLine) (t:PE X o td) (q:PE X e ty) (r:PE X f tx) (m:M2 X o "get" apos e f cpos):PE X (.Call (.Attribute o "get" apos) [e,f] [] cpos) (qR td ty tx):=by
 intro b s i H Q I h;refine wpAny_Call_method m.base m.few m.line PySem.F.plainAttrs_dict á PySem.F.type_dict_get (bA (t b s i H _ I h) λ u J ⟨x,H1,j,D,a,p,d,w⟩=> ?_);subst p;obtain rfl:u=Value.ref a:=D;let#[L,M,_]:=xu j d;refine#[L,M,?_];rw [m.trees];refine Û rfl (Å (Wq (bA (q b J i H1 _ j w) λ O K ⟨y,H2,k,E,B⟩=>
  Wq (bA (r b K i H2 _ k B) λ N P ⟨z,H3,l,G,ov,g,C⟩=>Ú ?_))))
 show Fp v l g E G λ S R n c=>#[_,H3,n,c,C]
end
end L2
set_option linter.all false
namespace Bm
def pop:Nat->Nat
 | 0=>0
 | n+1=>(n+1)%2+pop ((n+1) / 2)
decreasing_by rfl'
def bits (k n:Nat):List Nat:=(List.range k).filter λ i=>n.testBit i
end Bm
set_option linter.all false
section
namespace L2
open PySem PySem.Spec PyProof.Rows
variable {σ:St} {tl:TE} {wi:TI} {H H':Hp} {M:Model} {env:Env} {h':Heap} {pos:Pos} {tg:Expr} {v:Value} {w:World} {A:Around} {i k n:Nat} {s':Shared} {f:Obj->Obj} {N':List Str} {fd:FuncData} {ms:List Int} {newId:String} {ifs:List Expr} {C a p x y:Addr} {bmB:List Value} {outer:List Env} {esc sc scope:Scope} {κ:List (Option Nat)} {Q:Unit->Shared->Prop} {m':Str->Option Value} {pins:List (Addr×Obj)} {E:Value->Shared->Prop} {RR:Value->Addr->Result->Shared->Prop}
abbrev blk (X:Cx) (sc:Scope) (N':List Str) (cl:List (Str×Addr)) (C:Addr) (s:Shared) (H:Hp) (fp:List Addr) (pins:List (Addr×Obj)):Cx where
 prog:=X.prog
 w:=X.w
 K:=X.K
 mg:=X.mg
 base:=X.base
 A:=X.A
 N:=N'
 s₀:=s
 H₀:=H
 env:=compEnvC sc cl C X.env
 outer:=X.stack
 stack:=X.stack
 ex:=fp
 fn:=λ _=>false
 calm:=X.calm
 pn:=X.pn++pins
 xe:=λ _ _=>False
structure CScope (esc sc:Scope):Prop where
 kind:sc.kind= .function
 nocell: ∀y∈sc.names,y.2≠ .cell
 locs: ∀y∈sc.names,y.2= .local->sc.names.lookup y.1=some .local
 frees: ∀y∈sc.names,y.2= .free->esc.names.lookup y.1=some .cell\/esc.names.lookup y.1=some .free
theorem mem_lookup {a:Type} {x:Str} {k:a}: ∀ {l:List (Str×a)},l.lookup x=some k->(x,k)∈l
 | [],h=>by simp at h
 | (n,k')::r,h=>by
  rw [Xl] at h
  cases e:x==n with
  | true=>
   rw [e] at h;have b:x=n:=ú e;injection h with h
   subst b;subst h;show Zp
  | false=>
   rw [e] at h;show Zu _ (mem_lookup h)
theorem mQ {env:Env}: ∀ (names:List (Str×NameKind)) (cs:List (Str×Addr)),(∀y∈names,y.2= .free-> ∃c,env.cells.lookup y.1=some c)->(∀x c,cs.lookup x=some c->env.cells.lookup x=some c)->
  ∃cl:List (Str×Addr),(forIn names cs λ (y:Str×NameKind) (r:List (Str×Addr))=>(if (y.2==NameKind.free)=true then (cellOf env y.1 >>= λ c=>pure (ForInStep.yield ((y.1,c)::r))) else pure (ForInStep.yield r):Sem (ForInStep (List (Str×Addr)))))=pure cl/\
   (∀x c,cl.lookup x=some c->env.cells.lookup x=some c)/\ ∀x c,env.cells.lookup x=some c->((x,NameKind.free)∈names\/cs.lookup x=some c)->cl.lookup x=some c
 | [],cs,_,hcs=>#[cs,rfl,hcs,λ x c _ h=>h.elim (λ z=>nomatch z) id]
 | (n, k) :: r, cs, hf, hcs => by
  have g: ∀y∈r,y.2= .free-> ∃c,env.cells.lookup y.1=some c:=λ y t=>hf y (Zu _ t)
  by_cases p:k= .free
  .subst p;let#[c,m]:=hf (n, .free) Zp rfl;have s:cellOf env n=pure c:=by
    have o:env.cells.lookup n=some c:=m;unfold cellOf;rw [o]
   have f: ∀x b,((n,c)::cs).lookup x=some b->env.cells.lookup x=some b:=λ x b h=>by
    rw [Xl] at h
    cases e:x==n with
    | true=>
     rw [e] at h;injection h with h
     have d:x=n:=ú e;subst d;subst h;show m
    | false=>rw [e] at h;show hcs x b h
   let#[cl,e,j,l]:=mQ r ((n,c)::cs) g f;refine#[cl,?_,j,λ x b i a=>l x b i ?_]
   .rw [ą];simp only [beq_self_eq_true,ð];rw [s];show e
   .rw [Xl]
    cases ex:x==n with
    | true=>
     right;have d:x=n:=ú ex;subst d;show m.symm.trans i
    | false=>
     rcases a with a | a
     .rcases Zx.mp a with z | z
      .have d:x=n:=Zk Prod.fst z;subst d;rw [beq_self_eq_true] at ex
       cases ex
      .exact .inl z
     .exact .inr a
  .obtain ⟨cl,e,j,l⟩:=mQ r cs g hcs;have q:(k==NameKind.free)=false:=by
    cases k<;>first | rfl | show absurd rfl p
   refine#[cl,?_,j,λ x b i a=>l x b i ?_]
   .rw [ą];simp only [q,Xj,Í];show e
   .rcases a with a | a
    .rcases Zx.mp a with z | z
     .exact absurd (Zk Prod.snd z).symm p
     .exact .inl z
    .exact .inr a
theorem mR (f: ∀y∈sc.names,y.2= .free-> ∃c,env.cells.lookup y.1=some c):
  ∃cl:List (Str×Addr),closureFor sc env=pure cl/\(∀x c,cl.lookup x=some c->env.cells.lookup x=some c)/\ ∀x c,env.cells.lookup x=some c->(x,NameKind.free)∈sc.names->cl.lookup x=some c:=by
 let#[cl,e,b,d]:=mQ (env:=env) sc.names [] f (λ x c h=>by simp at h);refine#[cl,?_,b,λ x c i g=>d x c i (.inl g)];have q:closureFor sc env=((forIn sc.names [] λ (y:Str×NameKind) (r:List (Str×Addr))=>(if (y.2==NameKind.free)=true then (cellOf env y.1 >>= λ c=>pure (ForInStep.yield ((y.1,c)::r))) else pure (ForInStep.yield r):Sem (ForInStep (List (Str×Addr))))) >>= λ a=>pure a):=by
  first
   | rfl
   | (unfold closureFor;congr 1)
 rw [q,e];rfl
theorem fc {env:Env} {x:Str}: ∀ {names:List (Str×NameKind)},
  (names.map λ (n,k)=>if (k==NameKind.free&&env.scope.kind== .function&&env.kindOf n==some .cell) then (n,NameKind.cell) else (n,k)).lookup x=
   (names.lookup x).map λ k=>if (k==NameKind.free&&env.scope.kind== .function&&env.kindOf x==some .cell) then NameKind.cell else k
 | []=>rfl
 | (n, k) :: r => by
  have c:=fc (env:=env) (x:=x) (names:=r);change List.lookup x ((if (k==NameKind.free&&env.scope.kind== .function&&env.kindOf n==some .cell)=true then (n,NameKind.cell) else (n,k))::_)=_;rw [Xl (b:=k)]
  cases hx:x==n with
  | true=>
   have e:x=n:=ú hx;subst e;by_cases a:(k==NameKind.free&&env.scope.kind== .function&&env.kindOf x==some .cell)=true
   .rw [if_pos a,Xl,hx];change some NameKind.cell=some (if (k==NameKind.free&&env.scope.kind== .function&&env.kindOf x==some .cell)=true then NameKind.cell else k);rw [if_pos a]
   .rw [if_neg a,Xl,hx];change some k=some (if (k==NameKind.free&&env.scope.kind== .function&&env.kindOf x==some .cell)=true then NameKind.cell else k);rw [if_neg a]
  | false=>
   by_cases a:(k==NameKind.free&&env.scope.kind== .function&&env.kindOf n==some .cell)=true
   .rw [if_pos a,Xl,hx];show c
   .rw [if_neg a,Xl,hx];show c
theorem CScope.free_of (S:CScope esc sc) {x:Str} (h:(relabel sc env).names.lookup x=some .cell\/(relabel sc env).names.lookup x=some .free):(x,NameKind.free)∈sc.names:=by
 have q:(relabel sc env).names.lookup x=_:=fc (env:=env) (x:=x) (names:=sc.names);rw [q] at h
 cases e:sc.names.lookup x with
 | none=>rw [e] at h;simp at h
 | some k=>
  have a:=mem_lookup e;have b:=S.nocell _ a
  cases k with
  | free=>show a
  | cell=>show absurd rfl b
  | _=>rw [e] at h;simp at h
theorem CScope.cell_of (S:CScope esc sc) (a:env.scope=esc) (b:env.scope.kind= .function) {x:Str} (h:sc.names.lookup x=some .free):(relabel sc env).names.lookup x=some .cell\/(relabel sc env).names.lookup x=some .free:=by
 have q:(relabel sc env).names.lookup x=_:=fc (env:=env) (x:=x) (names:=sc.names);rw [q,h];simp only [Wu];split
 .exact .inl rfl
 .exact .inr rfl
def cap (κ:List (Option Nat)) (σ:St):St:=κ.map λ o=>o.bind λ i=>(σ[i]?).join
def capOk (κ:List (Option Nat)) (N' N:List Str) (sc:Scope):Bool:=
 decide (κ.length=N'.length)&&(κ.zip N').all λ p=>match p.1 with
  | none=>true
  | some i=>N[i]? ==some p.2&&sc.names.lookup p.2==some .free
theorem capOk.len {N:List Str} (h:capOk κ N' N sc=true):κ.length=N'.length:=by
 unfold capOk at h;rw [Xm] at h;show Ys h.1
theorem capOk.at {b:List (Option Nat)} {c N:List Str} {sc:Scope} (h:capOk b c N sc=true) {j:Nat} {y:Str} {v:V} {d:St} (f:c[j]? =some y) (a:(cap b d)[j]? =some (some v)):
  ∃i:Nat,N[i]? =some y/\d[i]? =some (some v)/\sc.names.lookup y=some .free:=by
 unfold capOk at h;rw [Xm,û] at h;unfold cap at a;rw [Zm] at a
 cases e:b[j]? with
 | none=>rw [e] at a;simp at a
 | some o=>
  rw [e] at a;simp only [Wu,Option.some.injEq] at a
  cases o with
  | none=>simp at a
  | some i=>
   have g:(some i,y)∈b.zip c:=Zg (i:=j) (by rw [List.getElem?_zip_eq_some];show#[e,f]);have q:=h.2 _ g;simp only [Xm,ā] at q;refine#[i,q.1,?_,q.2];simp only [Option.bind_some] at a
   cases r:d[i]? with
   | none=>rw [r] at a;simp at a
   | some z=>rw [r] at a;simp at a;rw [a]
def mU (a b:St):Prop:=b.length=a.length/\ ∀ (i:Nat) v,a[i]? =some (some v)->b[i]? =some (some v)
def qT (X:Cx) (ifs:List Expr) (t:TT):Prop:=
 ∀ (pins:List (Addr×Obj)) (s:Shared) (σ:St) (H:Hp) (Q:Bool->Hp->Prop),Inv X pins σ H s->t σ H Q->
  wpAny (model X.prog X.w) X.A (forIn ifs true λ c r=>if r=true then do let ok <- isTrue c X.env (eval c X.env);pure (ForInStep.yield ok) else pure (ForInStep.yield r)) (TP X pins σ Q) X.xe s
def jc:TT:=λ _ H Q=>Q true H
theorem fj {X:Cx}:qT X [] jc:=λ a s b H Q I h=>wpAny_tests_nil #[H,I,h]
theorem cG {X:Cx} {c:Expr} {t:TT} (h:PT X c t):qT X [c] t:=λ a s b H Q I q=>wpAny_tests_one (h a s b H Q I q)
section
variable {prog:Program} {w:World} {A:Around} {R:Result->Shared->Prop} {s:Shared}
theorem mV {k a f:Expr} {y j:Value} (I:Nat->Shared->Prop)
  (u: ∀n s,I n s->wpAny (model prog w) A (pyNext y) (λ r s₁=>match r with
   | none=>R (.ok .next) s₁
   | some v=>wpAny (model prog w) A (letOwnedTupleGo a y v) (λ _ b=>wpAny (model prog w) A (assign a env v) (λ _ s₂=>
     wpAny (model prog w) A (forIn ifs true λ c r=>if r=true then do let ok <- isTrue c env (eval c env);pure (ForInStep.yield ok) else pure (ForInStep.yield r)) (λ ok d=>
      if ok=true then wpAny (model prog w) A (eval k env) (λ x g=>
       wpAny (model prog w) A (call (.builtin "list.append") [j,x]) (λ _ i=> ∃m,m<n/\I m i) (λ _ _=>False) g) (λ _ _=>False) d
      else ∃m,m<n/\I m d) (λ _ _=>False) s₂) (λ _ _=>False) b) (λ _ _=>False) s₁) (λ _ _=>False) s)
  (n:Nat) (h:I n s):
  codeAny (model prog w) A (.compLoop (.ListComp k [#[a,f,ifs,0]] scope pos) 0 y j env) R s:=by
 refine codeAny_loop rfl I (λ n s B=> ?_) n h;change wpAny _ A ((compTurn (.ListComp k [#[a,f,ifs,0]] scope pos) 0 y j env).onRaise (λ x=>do noteFrame x env;theTreesLotGoes x)) _ _ s;refine wpAny_noted ?_;rw [compTurn_list];refine Yd (E:=λ _ _=>False) ?_ (λ _ _ q=>q) (λ _ _ z=>z.elim);refine Qr (Wj (Qr (Yd (u n s B) (λ r s₁ h₁=> ?_) λ _ _ h'=>h')))
 cases r with
 | none=>show Zi h₁
 | some v=>
  refine Qr (Yd h₁ (λ _ b l=> ?_) λ _ _ h'=>h');refine Qr (Yd l (λ _ s₂ o=>Qr (Yd o (λ ok d e=> ?_) λ _ _ h'=>h')) λ _ _ h'=>h')
  cases ok with
  | false=>show Zi #[rfl,e]
  | true=>
   show Qr (Qr (Yd e (λ x g p=>Qr (Yd p (λ _ i t=>Zi (Zi #[rfl,t])) λ _ _ h'=>h')) λ _ _ h'=>h'))
end
theorem HOk.track {P:Program} {h:Heap} {o:HO} (x:HOk P w H h) (g:H a=none) (d:ObjOk P w (upd H a o) h a o):HOk P w (upd H a o) h:=λ b u e=>by
 by_cases f:b=a
 .subst f;rw [aj] at e;cases e;show d
 .rw [aC f] at e;show(x b u e).stay (λ c v _ q=>q) (λ c q=>by rw [aC (aP q g)];show q) λ c xs q=>by rw [aC (aP q g)];show q
section
variable {X:Cx} {pins:List (Addr×Obj)} {σ:St} {H2:Hp} {s₂:Shared} {tg iter elt:Expr} {ifs:List Expr} {sc:Scope} {pos:Pos} {N':List Str} {κ:List (Option Nat)} {cl:List (Str×Addr)} {it:Addr} {fp:List Addr} {tn:Nat->Heap->Prop} {J:It} {g:TG} {tc:TT} {te:TE}
theorem Fq (I:Inv X pins σ H2 s₂) (i: ∀b∈fp,jt X pins H2 b) (k: ∀b∈fp,b<s₂.heap.objs.size) (S:CScope X.env.scope sc)
  (a: ∀x c,cl.lookup x=some c->X.env.cells.lookup x=some c) (g: ∀x c,X.env.cells.lookup x=some c->(x,NameKind.free)∈sc.names->cl.lookup x=some c) (j:s₂.heap.objs.size<=C):
  (blk X sc N' cl C s₂ H2 fp pins).Ok where
 mod:=I.mod
 kind:=S.kind
 glob:=I.ok.glob
 blt:=I.ok.blt
 above:=j
 inj:=λ x y c l m=>I.ok.inj x y c (a _ _ l) (a _ _ m)
 has:=λ x h=>by
  have e:=S.free_of (env:=X.env) h;let#[c,n]:=I.ok.has x (S.frees _ e rfl);show#[c,g x c n e]
 cab:=λ x c h _=>by cases h
 hd:=I.ok.hd
 frames:=I.ok.frames
 stk:= .inl rfl
 exf:=λ b d=>#[Nat.ne_of_lt (Zt (k b d) j),λ x c p=>(i b d).2.2.2.2.1 x c (a x c p)]
 bs:=I.bs
 bsz:=Zy I.ok.bsz I.sz
 noex:=λ b o d e=>by
  let#[_,_,_,f,_]:=i b e;rcases f with f | f
  .exact I.ok.noex b o d f
  .exact absurd (Zl (I.ok.bs b o d).1) (ì.mpr f)
 exfs:=λ b d e=>by
  rcases Zx.mp (I.stkSub b e) with z | z
  .exact (i b d).2.1 z
  .exact (i b d).2.2.1 z
 funs:=I.stack
 frf:=I.stkFree
theorem ul (I:Inv X pins σ H2 s₂) (D: ∀b∈fp,jt X pins H2 b) (E: ∀b∈fp,b<s₂.heap.objs.size) (S:CScope X.env.scope sc) (f:capOk κ N' X.N sc=true)
  (a: ∀x c,cl.lookup x=some c->X.env.cells.lookup x=some c) (g: ∀x c,X.env.cells.lookup x=some c->(x,NameKind.free)∈sc.names->cl.lookup x=some c) (k:s₂.heap.objs.size<=C)
  {U:Nat} (M:h'.Ns C m') (d: ∀b o,s₂.heap.get? b=some o->h'.get? b=some o):
  Inv (blk X sc N' cl C s₂ H2 fp pins) [] (cap κ σ) H2 { s₂ with heap:=h',toks:=U } where
 ok:=Fq I D E S a g k
 os:=rfl
 bare:=I.bare
 base:=Un.kept d
 loc:=⟨m',M,λ j y v R Q A=>by
  let#[i,K,P,t]:=capOk.at f R Q;have w:=mem_lookup t;have h:=S.frees _ w rfl;let#[m,_,L]:=I.loc;let#[u,T,lk]:=L i y v K P (.inr h);refine#[u,T, .inr #[S.cell_of (env:=X.env) rfl I.ok.kind t,?_]];rcases lk with ⟨hk,_⟩ | ⟨_,c,hc,hu⟩
  .have l:X.env.scope.names.lookup y=some .local:=hk;rcases h with z | z<;>(have B:X.env.scope.names.lookup y=_:=z;rw [l] at B;cases B)
  .obtain ⟨o,e,r⟩:=hu;show⟨c,g y c hc w,o,d _ _ e,r⟩⟩
 cell:=λ x c q=>by
  let#[v,o,e,r]:=I.cell x c (a x c q);show#[v,o,d _ _ e,r]
 free:=I.hok.fresh k
 freeC:=λ x c q=>I.freeC x c (a x c q)
 pin:=λ p O=>by
  have n:p∈X.pn++pins:=by simpa using O
  let#[s,F,G,H,J]:=I.pin p n;refine#[d _ _ s,F,Yn (Zt (Zl s) k),λ z=> ?_,J];rcases Zx.mp (I.stkSub p.1 z) with y | y
  .exact G y
  .exact H y
 hok:=I.hok.kept d
 len:=by
  change(cap κ σ).length=N'.length;unfold cap;rw [Qb];show capOk.len f
structure Left (X:Cx) (pins:List (Addr×Obj)) (σ:St) (C:Addr) (H:Hp) (s:Shared):Prop where
 inv:Inv X pins σ H s
 ns: ∃m,s.heap.Ns C m
 un:H C=none
 nl:C≠X.env.locals
 nf:C∉X.fs
 ab:X.s₀.heap.objs.size<=C
 nc: ∀x c,X.env.cells.lookup x=some c->c≠C
 np: ∀p∈X.pn++pins,p.1≠C
theorem Left.go {s:Shared} (l:Left X pins σ C H s) (c:Heap.SameBut C s.heap h'):Inv X pins σ H { s with heap:=h' }:=
 l.inv.turned (t':=s.toks) (λ b o a e=>c.extBut b o a e) l.un l.nl (.inr l.ab) l.nc l.np
theorem uo (hc:X.calm=true) (I:Inv X pins σ H2 s₂) (T:Turn X.prog X.w X.K tg J fp it tn) (st:tn 0 s₂.heap) (G: ∀b∈fp,jt X pins H2 b)
  (S:CScope X.env.scope sc) (an:capOk κ N' X.N sc=true) (t: ∀x c,cl.lookup x=some c->X.env.cells.lookup x=some c) (ap: ∀x c,X.env.cells.lookup x=some c->(x,NameKind.free)∈sc.names->cl.lookup x=some c)
  (hg: ∀C,PG (blk X sc N' cl C s₂ H2 fp pins) tg g) (hi: ∀C,qT (blk X sc N' cl C s₂ H2 fp pins) ifs tc) (he: ∀C,PE (blk X sc N' cl C s₂ H2 fp pins) elt te)
  {W:Nat->Nat->List V->Hp->Prop} {Q:VK} {m0:Nat} (w0:W 0 m0 [] H2)
  (a1: ∀i m ys H,W i m ys H->(J.stop i H/\ ∀p,H p=none->Q (.ref p) (upd H p (.lst ys)))\/
   (J.go i H/\ys.length<sizeLine/\ ∃N:List V->Hp->Prop,(∀a2 H',N a2 H'-> ∃m',m'<m/\W (i+1) m' a2 H')/\ ∀x H',J.yld i H x H'->g x (cap κ σ) H' λ ah H2=>mU (cap κ σ) ah/\tc ah H2 λ b H3=>if b=true then te ah H3 λ y H4=>N (ys++[y]) H4 else N ys H3))
  (a8: ∀D C H' s1,Left X pins σ C H' s1->Q (.ref D) H'->RR (.ref D) C (.ok .next) s1):
  wpAny (model X.prog X.w) X.A (newList []) (λ al s=>wpAny (model X.prog X.w) X.A (newFunctionEnv sc X.env.globals cl [] X.env.qual none .none (some X.env)) (λ U ay=>
   codeAny (model X.prog X.w) X.A (.compStart (.ListComp elt [#[tg,iter,ifs,0]] sc pos) 0 (.ref it) al { U with scope:=relabel sc X.env }) (RR al U.locals) ay) E s) E s₂:=by
 refine We (wpAny_newFunctionEnv S.nocell (by intro y hy;simp at hy) (λ h₁ k h=> ?_) S.kind);dsimp only at k h ⊢;generalize hH2:s₂.heap.push { cls:= .type "list",dict:=none,data:= .seq ([]:List Value).toArray }=P2 at k h ⊢;have L:P2.objs.size=s₂.heap.objs.size+1:=by rw [<- hH2,Heap.size_push]
 generalize hCe:P2.objs.size=C at k h L ⊢;generalize hDe:s₂.heap.objs.size=D at L ⊢;have M:D≠C:=by rw [L];show Yn (Nat.lt_succ_self _)
 have hC:s₂.heap.objs.size<=C:=by rw [hDe,L];show ó _
 have hD:s₂.heap.objs.size<=D:=by rw [hDe];show Zo _
 have a: ∀b,b<s₂.heap.objs.size->b≠C/\b≠D:=λ b j=>#[Nat.ne_of_lt (Zt j hC),Yn (Zt j hD)]
 have av: ∀b o,s₂.heap.get? b=some o->h₁.get? b=some o:=λ b o e=>h.extBut b o (a b (Zl e)).1 (Zd _ (hH2▸Zd _ e))
 have am:h₁.get? D=some { cls:= .type "list",data:= .seq ([]:List Value).toArray ([]:List Value).length }:=by
  have q:P2.get? s₂.heap.objs.size=some { cls:= .type "list",data:= .seq ([]:List Value).toArray 0 }:=hH2▸Zw _ rfl;rw [hDe] at q;show h.extBut _ _ M (Zd _ q)
 have fl: ∀b∈fp,b<s₂.heap.objs.size:=λ b j=>by
  let#[o,e,_]:=T.obj 0 _ st b j;show Zl e
 have B:tn 0 h₁:=T.keep 0 _ _ st λ b _ o e=>av b o e
 have IB: ∀tk,Inv (blk X sc N' cl C s₂ H2 fp pins) [] (cap κ σ) H2 { s₂ with heap:=h₁,toks:=tk }:=λ tk=>ul I G fl S an t ap hC k av
 have ae: ∀x c,cl.lookup x=some c->c<s₂.heap.objs.size:=λ x c O=>by
  let#[v,o,e,_]:=I.cell x c (t x c O);show Zl e
 have ac: ∀p∈X.pn++pins,p.1<s₂.heap.objs.size:=λ p l=>Zl (I.pin p l).1
 have ad: ∀ {H':Hp} {pl:List (Addr×Obj)},(∀b∈fp,H' b=none)->(∀p∈pl,p.1=D)-> ∀b∈fp,jt (blk X sc N' cl C s₂ H2 fp pins) pl H' b:=λ {H' pl} hn bd b j=>by
  refine#[hn b j,(a b (fl b j)).1,λ z=> ?_, .inl j,λ x c O=>(G b j).2.2.2.2.1 x c (t x c O),λ p l=> ?_]
  .rcases Zx.mp (I.stkSub b z) with z | z
   .exact (G b j).2.1 z
   .exact (G b j).2.2.1 z
  .rcases Zh.mp l with z | z
   .exact (G b j).2.2.2.2.2 p z
   .rw [bd p z];show Ne.symm (a b (fl b j)).2
 have aw: ∀ {s':Shared} {σ':St} {H':Hp} {o:Obj},Inv (blk X sc N' cl C s₂ H2 fp pins) [] σ' H' s'->s'.heap.get? D=some o->H' D=none->(∀v,o.data≠ .cell v)->Inv (blk X sc N' cl C s₂ H2 fp pins) [(D,o)] σ' H' s':=λ {s' σ' H' o} I' e n d=>
  I'.pins_of λ p l=>by
   rw [Za.mp l];refine#[e,n,M,λ z=> ?_,d];have z':D<s₂.heap.objs.size:=by
    rcases Zx.mp (I.stkSub D z) with y | y
    .have y':D=X.env.locals:=y;rw [y'];show I.lt
    .exact absurd y (I.nofs hD)
   show absurd z' (ì.mpr hD)
 have Z : ∀ s : Shared, s = { s₂ with heap := h₁, toks := s₂.toks + ([] : List (Str × Value)).length } ->
   codeAny (model X.prog X.w) X.A (.compLoop (.ListComp elt [#[tg,iter,ifs,0]] sc pos) 0 (.ref it) (.ref D) (compEnvC sc cl C X.env)) (RR (.ref D) C) s:=by
  rintro s rfl;refine mV (λ n s'=> ∃ (i:Nat) (ys:List V) (f:List Value) (H':Hp),Inv (blk X sc N' cl C s₂ H2 fp pins) [] (cap κ σ) H' s'/\tn i s'.heap/\(∀b∈fp,H' b=none)/\
   s'.heap.get? D=some { cls:= .type "list",data:= .seq f.toArray f.length }/\Vals ys f/\H' D=none/\ys.length<=sizeLine/\W i n ys H') ?_ m0
   #[0,[],[],H2,IB _,B,λ b j=>(G b j).1,am, .nil,I.hok.fresh hD,Yv _,w0]
  rintro n s3 ⟨i,ys,f,H3,I3,ax,a6,d3,v3,n3,z3,w3⟩;have ai:=aw I3 d3 n3 (by intro v z;cases z);have ff:=ad (pl:=[(D,({ cls:= .type "list",data:= .seq f.toArray f.length }:Obj))]) a6 (λ p l=>by rw [Za.mp l]);rcases a1 i n ys H3 w3 with ⟨stop,qn⟩ | ⟨go,hlt,N,hN,step⟩
  .refine bA (T.done (blk X sc N' cl C s₂ H2 fp pins) rfl rfl rfl hc i _ s3 (cap κ σ) H3 _ ai ff ax stop) λ r s4 ⟨hr,I4⟩=> ?_
   subst hr;change RR (.ref D) C (.ok .next) s4;let#[dD,nD,_]:=I4.pin (D,_) (Yb _ Zp);have nC:H3 C=none:=I4.free;have P:=I4.base;have bb:HOk X.prog X.w (upd H3 D (.lst ys)) s4.heap:=HOk.track I4.hok nD #[z3,f,f.length,v3,dD];have un:Un (frs X.stack) fp H2 (upd H3 D (.lst ys)) s₂.heap s4.heap:=
    ⟨P.keep,P.slot,λ b o q n O=>by rw [aC (a b (Zl q)).2];show P.free b o q n O,P.there,
     λ b xs q=>by rw [aC (aP (P.tups b xs q) nD)];show P.tups b xs q,
     λ b o x q=>by rw [aC (aP (P.frzs b o x q) nD)];show P.frzs b o x q,
     λ b ps q=>by
      let#[m1,e1]:=P.tbls b ps q;show⟨m1,by rw [aC (aP e1 nD)];show e1⟩⟩
   have IX:Inv X pins σ (upd H3 D (.lst ys)) s4:=I.call' (by show I4.os) un bb I4.bare λ b j=>#[(G b j).2.2.2.1,(G b j).2.1,(G b j).2.2.2.2]
   let#[m4,ba,_]:=I4.loc;refine a8 D C _ s4 #[IX,#[m4,ba],by rw [aC (Ne.symm M)];show nC,Ne.symm (a _ I.lt).1,I.nofs hC,Zy I.sz hC,λ x c O=> ?_,λ p l=>(a _ (ac p l)).1] (qn D nD);let#[v,o,e,_]:=I.cell x c O;show(a c (Zl e)).1
  .refine bA (T.item (blk X sc N' cl C s₂ H2 fp pins) rfl rfl rfl hc i _ s3 (cap κ σ) H3 _ ai ff ax go) λ r s4 ⟨u,hr,h4⟩=> ?_
   subst hr;refine bA h4 λ _ s5 ⟨x,H5,I5,r5,y5,ag,a7⟩=> ?_
   have a5:=ad (pl:=[(D,({ cls:= .type "list",data:= .seq f.toArray f.length }:Obj))]) a7 (λ p l=>by rw [Za.mp l]);have a4:=I5.pinned a5 (T.obj _ _ ag);refine bA (hg C _ s5 (cap κ σ) H5 x u _ a4 r5 (step x H5 y5)) λ _ s6 ⟨R,H6,I6,F,q6⟩=> ?_
   refine bA (hi C _ s6 R H6 _ I6 q6) λ ok s7 ⟨H7,I7,q7⟩=> ?_
   have Y: ∀ {a3:St} {H8:Hp} {s8:Shared},Inv (blk X sc N' cl C s₂ H2 fp pins) ([(D,({ cls:= .type "list",data:= .seq f.toArray f.length }:Obj))]++j4 fp s5.heap) a3 H8 s8->
     tn (i+1) s8.heap/\(∀b∈fp,H8 b=none)/\s8.heap.get? D=some { cls:= .type "list",data:= .seq f.toArray f.length }/\H8 D=none:=λ {a3 H8 s8} I8=>by
    refine#[T.keep _ _ _ ag λ b j o e=>(I8.pin (b,o) (Yb _ (Yb _ (cT j e)))).1,λ b j=> ?_,?_]
    .obtain ⟨o,e,d⟩:=T.obj _ _ ag b j;show(I8.pin (b,o) (Yb _ (Yb _ (cT j e)))).2.1
    .obtain ⟨e,n,_⟩:=I8.pin (D,_) (Yb _ (Yw _ Zp));show#[e,n]
   cases ok with
   | false=>
    have af:N ys H7:=by simpa using q7
    let#[m',hm,w7]:=hN _ _ af;let#[t8,f8,d8,n8]:=Y I7;change ∃m,m<n/\_;show#[m',hm,i+1,ys,f,H7,(I7.pins_of (pins':=[]) (λ p l=>nomatch l)).weak F.1.symm F.2,t8,f8,d8,v3,n8,z3,w7]
   | true=>
    have af:te R H7 λ y H4=>N (ys++[y]) H4:=by simpa using q7
    change wpAny _ _ (eval elt (compEnvC sc cl C X.env)) _ _ s7;refine bA (he C _ s7 R H7 _ I7 af) λ v s8 ⟨y,H8,I8,r8,q8⟩=> ?_
    let#[m',hm,w8]:=hN _ _ q8;let#[t8,f8,d8,n8]:=Y I8;refine append_at (hsz:=by rw [Zs,<- v3.length];show z3) d8 λ h9 ar a9=> ?_
    have I9:Inv (blk X sc N' cl C s₂ H2 fp pins) [] R H8 { s8 with heap:=h9,toks:=s8.toks }:=by
     refine(I8.pins_of (pins':=[]) (λ p l=>nomatch l)).turned (λ b o j e=>ar.extBut b o j e) n8 M (.inr hD) (λ x c O=>(a c (ae x c O)).2) λ p l=> ?_
     have bc:p∈X.pn++pins:=by simpa using l
     show(a _ (ac p bc)).2
    refine#[m',hm,i+1,ys++[y],f++[v],H8,I9.weak F.1.symm F.2,T.keep _ _ _ t8 λ b j o e=>ar.extBut b o (a b (fl b j)).2 e,f8,?_,Vals.append v3 (.cons r8 .nil),n8,?_,w8]
    .show h9.get? D=_;rw [a9];simp
    .rw [Zf,Yf];show hlt
 show codeAny_compStart_list (Z _ rfl) (T.self X.A 0 _ _ _ B (Z _ rfl))
def lu (κ:List (Option Nat)) (wi:TI) (g:TG) (tc:TT) (te:TE):TE:=λ σ H Q=>wi σ H λ J H1=> ∃W:Nat->Nat->List V->Hp->Prop,(∃m,W 0 m [] H1)/\ ∀i m ys H,W i m ys H->
 (J.stop i H/\ ∀p,H p=none->Q (.ref p) (upd H p (.lst ys)))\/
 (J.go i H/\ys.length<sizeLine/\ ∃N:List V->Hp->Prop,(∀ys' H',N ys' H'-> ∃m',m'<m/\W (i+1) m' ys' H')/\ ∀x H',J.yld i H x H'->g x (cap κ σ) H' λ σ2 H2=>mU (cap κ σ) σ2/\tc σ2 H2 λ b H3=>if b=true then te σ2 H3 λ y H4=>N (ys++[y]) H4 else N ys H3)
theorem Ji (p:List (Option Nat)) (i:List Str) (A:X.calm=true) (j:PI X tg iter wi) (S:CScope X.env.scope sc) (b:capOk p i X.N sc=true)
  (F: ∀cl C s H fp pins,PG (blk X sc i cl C s H fp pins) tg g) (G: ∀cl C s H fp pins,qT (blk X sc i cl C s H fp pins) ifs tc) (B: ∀cl C s H fp pins,PE (blk X sc i cl C s H fp pins) elt te)
  (L: ∀x,foldedSetIterable iter X.env x=pure x:=by intro _;rfl):PE X (.ListComp elt [#[tg,iter,ifs,0]] sc pos) (lu p wi g tc te):=by
 intro pins s U H Q I h;let#[cl,a,c,d]:=mR (sc:=sc) (env:=X.env) λ y M E=>I.ok.has y.1 (S.frees y M E)
 rw [eval_ListComp];refine Ï (use:=none) rfl L a S.kind S.locs (bA (j pins s U H _ I h) λ v P w=>bA w λ O n z=> ?_);let#[Y,fp,tn,J,H2,e,t,T,o,u,W,#[Z,R],f]:=z;subst e;refine uo A t T o u S b c d (λ C=>F cl C n H2 fp pins) (λ C=>G cl C n H2 fp pins) (λ C=>B cl C n H2 fp pins) R f λ D C r P l q=> ?_
 let#[m,K]:=l.ns;show#[m,K,λ h' k=>#[V.ref D,r,l.go k,rfl,q]]
theorem jT {x:Str} {p c:Pos} (R:List (Option Nat)) (t:List Str) (hc:X.calm=true) (hN:X.N.Nodup) (E:X.N[i]? =some x) (n:X.env.scope.names.lookup x=some .local)
  (B:PI X tg iter wi) (S:CScope X.env.scope sc) (f:capOk R t X.N sc=true)
  (hg: ∀cl C s H fp pins,PG (blk X sc t cl C s H fp pins) tg g) (hi: ∀cl C s H fp pins,qT (blk X sc t cl C s H fp pins) ifs tc) (he: ∀cl C s H fp pins,PE (blk X sc t cl C s H fp pins) elt te)
  (K:swapsWith (.ListComp elt [#[tg,iter,ifs,0]] sc pos) (some (.Name x p)) c.line X.env=pure true:=by rfl)
  (hs: ∀x,foldedSetIterable iter X.env x=pure x:=by intro _;rfl):PS X (.Assign [.Name x p] (.ListComp elt [#[tg,iter,ifs,0]] sc pos) c) (aO (lu R wi g tc te) (aA i)):=by
 intro pins s O H D I h;let#[cl,d,j,k]:=mR (sc:=sc) (env:=X.env) λ y hy hf=>I.ok.has y.1 (S.frees y hy hf)
 rw [exec_Assign_Name_used _ _ _ _ K];refine Qr (Wj (Qr ?_));change wpAny _ X.A (do let _ <- comprehension (.ListComp elt [⟨tg,iter,ifs,0⟩] sc pos) sc X.env _ (newList []) false (eval iter X.env) (some (assign (.Name x p) X.env))) _ _ s;refine Qr (Yd (Ï (use:=some (assign (.Name x p) X.env)) (Q:=λ _ s'=>SP X pins D .next s') rfl hs d S.kind S.locs
  (bA (B pins s O H _ I h) λ v s1 h1=>bA h1 λ ac L h2=> ?_)) (λ _ s' hq=>Zi (Zi hq)) λ _ _ e=>e)
 let#[it,fp,tn,J,H2,e,Y,T,M,f2,W,#[m0,w0],r]:=h2;subst e;refine uo (Q:=λ y H1=>aA i y O H1 D.nx) hc Y T M f2 S f j k (λ C=>hg cl C L H2 fp pins) (λ C=>hi cl C L H2 fp pins) (λ C=>he cl C L H2 fp pins) w0 r λ u C U s1 l q=> ?_
 change wpAny _ X.A (assign (.Name x p) X.env (.ref u)) _ _ _;refine wpAny_assign_Name (lG l.inv hN E (.inl n) (v:= .ref u) rfl (λ P Z ⟨a,G,ha⟩=> ?_) (.inr n));let#[m,hn]:=l.ns;have w:C≠a:=by
  rcases ha with z | z
  .rw [z];show l.nl
  .exact Ne.symm (l.nc x a z)
 refine#[m,hn.sameBut G w,λ h' F=> ?_];have I4:Inv X pins (O.set i (some (.ref u))) U { P with heap:=h' }:=Z.turned (t':=P.toks) (λ b o hb e=>F.extBut b o hb e) l.un l.nl (.inr l.ab) l.nc l.np;show#[_,_,I4,q]
end
section
variable {κ:List (Option Nat)} {g:TG} {tc:TT} {te:TE} {σ:St} {H:Hp} {Q:VK}
theorem xF {lo:Int} (d:Nat->List V->Hp->Prop) (j:d 0 [] H) (l:n<=sizeLine) (q: ∀i ys H,d i ys H->ys.length<=i)
  (o: ∀i ys H,i<n->d i ys H->g (.int (lo+i)) (cap κ σ) H λ a H2=>mU (cap κ σ) a/\tc a H2 λ b H3=>if b=true then te a H3 λ y h=>d (i+1) (ys++[y]) h else d (i+1) ys H3)
  (k: ∀ys H,d n ys H-> ∀p,H p=none->Q (.ref p) (upd H p (.lst ys))):
  ∃W:Nat->Nat->List V->Hp->Prop,(∃m,W 0 m [] H)/\ ∀i m ys H,W i m ys H->
   ((vd lo n).stop i H/\ ∀p,H p=none->Q (.ref p) (upd H p (.lst ys)))\/
   ((vd lo n).go i H/\ys.length<sizeLine/\ ∃N:List V->Hp->Prop,(∀f H',N f H'-> ∃m',m'<m/\W (i+1) m' f H')/\ ∀x H',(vd lo n).yld i H x H'->g x (cap κ σ) H' λ a H2=>mU (cap κ σ) a/\tc a H2 λ b H3=>if b=true then te a H3 λ y h=>N (ys++[y]) h else N ys H3):=by
 refine#[λ i m ys H=>m=n-i/\i<=n/\d i ys H,#[n,by simp,Yv _,j],?_];rintro i m ys H ⟨rfl,s,p⟩;by_cases c:i<n
 .refine .inr #[c,Zt (Yg (q _ _ _ p) c) l,d (i+1),λ f H' r=>#[n-(i+1),(),rfl,c,r],λ x H' y=> ?_];let#[e,y]:=y;subst e y;show o i ys _ c p
 .have e:i=n:=()
  subst e;show .inl #[Nat.le_refl _,k ys H p]
theorem BV {K:W.Frag} {xs:List V} (d:Nat->List V->Hp->Prop) (k:d 0 [] H) (r:xs.length<=sizeLine) (o: ∀i ys H,i<=xs.length->d i ys H->SqL K H a xs) (t: ∀i ys H,d i ys H->ys.length<=i)
  (s: ∀i x ys H,xs[i]? =some x->d i ys H->g x (cap κ σ) H λ c H2=>mU (cap κ σ) c/\tc c H2 λ b H3=>if b=true then te c H3 λ y j=>d (i+1) (ys++[y]) j else d (i+1) ys H3)
  (l: ∀ys H,d xs.length ys H-> ∀p,H p=none->Q (.ref p) (upd H p (.lst ys))):
  ∃W:Nat->Nat->List V->Hp->Prop,(∃m,W 0 m [] H)/\ ∀i m ys H,W i m ys H->
   ((Bp K a).stop i H/\ ∀p,H p=none->Q (.ref p) (upd H p (.lst ys)))\/
   ((Bp K a).go i H/\ys.length<sizeLine/\ ∃N:List V->Hp->Prop,(∀h H',N h H'-> ∃m',m'<m/\W (i+1) m' h H')/\ ∀x H',(Bp K a).yld i H x H'->g x (cap κ σ) H' λ c H2=>mU (cap κ σ) c/\tc c H2 λ b H3=>if b=true then te c H3 λ y j=>N (ys++[y]) j else N ys H3):=by
 refine#[λ i m ys H=>m=xs.length-i/\i<=xs.length/\d i ys H,#[xs.length,by simp,Yv _,k],?_];rintro i m ys H ⟨rfl,n,p⟩;have q:=o i ys H n p;by_cases f:i<xs.length
 .refine .inr #[#[xs,xs[i],q,by simp [f]],Zt (Yg (t _ _ _ p) f) r,d (i+1),λ h H' u=>#[xs.length-(i+1),(),rfl,f,u],λ x H' y=> ?_];let#[e,y]:=y;subst e;show s i x ys _ (y xs q) p
 .have e:i=xs.length:=()
  subst e;show .inl #[#[xs,q,Zo _],l ys H p]
end
mutual
inductive Dp (K:W.Frag) (H:Hp):V->PyData->Prop where
 | non:Dp K H .non .none
 | bl (b:Bool):Dp K H (.bl b) (.bool b)
 | int (i:Int):Dp K H (.int i) (.int i)
 | str (x:Str):Dp K H (.str x) (.str x)
 | lst {a:Addr} {xs:List V} {ds:List PyData}:SqL K H a xs->DpAll K H xs ds->Dp K H (.ref a) (.list ds)
 | tup {a:Addr} {xs:List V} {ds:List PyData}:SqT K H a xs->DpAll K H xs ds->Dp K H (.ref a) (.tuple ds)
inductive DpAll (K:W.Frag) (H:Hp):List V->List PyData->Prop where
 | nil:DpAll K H [] []
 | cons {x:V} {xs:List V} {d:PyData} {ds:List PyData}:Dp K H x d->DpAll K H xs ds->DpAll K H (x::xs) (d::ds)
end
theorem DpAll.ints {K:W.Frag}: ∀ns:List Int,DpAll K H (ns.map V.int) (ns.map PyData.int)
 | []=> .nil
 | n::r=> .cons (.int n) (DpAll.ints r)
theorem DpAll.strs {K:W.Frag}: ∀ns:List Str,DpAll K H (ns.map V.str) (ns.map PyData.str)
 | []=> .nil
 | n::r=> .cons (.str n) (DpAll.strs r)
theorem Dp.ints {K:W.Frag} {ns:List Int} (h:SqL K H a (ns.map V.int)):Dp K H (.ref a) (.list (ns.map PyData.int)):= .lst h (DpAll.ints ns)
section
variable {X:Cx} {pins:List (Addr×Obj)} {σ:St} {H:Hp} {s:Shared}
mutual
theorem Dp.reads (I:Inv X pins σ H s): ∀ {x:V} {d:PyData} {u:Value},Dp X.K H x d->RelV x u-> ∃as,Reads s.heap u d as
 | _,_,_, .non,r=>by cases (show _=Value.none from r);show#[_, .none]
 | _,_,_, .bl b,r=>by cases (show _=Value.bool b from r);show#[_, .bool b]
 | _,_,_, .int i,r=>by let#[t,rfl]:=r;show#[_, .int i t]
 | _,_,_, .str x,r=>by let#[t,rfl]:=r;show#[_, .str x t]
 | _,_,_, .lst (a:=a) h hs,r=>by
  cases (show _=Value.ref a from r);let#[g,j,p,_]:=I.list h;let#[as,q]:=DpAll.reads I hs j;let#[o,n,e,c,_,f]:=p;show#[_, .list e c f (by simpa using q)]
 | _,_,_, .tup (a:=a) h hs,r=>by
  cases (show _=Value.ref a from r);let#[g,j,p,_]:=I.tuple h;let#[as,q]:=DpAll.reads I hs j;let#[o,e,c,n,f]:=p;show#[_, .tuple e c f (by simpa using q)]
theorem DpAll.reads (I:Inv X pins σ H s): ∀ {xs:List V} {ds:List PyData} {us:List Value},DpAll X.K H xs ds->Vals xs us-> ∃as,ReadsAll s.heap us ds as
 | _,_,_, .nil,r=>by cases r;show#[_, .nil]
 | _,_,_, .cons h hs,r=>by
  cases r with
  | cons r rr=>
   let#[as,q]:=Dp.reads I h r;let#[bs,p]:=DpAll.reads I hs rr;show#[_, .cons q p]
end
def rEqD (K:W.Frag):R2:=λ x y H Q=> ∃d e,Dp K H x d/\Dp K H y e/\SeqAt.shaped d=true/\SeqAt.shaped e=true/\Q (.bl (PyData.eqv d e)) H
def rNeD (K:W.Frag):R2:=λ x y H Q=> ∃d e,Dp K H x d/\Dp K H y e/\SeqAt.shaped d=true/\SeqAt.shaped e=true/\Q (.bl (!PyData.eqv d e)) H
theorem Ft (i:X.A.units+64<cLine):eY X (compareOp .Eq) (rEqD X.K):=by
 intro a s o H x y v u Q I l m h;let#[d,e,b,c,f,g,q]:=h;let#[n,j]:=b.reads I l;let#[bs,k]:=c.reads I m;show eq_dataH j k f g i #[.bl _,H,I,rfl,q]
theorem Fv (i:X.A.units+64<cLine):eY X (compareOp .NotEq) (rNeD X.K):=by
 intro a s o H x y v u Q I l m h;let#[d,e,b,c,f,g,q]:=h;let#[n,j]:=b.reads I l;let#[bs,k]:=c.reads I m;show ne_dataH j k f g i #[.bl _,H,I,rfl,q]
end
theorem jl: ∀ns ms:List Int,PyData.eqvAll (ns.map PyData.int) (ms.map PyData.int)=decide (ns=ms)
 | [],[]=>by simp [PyData.eqvAll]
 | [],_::_=>by simp [PyData.eqvAll]
 | _::_,[]=>by simp [PyData.eqvAll]
 | n::r,m::q=>by
  simp only [Zn,PyData.eqvAll,PyData.eqv,jl r q];by_cases h:n=m<;>simp [h]
theorem xG (ns ms:List Int):PyData.eqv (.list (ns.map PyData.int)) (.list (ms.map PyData.int))=decide (ns=ms):=by
 simp only [PyData.eqv];show jl ns ms
theorem rNeD.ints {K:W.Frag} {Q:VK} {b:Addr} {ns:List Int} (c:SqL K H a (ns.map V.int)) (d:SqL K H b (ms.map V.int)) (q:Q (.bl (!decide (ns=ms))) H):rNeD K (.ref a) (.ref b) H Q:=
 #[_,_,Dp.ints c,Dp.ints d,PySem.W.shaped_ints ns,PySem.W.shaped_ints ms,by rw [xG];show q]
section
variable {X:Cx}
theorem pD:bM X (.builtin "isinstance") (λ xs H Q=> ∃T x t b,xs=[x, .ty T]/\TyOf X.K H x t/\PySem.W.kitOne X.K t (.type T)=some b/\Q (.bl b) H):=by
 intro c s j H xs us Q I f h;let#[T,x,t,b,rfl,ty,e,q]:=h;let#[u,i,rfl,d,a]:=f.two
 cases (show i=Value.type T from a);show vq I d ty e λ g=>#[.bl b,H,I.tok g,rfl,q]
theorem lR:eY X (compareOp .LtE) (λ x y H Q=> ∃i j,x= .str i/\y= .str j/\Q (.bl (!(decide (j.cps.toList<i.cps.toList)))) H):=by
 intro a s d H x y v u Q I b c h;let#[i,j,rfl,rfl,q]:=h;let#[t,rfl]:=b;let#[t',rfl]:=c;show PySem.P.le_str (aU I q (by simp))
theorem xH (i:X.calm=true):bM X (.builtin "sum") (λ xs H Q=> ∃ (a:Addr) (ns:List Int),xs=[.ref a]/\SqL X.K H a (ns.map V.int)/\Q (.int ns.sum) H):=by
 intro f s p H xs us Q I m h;let#[a,ns,rfl,k,q]:=h;let#[u,rfl,l]:=m.one
 cases (show u=Value.ref a from l);let#[b,r,d,n]:=I.list k;have c:=intsAre_of r;let#[xs,e]:=c.allInts.items;rw [e] at d;refine sum_intListG (I.ok.hd i) d.isList λ h' o t' j=> ?_
 have g:preSum (numAt xs) xs.size=ns.sum:=by
  rw [preSum_eq,Xr (by simp),<- nums_intItems,<- e];change(numsOf b.toArray.toList).sum=_;rw [show b.toArray.toList=b from rfl,c.numsOf]
 rw [g];show#[.int _,H,I.kept j,#[_,rfl],q]
end
section
variable {X:Cx} {tg:Expr}
def Mz (x:Str):It:=#[λ i _=>i<x.cps.size,λ i H v H'=>H'=H/\ ∃c,x.cps[i]? =some c/\v= .str #[([c].toArray)],λ i _=>i=x.cps.size]
theorem xJ {P:Program} {K:W.Frag} (x:Str) (t:Tok) (m:String) (a:Addr) (J:["enumerate","zip","dict_itemiterator","dict_reverseitemiterator","odict_iterator","itertools.zip_longest","itertools.pairwise"].contains m=false)
  (W: ∀A:Around,A.handled=none->Walks P w A a [a] [a] x.cps.size (SignAt x) (λ i h=>h.IsStrIter a m x t i))
  (S: ∀ (A:Around) (i:Nat) (s:Shared) (Q:Value->Shared->Prop) (E:Value->Shared->Prop),s.heap.IsStrIter a m x t i->Q (.ref a) s->wpAny (model P w) A (pyIter (.ref a)) Q E s):
  Turn P w K tg (Mz x) [a] a (λ i h=>h.IsStrIter a m x t i) where
 mem:=by simp
 obj:=λ i h st b g=>by
  have e:b=a:=by simpa using g
  subst e;let#[o,e,c,d]:=st;show#[o,e,λ v z=>by rw [d] at z;cases z]
 keep:=λ i h h' st k=>by
  let#[o,e,r]:=st;show#[o,k a (by simp) o e,r]
 item:=by
  intro X C L B D i f s O H E I l st G;subst C L B;let#[n,p,T,q,y,f5]:=l a (by simp);refine(W X.A (I.ok.hd D)).item i s _ _ G st λ v h' N U j M=> ?_
  let#[c,u,Y,rfl]:=U;have R:Inv X f O H { s with heap:=h',toks:=N }:=I.turned (λ b o g e=>M b o (by simpa using g) e) n p q y f5;let#[o,e,F,d]:=id j;show⟨_,rfl,oM (s:={ s with heap:=h',toks:=N }) e F d J ⟨.str ⟨([c].toArray)⟩,H,R,⟨u,rfl⟩,⟨rfl,c,Y,rfl⟩,j,λ b g=>(l b g).1⟩⟩
 done:=by
  intro X C L B D i f s O H E I l st G;subst C L B;let#[n,p,T,q,y,f5]:=l a (by simp);have e:i=x.cps.size:=G;subst e;show(W X.A (I.ok.hd D)).done s _ _ st λ h' N M=>#[rfl,I.turned (λ b o g e=>M b o (by simpa using g) e) n p q y f5]
 self:=λ A i s Q E st h=>S A i s Q E st h
def jU (tl:TE):TI:=λ σ H R=>tl σ H λ x H1=> ∃z,x= .str z/\R (Mz z) H1
theorem fu {l:Expr} (m:PE X l tl):PI X tg l (jU tl):=by
 intro c s g H R I h;refine bA (m c s g H _ I h) λ v a ⟨x,H1,d,p,n⟩=> ?_
 let#[z,e,q]:=n;subst e;let#[t,rfl]:=p;have fin: ∀ (ty:String) (o:Obj),(["enumerate","zip","dict_itemiterator","dict_reverseitemiterator","odict_iterator","itertools.zip_longest","itertools.pairwise"].contains ty=false)->
   (∀A:Around,A.handled=none->Walks X.prog X.w A a.heap.objs.size [a.heap.objs.size] [a.heap.objs.size] z.cps.size (SignAt z) (λ i h=>h.IsStrIter a.heap.objs.size ty z t i))->
   (∀ (A:Around) (i:Nat) (s:Shared) (Q:Value->Shared->Prop) (E:Value->Shared->Prop),s.heap.IsStrIter a.heap.objs.size ty z t i->Q (.ref a.heap.objs.size) s->wpAny (model X.prog X.w) A (pyIter (.ref a.heap.objs.size)) Q E s)->
   (a.heap.push o).IsStrIter a.heap.objs.size ty z t 0->PIE X c g tg R (.ref a.heap.objs.size) { a with heap:=a.heap.push o }:=λ ty o j W S st=>by
  refine#[a.heap.objs.size,[a.heap.objs.size],_,_,H1,rfl,d.kept (t':=a.toks) λ b o e=>Zd _ e,xJ z t ty _ j W S,st,λ b k=> ?_,q];have e:b=a.heap.objs.size:=by simpa using k
  subst e;show d.fpOk (Zo _) (d.hok.fresh (Zo _))
 cases ha:z.cps.all (· <128)
 .exact wpAny_pyIter_wide ha (fin "str_iterator" _ (by decide) (λ A f=>Walks.strWide f _ z t) (λ A i s Q E st h=>wpAny_pyIter_striter_wide st h) #[_,Zw _ rfl,rfl,rfl])
 .exact wpAny_pyIter_ascii ha (fin "str_ascii_iterator" _ (by decide) (λ A f=>Walks.strAscii f _ z t) (λ A i s Q E st h=>wpAny_pyIter_striter_ascii st h) #[_,Zw _ rfl,rfl,rfl])
def Jj (lo c:Int) (n:Nat):It:=#[λ i _=>i<n,λ i H x H'=>H'=H/\x= .int (lo+i*c),λ i _=>n<=i]
def Oj (ta:TA):TI:=λ σ H R=>ta σ H λ vs H1=> ∃ (i j c:Int) (n:Nat),vs=[.int i, .int j, .int c]/\c≠0/\Builtin.Range.small i j c=true/\Builtin.divisionGoesByPylong (j-i) c=false/\Builtin.Range.rangeSize i j c=(n:Int)/\R (Jj i c n) H1
end
def Ol (K:W.Frag) (a b:Addr):It:=
 ⟨λ i H=> ∃xs ys x y,SqL K H a xs/\SqL K H b ys/\xs[i]? =some x/\ys[i]? =some y,
  λ i H v H'=> ∃p x y,H p=none/\v= .ref p/\H'=upd H p (.tup [x,y])/\(∀xs,SqL K H a xs->xs[i]? =some x)/\ ∀ys,SqL K H b ys->ys[i]? =some y,
  λ i H=> ∃xs ys,SqL K H a xs/\SqL K H b ys/\(xs.length<=i\/ys.length<=i)⟩
structure ZipSt (z TI TO i1 i2 a b:Addr) (i:Nat) (h:Heap):Prop where
 hz:IsZip h z TI TO .none
 hTI:IsPair h TI (.ref i1) (.ref i2)
 hTO: ∃u v,IsPair h TO u v
 h1:h.IsListIter i1 a i
 h2:h.IsListIter i2 b i
structure ZipNe (z TI TO i1 i2:Addr):Prop where
 TIz:TI≠z
 TOz:TO≠z
 i1z:i1≠z
 i2z:i2≠z
 TITO:TI≠TO
 TIi1:TI≠i1
 TIi2:TI≠i2
 TOi1:TO≠i1
 TOi2:TO≠i2
 i12:i1≠i2
def Q7 (K:W.Frag) (ta:TA):TI:=λ σ H R=>ta σ H λ vs H1=> ∃a b xs ys,vs=[.ref a, .ref b]/\SqL K H1 a xs/\SqL K H1 b ys/\R (Ol K a b) H1
structure Cal (P:Program) (w:World) (K:W.Frag) (mg:Str->Option Value) (base:Heap) (n:Nat) (x:Str) (ps:List Str) (sp:Sp):Prop where
 ex: ∃ (f:Addr) (fd:FuncData),FnOk P w K mg base DG n f fd ps sp/\Binds K fd ps []/\W.keepIn K (.ref f)=true/\mg x=some (.ref f)
section
variable {X:Cx} {n k:Nat} {x:Str} {ps:List Str} {sp:Sp} {p pos:Pos} {e:Expr} {es:List Expr} {t:TA}
theorem dF (c:Cal X.prog X.w X.K X.mg X.base n x ps sp) (m:Room k X.A) (j:n<=k) (i:Gl X x) (d:PA X (e::es) t) (a:(x==("__debug__":Str))=false:=by decide)
  (h:starEach (e::es) X.env=(false,eval e X.env)::starEach es X.env:=by rfl) (b:(backTo pos (starEach es X.env)).any (·.1)=false:=by rfl):
  PE X (.Call (.Name x p) (e::es) [] pos) (aJ sp [] E0 t):=by
 let#[f,q,F,g,o,l]:=c.ex;show ue F (m.mono j) i l o g .nil DK d a h b
theorem jy (c:Cal X.prog X.w X.K X.mg X.base n x ps sp) (h:Room k X.A) (e:n<=k) (d:Gl X x) (a:(x==("__debug__":Str))=false:=by decide):
  PE X (.Call (.Name x p) [] [] pos) (aJ sp [] E0 au):=by
 let#[f,j,F,b,i,g]:=c.ex;show wU F (h.mono e) d g i b .nil DK a
end
theorem small (h:n<=1000):n<=sizeLine:=Xu (vH h)
theorem aD (h:H p=none) (o:HO):Same H (upd H p o):=λ b u q=>by rw [aC (aP q h)];show q
theorem Same.get (e:Same H H') {o:HO} (h:H a=some o):H' a=some o:=e a o h
theorem aq {o o':HO} (h:H p=none) (q:H a=some o):upd H p o' a=some o:=aD h o' a o q
section
variable {X:Cx} (K:W.Frag) (hK:X.K=K)
include hK
theorem iI:Iv X (dU K):=hK▸Bx
theorem BW:Iv X (cF K):=hK▸Fe
theorem xK:Ma X (By K):=hK▸BJ
theorem jV:eY X (compareOp .In) (Be K false):=hK▸vA
theorem gM:eY X (compareOp .NotIn) (Be K true):=hK▸mK
theorem jz (a:X.A.units+64<cLine):eY X (compareOp .Eq) (rEqD K):=hK▸Ft a
theorem fB (a:X.A.units+64<cLine):eY X (compareOp .NotEq) (rNeD K):=hK▸Fv a
theorem pF:eY X (binaryOp .Add) (uf K):=hK▸Bv
def cV (K:W.Frag):List V->Hp->VK->Prop:=λ xs H Q=> ∃x n,xs=[x]/\Jc K x H n/\Q (.int n) H
theorem aN:bM X (.builtin "len") (cV K):=by subst hK;show wQ
def cH (K:W.Frag):List V->Hp->VK->Prop:=λ xs H Q=> ∃p ys,xs=[.ref p]/\(SqL K H p ys\/SqT K H p ys)/\ ∀l,H l=none->Q (.ref l) (upd H l (.lst ys))
theorem bx:bM X (.type "list") (cH K):=by subst hK;show mL
def cI (K:W.Frag):List V->Hp->VK->Prop:=λ xs H Q=> ∃p ys,xs=[.ref p]/\((SqL K H p ys/\ ∀l,H l=none->Q (.ref l) (upd H l (.tup ys)))\/(SqT K H p ys/\Q (.ref p) H))
theorem bD:bM X (.type "tuple") (cI K):=by subst hK;show lA
def dj (K:W.Frag):List V->Hp->VK->Prop:=λ xs H Q=> ∃T x t b,xs=[x, .ty T]/\TyOf K H x t/\PySem.W.kitOne K t (.type T)=some b/\Q (.bl b) H
theorem bT:bM X (.builtin "isinstance") (dj K):=by subst hK;show pD
def Fw (K:W.Frag):List V->Hp->VK->Prop:=λ xs H Q=> ∃ (a:Addr) (ns:List Int),xs=[.ref a]/\SqL K H a (ns.map V.int)/\Q (.int ns.sum) H
theorem vK (a:X.calm=true):bM X (.builtin "sum") (Fw K):=by subst hK;show xH a
theorem bF {l:Expr} (a:PE X l tl):PI X tg l (cO K tl):=hK▸Bq a
theorem iJ {l:Expr} (a:PE X l tl):PI X tg l (oO K tl):=hK▸Es a
def ie (K:W.Frag) (ta:TE):TT:=λ σ H Q=>ta σ H λ x H'=> ∃k,wM K x H' k/\Q k H'
theorem bz {a:Expr} {c:TE} (d:PE X a c) (e: ∀b,isTrue a X.env b=(do let v <- b;standAt a.pos;holding [v] (truthy v))):PT X a (ie K c):=by subst hK;show wN d e
theorem mW {a:List Expr} {t:Bd} (c:X.calm=true) (h:J5 X a t)
  (d:(assignEach a X.env).length=n:=by rfl) (b:(assignEach a X.env).findIdx? (·.1)=none:=by rfl):PG X (.Tuple a k pos) (uZ K n t):=by subst hK;show Er c h d b
end
section
variable {X:Cx} (K:W.Frag) (hK:X.K=K) {o e:Expr} {es:List Expr} {to:TE} {t:TA} {name:Str} {apos cpos:Pos} {T id:String} {r:V->List V->Hp->VK->Prop}
include hK
theorem xM (l:PlainAttrs T) (f:Slot T name id) (g:typeOf (.builtin id)=pure (.type "method_descriptor")) (i:Og X id r) (j:PE X o to) (h:PA X (e::es) t) (b:attributeBase o name X.env (eval o X.env)=eval o X.env:=by rfl)
  (d:((backTo cpos (starEach (e::es) X.env)).all (λ x=> !x.1)&&(backToKw cpos (keywordEach [] X.env)).all (λ x=>x.1.isSome)&&decide ((e::es).length+([]:List Keyword).length+(if ([]:List Keyword).isEmpty then 0 else 1)<30))=true:=by rfl)
  (c:(apos.endLine==cpos.line)=true:=by rfl) (k:starEach (e::es) X.env=(false,eval e X.env)::starEach es X.env:=by rfl) (a:(backTo cpos (starEach es X.env)).any (·.1)=false:=by rfl):
  PE X (.Call (.Attribute o name apos) (e::es) [] cpos) (qu K T r to t):=by subst hK;show Jd l f g i j h b d c k a
end
abbrev cP:R2:=vm λ i j=> .int (i+j)
abbrev lU:R2:=vm λ i j=> .int (i-j)
abbrev eF:R2:=rI CMul λ i j=> .int (i*j)
abbrev bV:R2:=rI J9 λ i j=> .int (i / j)
abbrev bu:R2:=rI (λ _ j=>0<j) λ i j=> .int (i%j)
abbrev Jk:R2:=rI Ja λ i j=> .int (i*2^j.toNat)
abbrev Jl:R2:=rI (λ _ j=>0<=j) λ i j=> .int (i / 2^j.toNat)
abbrev Jm:R2:=vm λ i j=> .bl (decide (i<j))
abbrev Fx:R2:=vm λ i j=> .bl (decide (i<=j))
abbrev xN:R2:=vm λ i j=> .bl (decide (j<i))
abbrev dw:R2:=λ x y H Q=> ∃i j,x= .str i/\y= .str j/\i.length+j.length<=sizeLine/\Q (.str (i++j)) H
abbrev jW:R2:=λ x y H Q=> ∃i j,x= .str i/\y= .str j/\Q (.bl (!(decide (j.cps.toList<i.cps.toList)))) H
abbrev DP:R2:=λ x y H Q=>y= .non/\Q (.bl (decide (x= .non))) H
abbrev qU:R2:=λ x y H Q=>y= .non/\Q (.bl (!decide (x= .non))) H
abbrev pG:V->Hp->VK->Prop:=rU λ i=> .int (-i)
abbrev Jo:V->List V->Hp->VK->Prop:=λ x xs H Q=> ∃i,x= .int i/\xs=[]/\Q (.int (Builtin.Int.intBits i)) H
abbrev DQ:List V->Hp->VK->Prop:=λ xs H Q=> ∃x,xs=[.str x]/\x.length=1/\Q (.int (x.cps.getD 0 0:Nat)) H
abbrev MF:List V->Hp->VK->Prop:=λ xs H Q=> ∃i j,xs=[.int i, .int j]/\Q (.int (if j<i then j else i)) H
abbrev xO:List V->Hp->VK->Prop:=λ xs H Q=> ∃i j,xs=[.int i, .int j]/\Q (.int (if j>i then j else i)) H
def Cf (v:Value) (o:Obj):Prop:= ∃vs,o.data= .fields vs/\vs[2]? =some v
def F2 (h:Heap) (x:Addr) (v:Value):Prop:= ∃o,h.get? x=some o/\Cf v o
def Ch (h:Heap):List Addr->Prop
 | []=>False
 | [x]=>F2 h x .none
 | x::y::l=>F2 h x (.ref y)/\Ch h (y::l)
theorem Ch.keeps {h:Heap} (k: ∀y v,F2 h y v->F2 h' y v): ∀ {l:List Addr},Ch h l->Ch h' l
 | [_],c=>k _ _ c
 | _::_::_,c=>#[k _ _ c.1,Ch.keeps k c.2]
theorem Ch.there {h:Heap}: ∀ {l:List Addr},Ch h l-> ∀b∈l,∃o,h.get? b=some o
 | [_],⟨o,e,_⟩,b,m=>#[o,by rw [Za.mp m];show e]
 | _::_::_,⟨⟨o,e,_⟩,c⟩,b,m=>by
  rcases Zx.mp m with rfl | m
  .exact #[o,e]
  .exact c.there b m
def Cn (x:Addr) (h:Heap):Prop:= ∃l,(x::l).Nodup/\Ch h (x::l)
theorem Cn.nil {h:Heap} (f:F2 h x .none):Cn x h:=#[[],by simp,f]
theorem Cn.keeps {h:Heap} (c:Cn x h) (k: ∀y v,F2 h y v->F2 h' y v):Cn x h':=by
 let#[l,n,c]:=c;show#[l,n,c.keeps k]
def Kpa {α:Type}:Sem α->Prop
 | .pure _=>True
 | .raise _=>True
 | .unsupported _=>True
 | .finish _=>True
 | .rule _ k=>Kpa (k Unit.unit)
 | .at _ k=>Kpa (k Unit.unit)
 | .load _ _ k=> ∀o,Kpa (k o)
 | .update _ _ f k=>(∀o v,Cf v o->Cf v (f o))/\Kpa (k Unit.unit)
 | .alloc _ k=> ∀a,Kpa (k a)
 | .loadIfAlive _ k=> ∀o,Kpa (k o)
 | .point _ k=>Kpa (k Unit.unit)
 | .fresh k=> ∀t,Kpa (k t)
 | .ask k=> ∀t,Kpa (k t)
 | .handled _ k=> ∀t,Kpa (k t)
 | .stack k=> ∀l,Kpa (k l)
 | .register _ _=>True
 | _=>False
theorem BX {h:Heap} (o:Obj) (c:F2 h y v):F2 (h.push o) y v:=by
 let#[u,e,f]:=c;show#[u,Zd _ e,f]
theorem Fy {h:Heap} (i: ∀o v,Cf v o->Cf v (f o)) (c:F2 h y v):F2 (h.update a f) y v:=by
 let#[u,e,g]:=c;by_cases q:a=y
 .subst q;let#[vs,b,d]:=i u v g;show#[f u,Xf f e (â b),vs,b,d]
 .exact #[u,(Yy _ _ q).trans e,g]
theorem Kpa.wp {g:Type} {d:PySem.Ctx} {t:Sem g} {Q:g->Pos->Shared->Prop} {E:Value->Pos->Shared->Prop} {p:Pos} {s:Shared} (b:Kpa t) (h:Sem.wp M d t Q E p s) (c:Cn x s.heap):
  Sem.wp M d t (λ a p s'=>Q a p s'/\Cn x s'.heap) (λ e p s'=>E e p s'/\Cn x s'.heap) p s:=by
 induction t generalizing p s with
 | pure a=>rw [Sem.wp] at h ⊢;show#[h,c]
 | raise e=>rw [Sem.wp] at h ⊢;show#[h,c]
 | unsupported w=>rw [Sem.wp] at h;show h.elim
 | finish w=>rw [Sem.wp] at h;show h.elim
 | register a k ih=>rw [Sem.wp] at h;show h.elim
 | rule _ k ih=>rw [Sem.wp] at h ⊢;show ih _ b h c
 | «at» _ k ih=>rw [Sem.wp] at h ⊢;show ih _ b h c
 | load a _ k ih=>
  rw [Sem.wp] at h ⊢;let#[o,i,h]:=h;show#[o,i,ih o (b o) h c]
 | update a _ f k ih=>
  rw [Sem.wp] at h ⊢;show#[h.1,ih _ b.2 h.2 (c.keeps λ _ _=>Fy b.1)]
 | alloc o k ih=>rw [Sem.wp] at h ⊢;show ih _ (b _) h (c.keeps λ _ _=>BX o)
 | loadIfAlive a k ih=>rw [Sem.wp] at h ⊢;show ih _ (b _) h c
 | point _ k ih=>rw [Sem.wp] at h ⊢;show ih _ b h c
 | fresh k ih=>rw [Sem.wp] at h ⊢;show ih _ (b _) h c
 | ask k ih=>rw [Sem.wp] at h ⊢;show ih _ (b _) h c
 | handled _ k ih=>rw [Sem.wp] at h ⊢;show ih _ (b _) h c
 | stack k ih=>rw [Sem.wp] at h ⊢;show ih _ (b _) h c
 | choose _ _ k ih=>show b.elim
 | os _ _ k ih=>show b.elim
 | call _ _ _ _ k ih=>show b.elim
 | newGen _ k ih=>show b.elim
 | genState _ k ih=>show b.elim
 | resume _ _ _ k ih=>show b.elim
 | yield _ _ _ k ih=>show b.elim
 | fork _ k ih=>show b.elim
 | thread k ih=>show b.elim
 | await _ _ _ _ k ih=>show b.elim
theorem Kpa.any {d:Type} {t:Sem d} {Q:d->Shared->Prop} {s:Shared} (f:Kpa t) (h:wpAny M A t Q E s) (c:Cn x s.heap):
  wpAny M A t (λ a s'=>Q a s'/\Cn x s'.heap) (λ e s'=>E e s'/\Cn x s'.heap) s:=λ g p b=>f.wp (h g p b) c
theorem Kpa.bind {c g:Type} {t:Sem c} {f:c->Sem g} (b:Kpa t) (d: ∀a,Kpa (f a)):Kpa (t >>= f):=by
 change Kpa (Sem.bind t f);induction t with
 | pure a=>show d a
 | raise e=>trivial
 | unsupported w=>trivial
 | finish w=>trivial
 | register a k ih=>trivial
 | rule _ k ih=>show ih _ b
 | «at» _ k ih=>show ih _ b
 | load a _ k ih=>show λ o=>ih o (b o)
 | update a _ f k ih=>show#[b.1,ih _ b.2]
 | alloc o k ih=>show λ a=>ih a (b a)
 | loadIfAlive a k ih=>show λ o=>ih o (b o)
 | point _ k ih=>show ih _ b
 | fresh k ih=>show λ o=>ih o (b o)
 | ask k ih=>show λ o=>ih o (b o)
 | handled _ k ih=>show λ o=>ih o (b o)
 | stack k ih=>show λ o=>ih o (b o)
 | choose _ _ k ih=>show b.elim
 | os _ _ k ih=>show b.elim
 | call _ _ _ _ k ih=>show b.elim
 | newGen _ k ih=>show b.elim
 | genState _ k ih=>show b.elim
 | resume _ _ _ k ih=>show b.elim
 | yield _ _ _ k ih=>show b.elim
 | fork _ k ih=>show b.elim
 | thread k ih=>show b.elim
 | await _ _ _ _ k ih=>show b.elim
section
variable {α:Type}
theorem mX (a:Addr):Kpa (load a):=λ _=>trivial
theorem pH (v:Value):Kpa (fieldsOf v):=by
 unfold fieldsOf;split
 .refine (mX _).bind λ o=> ?_
  split<;>trivial
 .trivial
theorem fY (v:Value) (i:Nat):Kpa (field v i):=by
 unfold field;refine(pH v).bind λ a=> ?_
 split<;>trivial
theorem fZ (c:i≠2) (v u:Value):Kpa (setField v i u):=by
 unfold setField;split
 .unfold updateField;refine(mX _).bind λ o=> ?_
  split
  .split
   .refine #[λ o v ⟨vs,b,a⟩=>#[_,Wr b _,?_],trivial];rw [Array.getElem?_setIfInBounds_ne c];show a
   .trivial
  .trivial
 .trivial
theorem eG (e:Value) (a:Option Addr):Kpa (setFlight e a):=by
 unfold setFlight;refine(fY _ _).bind λ b=> ?_
 split
 .exact fZ (by decide) _ _
 .trivial
theorem Fz (env:Env) (a:List Env):Kpa (behindIsImport env a):=by
 unfold behindIsImport;split
 .trivial
 split
 .trivial
 show(fY _ _).bind λ _=>trivial
theorem BZ (env:Env) (b:Bool) (l:List Env):Kpa (keptBack env b l):=by
 cases l with
 | nil=>
  unfold keptBack;dsimp only;split
  .trivial
  .exact Kpa.bind (Kpa.bind (λ _=>trivial) λ _=>trivial) λ _=>trivial
 | cons e l=>show trivial
theorem pI: ∀l:List Env,Kpa (readyFrames l)
 | []=>trivial
 | env::outer=>by
  unfold readyFrames;split
  .refine (mX _).bind λ o=> ?_
   split
   .trivial
   .refine (Fz _ _).bind λ b=>(BZ _ _ _).bind λ v=> ?_
    refine Kpa.bind #[λ o v ⟨vs,c,a⟩=>#[vs,c,a],trivial] λ _=>pI outer
  .trivial
theorem qW (env:Env):Kpa (PySem.frameOf env):=by
 unfold PySem.frameOf;refine Kpa.bind (Kpa.bind (λ _=>trivial) λ _=>trivial) λ l=>Kpa.bind ?_ λ o=> ?_
 .unfold frameObject;split
  .trivial
  .exact (pI _).bind λ _=>trivial
 .split<;>trivial
theorem xP (f:Addr) (b:Bool):Kpa (entryPlaceOf f b):=by
 unfold entryPlaceOf;refine Kpa.bind (λ _=>trivial) λ l=> ?_
 split<;>trivial
theorem xQ (a b c d e:Value) (l:List Value):Kpa (EntryCells.newEntry a b c d e l):=by
 unfold EntryCells.newEntry newFields newObj newObjAsIs;dsimp only;generalize ([a,b,c,d,e]++if l.isEmpty=true then List.replicate 6 Value.none else l)=vs;split
 .trivial
 .exact λ _=>trivial
theorem jA (e:Value) (env:Env):Kpa (noteFrame e env):=by
 unfold noteFrame;split
 .refine (fY _ _).bind λ h=> ?_
  have fin: ∀ (f:Addr) (b:Bool),Kpa (do setField e 1 (<- EntryCells.newEntry h (<- PySem.frameOf env) .none (rawInt f) .none (<- entryPlaceOf f b))):=λ f b=>
   (qW _).bind λ a=>(xP _ _).bind λ pl=>(xQ _ _ _ _ _ _).bind λ v=>fZ (by decide) _ _
  split
  .refine (fY _ _).bind λ q=> ?_
   split
   .trivial
   .exact (fZ (by decide) _ _).bind λ _=>fin _ _
  .exact fin _ _
 .trivial
theorem qX (e:Value) (env:Env):Kpa (leaving env e):=by
 unfold leaving;show(jA _ _).bind λ _=>eG _ _
theorem vL (w:String) (e:Value) (env:Env):Kpa (PySem.passOn w e env:Sem α):=by
 unfold PySem.passOn;refine(fY _ _).bind λ h=> ?_
 dsimp only;split
 .trivial
 .exact (eG _ _).bind λ _=>trivial
end
theorem ObjOk.there {P:Program} {h:Heap} {o:HO} (x:ObjOk P w H h a o): ∃u,h.get? a=some u:=by
 cases o with
 | lst xs=>let#[_,_,_,_,e]:=x;show#[_,e]
 | tup xs=>let#[_,_,_,o,e,_]:=x;show#[_,e]
 | dK kvs=>let#[_,_,_,_,o,_,_,e,_]:=x;show#[_,e]
 | dT kvs=>let#[_,_,_,_,o,_,_,e,_]:=x;show#[_,e]
 | set S n=>let#[o,_,_,_,e,_]:=x;show#[_,e]
 | ins C dx fs=>let#[_,_,_,e,_]:=x;show#[_,e]
 | own y=>show x
 | xd fs=>let#[_,#[_,_,_,e,_],_]:=x;show#[_,e]
 | rng lo hi=>let#[_,_,_,e]:=x;show#[_,e]
 | frz ob u=>let#[e,_]:=x;show#[_,e]
 | tbl ps=>show#[_,(show h.get? a=some _ from x)]
 | met f y=>show#[_,(show h.get? a=some _ from x)]
 | ext φ=>let#[_,#[_,e],_]:=x;show#[_,e]
def CX1 (P:Program) (w:World) (outer:List Env) (H:Hp) (s:Shared) (E:XK) (x:Addr) (s':Shared):Prop:=
 ∃ (C a0:Value) (B:Heap) (H':Hp),s'.os=s.os/\AllBare s'.gens/\Un (frs outer) [] H H' s.heap s'.heap/\HOk P w H' s'.heap/\H' x=none/\
  Heap.FlyingW B outer x C a0 s'.heap/\s.heap.get? x=none/\(∀b o,s.heap.get? b=some o->b∉frs outer-> ∃u,B.get? b=some u)/\(∀b o,H' b=some o-> ∃u,B.get? b=some u)/\E C none H'
def iK (P:Program) (w:World):wg:=λ outer H s E e s'=> ∃x:Addr,e= .ref x/\CX1 P w outer H s E x s'/\Cn x s'.heap
theorem CX1.leaves {P:Program} {s:Shared} {E:XK} (c:Cn x s'.heap) (h:wpAny M A (leaving env (.ref x)) (λ _ a=>CX1 P w outer H s E x a) (λ _ _=>False) s'):
  wpAny M A (leaving env (.ref x)) (λ _ a=>iK P w outer H s E (.ref x) a) (λ b a=>iK P w outer H s E b a) s':=
 Yd ((qX _ _).any h c) (λ _ _ h=>#[x,rfl,h.1,h.2]) λ _ _ z=>z.1.elim
theorem Ca {h:Heap} {C:Value} {vs:List Value} (m:Heap.MadeExcOf h h' x C vs):Cn x h':=by
 let#[t,e,_]:=m.there;show .nil #[_,e,_,rfl,rfl]
def DR (X:Cx) (E:XK):Prop:=
 ∀ (pins:List (Addr×Obj)) (σ:St) (H:Hp) (s:Shared) (x:Addr) (C:Value) (vs:List Value) (h':Heap),Inv X pins σ H s->Heap.MadeExcOf s.heap h' x C vs->E C none H->X.xe (.ref x) { s with heap:=h' }
section
variable {P:Program} {w:World} {K:W.Frag} {mg:Str->Option Value} {base:Heap} {N:List Str} {qual:Str} {sc:Scope} {f:Addr} {cd:Value} {A:Around} {outer:List Env} {s₀:Shared} {H₀:Hp} {E E':XK}
theorem eN:frs (envOfC qual sc s₀.heap.objs.size f cd::outer)=s₀.heap.objs.size::frs outer:=rfl
theorem bO:DR (gZ (iK P w) P w K mg base N qual sc f cd A outer s₀ H₀ E) E:=by
 intro J Z H s x C vs h' I l Q;have O:(A.deeper (envOfC qual sc s₀.heap.objs.size f cd)).frames=some (envOfC qual sc s₀.heap.objs.size f cd::outer):=I.ok.frames;have F:s.heap.FunFrames base (envOfC qual sc s₀.heap.objs.size f cd::outer):=I.stack;have u:Un (frs outer) [] H₀ H s₀.heap s.heap:=I.base;have L: ∀b∈frs (envOfC qual sc s₀.heap.objs.size f cd::outer),H b=none:=I.stkFree;change wpAny (model P w) (A.deeper (envOfC qual sc s₀.heap.objs.size f cd)) (leaving (envOfC qual sc s₀.heap.objs.size f cd) (.ref x)) (λ _ i=>iK P w outer H₀ s₀ E (.ref x) i) (λ m i=>iK P w outer H₀ s₀ E m i) { s with heap:=h' };refine CX1.leaves (Ca l) ?_;refine wpAny_leaves_madeW (base:=PySem.W.hideAll s.heap (frs (envOfC qual sc s₀.heap.objs.size f cd::outer))) O rfl (λ b o q=>Ô _ q) (PySem.W.funFrames_hide F λ e T a R=>Õ.mpr #[e,T,R]) l λ k t M X Y U=> ?_
 have kept: ∀b o,s.heap.get? b=some o->b∉frs (envOfC qual sc s₀.heap.objs.size f cd::outer)->k.get? b=some o:=λ b o e d=>M.1 b o (Yz _ e d)
 have slots: ∀b o,s.heap.get? b=some o->b∈frs (envOfC qual sc s₀.heap.objs.size f cd::outer)-> ∃B,k.get? b=some { o with slots:=B }:=λ b o e d=>by
  let#[_,o',m,S]:=F.mem d;rw [e] at m
  cases m;show U b o (l.keeps b o e) S
 have G: ∀b o,s₀.heap.get? b=some o->b∉frs outer->b∉frs (envOfC qual sc s₀.heap.objs.size f cd::outer):=λ b o e d j=>by
  rw [eN] at j;rcases Zx.mp j with z | z
  .exact absurd (Zl e) (by rw [z];show Xp _)
  .exact d z
 have y:H x=none:=by
  cases q:H x with
  | none=>rfl
  | some o=>
   let#[v,e]:=(I.hok x o q).there;have:=l.new;rw [e] at this;cases this
 refine#[C, .ref t,_,H,I.os,I.bare,#[λ b o q n d g=>kept b o (u.keep b o q n d g) (G b o q d),λ b o q n d g=> ?_,u.free,λ b o q g=> ?_,u.tups,u.frzs,u.tbls],λ a o e=> ?_,y,M,?_,λ b o q d=> ?_,λ b o q=> ?_,Q]
 .obtain ⟨B,h⟩:=u.slot b o q n d g;let#[D,p]:=slots b _ h (by rw [eN];show Zu _ d);show#[D,p]
 .obtain ⟨o',h⟩:=u.there b o q g;by_cases d:b∈frs (envOfC qual sc s₀.heap.objs.size f cd::outer)
  .obtain ⟨B,p⟩:=slots b o' h d;show#[_,p]
  .exact #[_,kept b o' h d]
 .refine (I.hok a o e).stay (λ c v r q=>kept c v q λ j=> ?_) (λ _ q=>q) λ _ _ q=>q
  have z:=L c j;rcases r with rfl | r
  .rw [e] at z;cases z
  .rw [r] at z;cases z
 .cases q:s₀.heap.get? x with
  | none=>rfl
  | some o=>
   let#[o',h]:=u.there x o q (by simp);have:=l.new;rw [h] at this;cases this
 .obtain ⟨o',h⟩:=u.there b o q (by simp);show#[_,Yz _ h (G b o q d)]
 .obtain ⟨v,e⟩:=(I.hok b o q).there;refine#[_,Yz _ e λ j=> ?_];rw [L b j] at q;cases q
theorem bI (Z: ∀C H',E' C none H'->E C none H'):dR (iK P w) (gZ (iK P w) P w K mg base N qual sc f cd A outer s₀ H₀ E) E':=by
 intro W σ H s e s' I h;let#[x,rfl,#[C,a0,B,H',ho,hg,un,M,hx,p,sx,m,G,q],X]:=h;have Y:(A.deeper (envOfC qual sc s₀.heap.objs.size f cd)).frames=some (envOfC qual sc s₀.heap.objs.size f cd::outer):=I.ok.frames;have u:Un (frs outer) [] H₀ H s₀.heap s.heap:=I.base;have un:Un (frs (envOfC qual sc s₀.heap.objs.size f cd::outer)) [] H H' s.heap s'.heap:=un;have p:Heap.FlyingW B (envOfC qual sc s₀.heap.objs.size f cd::outer) x C a0 s'.heap:=p;have m: ∀b o,s.heap.get? b=some o->b∉frs (envOfC qual sc s₀.heap.objs.size f cd::outer)-> ∃u,B.get? b=some u:=m;change wpAny (model P w) (A.deeper (envOfC qual sc s₀.heap.objs.size f cd)) (leaving (envOfC qual sc s₀.heap.objs.size f cd) (.ref x)) (λ _ k=>iK P w outer H₀ s₀ E (.ref x) k) (λ F k=>iK P w outer H₀ s₀ E F k) s';refine CX1.leaves X ?_;refine wpAny_leaves_onW Y rfl p λ t r up=> ?_
 have Q: ∀b o,s₀.heap.get? b=some o->b∉frs outer->b∉frs (envOfC qual sc s₀.heap.objs.size f cd::outer):=λ b o e i S=>by
  rw [eN] at S;rcases Zx.mp S with z | z
  .exact absurd (Zl e) (by rw [z];show Xp _)
  .exact i z
 have j: ∀b o,s'.heap.get? b=some o->(∃v,B.get? b=some v)->t.get? b=some o:=λ b o e ⟨v,T⟩=>by
  have z:=p.1 b v T;rw [e] at z
  cases z;show r.1 b o T
 have slots: ∀b o,s'.heap.get? b=some o->b∈frs (envOfC qual sc s₀.heap.objs.size f cd::outer)-> ∃R,t.get? b=some { o with slots:=R }:=λ b o e i=>by
  let#[_,o',F,hd]:=p.2.2.1.mem i;rw [e] at F
  cases F;show up b o e hd
 refine#[C,a0,B,H',ho.trans I.os,hg,#[λ b o q n i d=> ?_,λ b o q n i d=> ?_,λ b o q n d=> ?_,λ b o q d=> ?_,λ b xs q=>un.tups b xs (u.tups b xs q),λ b o v q=>un.frzs b o v (u.frzs b o v q),λ b ps q=> ?_],λ a o e=> ?_,hx,r,?_,λ b o q i=> ?_,G,Z C H' q]
 .have g:=u.keep b o q n i d;have O:=u.free b o q n d;show j b o (un.keep b o g O (Q b o q i) d) (m b o g (Q b o q i))
 .obtain ⟨R,g⟩:=u.slot b o q n i d;have O:=u.free b o q n d;have y:b∈frs (envOfC qual sc s₀.heap.objs.size f cd::outer):=by rw [eN];show Zu _ i
  let#[ac,l]:=un.slot b _ g O y d;let#[D,J]:=slots b _ l y;show#[D,J]
 .obtain ⟨o',g⟩:=u.there b o q d;show un.free b o' g (u.free b o q n d) d
 .obtain ⟨o',g⟩:=u.there b o q d;let#[U,l]:=un.there b o' g d;by_cases i:b∈frs (envOfC qual sc s₀.heap.objs.size f cd::outer)
  .obtain ⟨R,J⟩:=slots b U l i;show#[_,J]
  .exact #[_,j b U l (m b o' g i)]
 .obtain ⟨m1,g⟩:=u.tbls b ps q;let#[m2,l]:=un.tbls b _ g;show#[m1++m2,by rw [l,Ó]]
 .refine (M a o e).stay (λ c v L z=>j c v z ?_) (λ _ z=>z) λ _ _ z=>z
  rcases L with rfl | L
  .exact G _ _ e
  .exact G _ _ L
 .cases z:s₀.heap.get? x with
  | none=>rfl
  | some o=>
   let#[o',g]:=u.there x o z (by simp);rw [sx] at g;cases g
 .obtain ⟨o',g⟩:=u.there b o q (by simp);show m b o' g (Q b o q i)
end
section
variable {P:Program} {w:World} {K:W.Frag} {mg:Str->Option Value} {base:Heap}
theorem Fun.okX {x a:Str} {st:Stmt} {f:Addr} {N h:List Str} {sp:Sp} (F:Fun K x a st f fd) (S:FnScope N h (az st)) (g: ∀vs H Q E,sp vs H Q E->vs.length=h.length)
  (c: ∀ (b:Value) (A:Around) (outer:List Env) (s:Shared) (H:Hp) (vs:List V) (Q:VK) (E:XK),Room k (A.deeper (envOfC a (az st) s.heap.objs.size f b))->sp vs H Q E->
   ∃t,PSs (gZ (iK P w) P w K mg base N a (az st) f b A outer s H E) (cA st) t/\t { nx:=λ _ H'=>Q .non H',rt:=Q } (start N vs) H):FnOk P w K mg base (iK P w) (k+1) f fd h sp:=by
 let#[n,o,kV,i,p,m,b,ct,l,rfl,lk,d]:=F.ex;show Dy lk d S g λ A outer s H vs Q E j e=>c b A outer s H vs Q E j e
end
structure CalX (P:Program) (w:World) (K:W.Frag) (mg:Str->Option Value) (base:Heap) (n:Nat) (x:Str) (ps:List Str) (sp:Sp):Prop where
 ex: ∃ (f:Addr) (fd:FuncData),FnOk P w K mg base (iK P w) n f fd ps sp/\Binds K fd ps []/\W.keepIn K (.ref f)=true/\mg x=some (.ref f)
section
variable {X:Cx} {n k:Nat} {x:Str} {ps:List Str} {sp:Sp} {p pos:Pos} {e:Expr} {es:List Expr} {t:TA} {E:XK}
theorem bZ (c:CalX X.prog X.w X.K X.mg X.base n x ps sp) (m:Room k X.A) (j:n<=k) (i:Gl X x) (o:dR (iK X.prog X.w) X E) (d:PA X (e::es) t) (a:(x==("__debug__":Str))=false:=by decide)
  (h:starEach (e::es) X.env=(false,eval e X.env)::starEach es X.env:=by rfl) (b:(backTo pos (starEach es X.env)).any (·.1)=false:=by rfl):
  PE X (.Call (.Name x p) (e::es) [] pos) (aJ sp [] E t):=by
 let#[f,r,F,g,q,l]:=c.ex;show ue F (m.mono j) i l q g .nil o d a h b
end
theorem ur {K:W.Frag} (q:PySem.W.excIn K C bmB newId=true):
  ∃bm N nm e bs d sn sub ab col dd k0 k1 k2 k3 k5,K.lookup C=some (excClassObj nm e C N bs bm d sn sub ab col dd k0 k1 k2 k3 k5 newId)/\PySem.W.tailIn K bmB bm=true/\PySem.W.nsOkIn K N=true/\W.nsIn K N "__init__"=some none:=by
 unfold PySem.W.excIn at q;split at q
 .rename_i dd g p j;split at q
  .rename_i r bm k0 k1 k2 k3 n k5 f k;simp only [Xm,ā,ô] at q;let#[#[#[#[#[rfl,rfl],a],m],c],b]:=q;let#[nm,bs,o,ns,e,d,sn,sub,ab,col,h]:=g;dsimp only at f a c b;subst f a;let#[l]:=p;have i:l=[k0,k1,k2,k3,some (.builtin n),k5]:=k;subst i;show#[bm,ns,nm,e,bs,d,sn,sub,ab,col,dd,k0,k1,k2,k3,k5,j,m,c,b]
  .cases q
 .cases q
theorem qY {K:W.Frag} {N:Addr} (q:PySem.W.nsOkIn K N=true): ∃o,K.lookup N=some o:=by
 unfold PySem.W.nsOkIn at q;split at q
 .rename_i a;show#[_,a]
 .cases q
section
variable {X:Cx} {x:Str} {np cpos pos:Pos} {e:Expr} {es:List Expr} {t:TA} {E:XK} {C:Addr} {bm:List Value} {B newId initId:String}
def cW (E:XK) (C:Addr) (t:TA):TS:=λ _ σ H=>t σ H λ vs H1=>vs.length<=sizeLine/\E (.ref C) none H1
theorem cg (j:ExcBaseFacts B newId initId bm) (F:DR X E) (y:X.calm=true) (G:Gl X x) (L:X.mg x=some (.ref C)) (M:PySem.W.excIn X.K C bm newId=true) (w:PA X (e::es) t) (f:(x==("__debug__":Str))=false:=by decide)
  (l:starEach (e::es) X.env=(false,eval e X.env)::starEach es X.env:=by rfl) (i:(backTo cpos (starEach es X.env)).any (·.1)=false:=by rfl):
  PS X (.Raise (some (.Call (.Name x np) (e::es) [] cpos)) none pos) (cW E C t):=by
 intro a s n H D I h;let#[R,N,nm,P,bs,A,sn,sub,ab,col,dd,k0,k1,k2,k3,k5,u,m,b,g]:=ur M;have T:=í I.kIn m;have v:s.heap.Ns N (s.heap.nsMap N):= .of_isNs (PySem.W.isNs_of_in I.kIn b);let#[S,c]:=qY b;refine wpAny_Raise_call_subT (C:=C) (nm:=nm) (q:=P) (N:=N) (bs:=bs) (bm:=R) (hdct:=A) (sn:=sn) (sub:=sub) (ab:=ab) (col:=col) (dd:=dd) (k0:=k0) (k1:=k1) (k2:=k2) (k3:=k3) (k5:=k5)
  j (mN:=s.heap.nsMap N) (T.hasType j.hasBase) (I.ok.hd y) (by rw [l];change(false||(backTo cpos (starEach es X.env)).any (·.1))=false;rw [i];rfl) (PySem.W.nsMap_none_of_in I.kIn b g) (dI I G L #[rfl,?_] f)
 have z:=w cpos a s n H _ I h;rw [l] at z ⊢;refine Å (bA z λ us Q ⟨vs,H2,d,r,J,q⟩=>#[rfl,?_,d.kIn _ _ u,v.at' λ o e=> ?_,í d.kIn m,λ h' p O=>F a n H2 Q p _ _ h' d O q])
 .rw [<- r.length];show J
 .have k:=I.kIn _ _ c;rw [e] at k
  cases k;show d.kIn _ _ c
end
def ExcAt (x:Addr) (C:Value) (h:Heap):Prop:= ∃o vs,h.get? x=some o/\o.cls=C/\o.data= .fields vs
abbrev mY (x:Addr) (C:Value):HO:= .ext (ExcAt x C)
abbrev g8 (X:Cx) (pins:List (Addr×Obj)) (xe:Value->Shared->Prop):Cx where
 prog:=X.prog
 w:=X.w
 K:=X.K
 mg:=X.mg
 base:=X.base
 A:=X.A
 N:=X.N
 s₀:=X.s₀
 H₀:=X.H₀
 env:=X.env
 outer:=X.outer
 stack:=X.stack
 ex:=X.ex
 fn:=X.fn
 calm:=X.calm
 pn:=X.pn++pins
 xe:=xe
abbrev qZ (X:Cx) (x:Addr) (pins:List (Addr×Obj)):Cx where
 prog:=X.prog
 w:=X.w
 K:=X.K
 mg:=X.mg
 base:=X.base
 A:=X.A.mark (some (.ref x))
 N:=X.N
 s₀:=X.s₀
 H₀:=X.H₀
 env:=X.env
 outer:=X.outer
 stack:=X.stack
 ex:=X.ex
 fn:=X.fn
 calm:=false
 pn:=X.pn++pins
 xe:=λ _ _=>False
section
variable {X:Cx} {pins pins':List (Addr×Obj)} {σ:St} {H:Hp} {s:Shared} {xe:Value->Shared->Prop} {x:Addr}
theorem Inv.tryIn (I:Inv X pins σ H s) (xe:Value->Shared->Prop):Inv (g8 X pins xe) [] σ H s:=
 ⟨⟨I.ok.mod,I.ok.kind,I.ok.glob,I.ok.blt,I.ok.above,I.ok.inj,I.ok.has,I.ok.cab,I.ok.hd,I.ok.frames,I.ok.stk,I.ok.exf,I.ok.bs,I.ok.bsz,I.ok.noex,I.ok.exfs,I.ok.funs,I.ok.frf⟩,
  I.os,I.bare,I.base,I.loc,I.cell,I.free,I.freeC,λ p a=>I.pin p (by simpa using a),I.hok,I.len⟩
theorem Inv.tryOut (I:Inv (g8 X pins xe) pins' σ H s):Inv X pins σ H s:=
 ⟨⟨I.ok.mod,I.ok.kind,I.ok.glob,I.ok.blt,I.ok.above,I.ok.inj,I.ok.has,I.ok.cab,I.ok.hd,I.ok.frames,I.ok.stk,I.ok.exf,I.ok.bs,I.ok.bsz,I.ok.noex,I.ok.exfs,I.ok.funs,I.ok.frf⟩,
  I.os,I.bare,I.base,I.loc,I.cell,I.free,I.freeC,λ p a=>I.pin p (Yw _ a),I.hok,I.len⟩
theorem Inv.hanIn (I:Inv X pins σ H s) (x:Addr):Inv (qZ X x pins) [] σ H s:=
 ⟨⟨I.ok.mod,I.ok.kind,I.ok.glob,I.ok.blt,I.ok.above,I.ok.inj,I.ok.has,I.ok.cab,λ z=>Bool.noConfusion z,I.ok.frames,I.ok.stk,I.ok.exf,I.ok.bs,I.ok.bsz,I.ok.noex,I.ok.exfs,I.ok.funs,I.ok.frf⟩,
  I.os,I.bare,I.base,I.loc,I.cell,I.free,I.freeC,λ p a=>I.pin p (by simpa using a),I.hok,I.len⟩
theorem Inv.hanOut (b:X.Ok) (I:Inv (qZ X x pins) pins' σ H s):Inv X pins σ H s:=
 #[b,I.os,I.bare,I.base,I.loc,I.cell,I.free,I.freeC,λ p a=>I.pin p (Yw _ a),I.hok,I.len]
end
theorem jB {Y:Cx} {s:Shared} {C a0:Value} {B h:Heap} (I:Inv Y pins σ H s) (R:s'.os=s.os) (Q:AllBare s'.gens) (i:Un (frs Y.stack) [] H H' s.heap s'.heap)
  (D:HOk Y.prog Y.w H' s'.heap) (y:H' x=none) (M:Heap.FlyingW B Y.stack x C a0 s'.heap) (Z:s.heap.get? x=none) (J: ∀b o,s.heap.get? b=some o->b∉frs Y.stack-> ∃u,B.get? b=some u) (K: ∀b o,H' b=some o-> ∃u,B.get? b=some u)
  (p:Heap.FlyingW B Y.stack x C a0 h) (up:s'.heap.UpToSlots h):Inv Y pins σ (upd H' x (mY x C)) { s' with heap:=h }:=by
 have f: ∀b o,s'.heap.get? b=some o->(∃v,B.get? b=some v)->h.get? b=some o:=λ b o e ⟨v,N⟩=>by
  have z:=M.1 b v N;rw [e] at z
  cases z;show p.1 b o N
 have slots: ∀b o,s'.heap.get? b=some o->b∈frs Y.stack-> ∃E,h.get? b=some { o with slots:=E }:=λ b o e g=>by
  let#[_,o',L,P]:=M.2.2.1.mem g;rw [e] at L
  cases L;show up b o e P
 have G:Un (frs Y.stack) [] H (upd H' x (mY x C)) s.heap h:=by
  refine#[λ b o q n g d=>f b o (i.keep b o q n g d) (J b o q g),λ b o q n g d=> ?_,λ b o q n d=> ?_,λ b o q d=> ?_,λ b xs q=> ?_,λ b o v q=> ?_,λ b T q=> ?_]
  .obtain ⟨E,j⟩:=i.slot b o q n g d;let#[F,l]:=slots b _ j g;show#[F,l]
  .have S:b≠x:=λ z=>by rw [z,Z] at q;cases q
   rw [aC S];show i.free b o q n d
  .obtain ⟨o',j⟩:=i.there b o q d;by_cases g:b∈frs Y.stack
   .obtain ⟨E,l⟩:=slots b o' j g;show#[_,l]
   .exact #[_,f b o' j (J b o q g)]
  .rw [aC (aP (i.tups b xs q) y)];show i.tups b xs q
  .rw [aC (aP (i.frzs b o v q) y)];show i.frzs b o v q
  .obtain ⟨m,e⟩:=i.tbls b T q;show#[m,by rw [aC (aP e y)];show e]
 have r:HOk Y.prog Y.w H' h:=λ a o e=>by
  refine(D a o e).stay (λ c v A z=>f c v z ?_) (λ _ z=>z) λ _ _ z=>z
  rcases A with rfl | A
  .exact K _ _ e
  .exact K _ _ A
 let#[oe,vs,j,l,O,_]:=p.first;have t:HOk Y.prog Y.w (upd H' x (mY x C)) h:=HOk.track r y #[#[oe,vs,j,l,O],#[oe,j],λ h1 h2 ⟨o,ws,U,W,X⟩ k=>#[o,ws,k o U,W,X]];show I.call' (s':={ s' with heap:=h }) R G t Q λ b g=>nomatch g
theorem gA {X:Cx} {s:Shared} {n:Str} (I:Inv X pins σ H s) (Y:X.N.Nodup) (D:X.N[i]? =some n)
  (l:X.env.scope.names.lookup n=some .local) (h: ∀s',Inv X pins (σ.set i none) H s'->Q Unit.unit s'):wpAny M A (do bindName X.env n .none;unbindBehindTheSuite X.env n pos) Q E s:=by
 refine Qr (wpAny_bindName (fQ I Y D (.inl l) (v:= .non) rfl (λ s1 U=> ?_) (.inr l)));unfold unbindBehindTheSuite;let#[m,Z,t]:=id U.loc;have d:i<σ.length:=by
  rw [I.len];show(Zv.mp D).1
 let#[u,ru,lk]:=t i n .non D (by rw [Xw d]) (.inl l);have hv:m n=some u:=by
  rcases lk with ⟨_,z⟩ | ⟨hk,_⟩
  .exact z
  .have J:X.env.kindOf n=some .local:=l;rcases hk with z | z<;>(rw [J] at z;cases z)
 refine wpAny_onRaise (wpAny_unbindName_local (env:=X.env) l Z hv (by rw [I.ok.kind];rfl) (λ h' uu L P=> ?_))
 .have a:=U.weak (σ':=σ.set i none) (by simp) (λ j v e=>by
   by_cases G:i=j
   .subst G;rw [Xw d] at e;cases e
   .rw [Ã G] at e;rw [Ã G];show e)
  have S: ∀b o,X.s₀.heap.get? b=some o->b≠X.env.locals:=λ b o e=>Yn (Zt (Zl e) I.ok.above)
  have f: ∀b o,b≠X.env.locals->s1.heap.get? b=some o->h'.get? b=some o:=λ b o k e=>P.extBut b o k e
  have u:=a.base;refine h _ #[a.ok,a.os,a.bare,#[λ b o q z k x=>f b o (S b o q) (u.keep b o q z k x),λ b o q z k x=> ?_,u.free,λ b o q x=> ?_,u.tups,u.frzs,u.tbls],#[_,L,λ j y v g F e3=> ?_],λ y c C=> ?_,a.free,a.freeC,λ p hp=> ?_,λ b v e=> ?_,a.len]
  .obtain ⟨sl,g⟩:=u.slot b o q z k x;show#[sl,f b _ (S b o q) g]
  .obtain ⟨o',g⟩:=u.there b o q x;show#[o',f b o' (S b o q) g]
  .obtain ⟨m2,O,K⟩:=a.loc;have em:m2=m:=by
    let#[o1,ae,ac,B,r1,_,f1]:=O;let#[o2,af,ad,q2,r2,_,f2]:=Z;rw [B] at q2;cases q2;rw [r1] at r2;cases r2;funext y;rw [<- f1 y,<- f2 y]
   subst em;let#[u',T,R]:=K j y v g F e3;refine#[u',T,?_];rcases R with ⟨k1,z1⟩ | ⟨k1,c,z1,z2⟩
   .refine .inl #[k1,?_];have ny:y≠n:=λ z=>by
     subst z;have:i=j:=jJ Y D g;subst this;rw [Xw d] at F
     cases F
    simp only [ny,Í];show z1
   .refine .inr #[k1,c,z1,?_];let#[o,B,r]:=z2;show#[o,f c o (a.cne y c z1) B,r]
  .obtain ⟨v,o,B,r⟩:=a.cell y c C;show#[v,o,f c o (a.cne y c C) B,r]
  .obtain ⟨a1,a2,W,a4⟩:=a.pin p hp;show#[f _ _ W a1,a2,W,a4]
  .refine (a.hok b v e).stay (λ c w C q=>f c w (λ z=> ?_) q) (λ _ q=>q) λ _ _ q=>q
   rcases C with y | y
   .rw [<- y,z,a.free] at e;cases e
   .rw [z,a.free] at y;cases y
section
variable {X:Cx} {body:List Stmt} {b₀:Stmt} {suite:List Stmt} {c n:Str} {np hpos pos:Pos} {tb th:TS} {Cc:Addr} {i:Nat}
def behind (i:Nat) (D:Ends):Ends where
 nx:=λ σ H=>D.nx (σ.set i none) H
 rt:=D.rt
 bk:=λ σ H=>D.bk (σ.set i none) H
 ct:=λ σ H=>D.ct (σ.set i none) H
end
end L2
end
section
namespace L2
open PySem PySem.Spec PySem.Calls PyProof.Rows PySem.W PySem.Builtin PySem.Builtin.ObjectAttr PySem.Builtin.Getset_descriptor
variable {H₀:Hp} {C:Addr} {M:Model} {w:World} {A:Around} {sc:Scope} {s₀:Shared} {cd tp:Value} {outer:List Env} {mg:Str->Option Value} {R:Result->Shared->Prop} {Q:Option Value->Shared->Prop}
theorem jm:Slot "ValueError" "__getattribute__" "BaseException.__getattribute__":=
 .of (owner:="BaseException") (n:="__getattribute__") (by rw [typeLookup_type,builtinLookup_eq_fast];kernel_rfl) (by ac_nf) (by ac_nf) (by ac_nf)
  (by first | show .inl (by ac_nf) | show .inr (by ac_nf)) (by rw [isSubtype_type];kernel_rfl)
theorem mZ:entryFor table "BaseException.__getattribute__"=some Builtin.«object.__getattribute__»:=
 entryFor_alias (id':="object.__getattribute__") (by kernel_rfl) (by first | rfl | decide+kernel) (by ac_nf) (by kernel_rfl)
theorem pJ (a b:Value):argsOk "BaseException.__getattribute__" #[[a,b],[]]:=by
 unfold argsOk;rw [signature?_of (id:="BaseException.__getattribute__") (n:=['_','_','e','t','u','b','i','r','t','t','a','t','e','g','_','_']) (o:=['n','o','i','t','p','e','c','x','E','e','s','a','B']) (by kernel_rfl) (by first | rfl | decide+kernel)];kernel_rfl
section
variable {prog:Program} {w:World} {A:Around} {E:Value->Shared->Prop} {s:Shared} {K:Frag} {x C:Addr}
theorem vM {rest:List Value} {Q:Unit->Shared->Prop} (X:K.In s.heap) (e:Looks M s.heap (typeOf (.ref x)) (.ref C)) (g:subIn K (.ref C) (.type "BaseException")=some true) (c:argsOk "BaseException.__getattribute__" #[.ref x::rest,[]]) (b:Q Unit.unit s):
  wpAny M A (checkBuiltinCall "BaseException.__getattribute__" #[.ref x::rest,[]]) Q E s:=by
 have a:splitId "BaseException.__getattribute__"=some ("BaseException","__getattribute__"):=by ac_nf
 have h:(Manifest.find? "BaseException").bind (·.attrs.lookup "__getattribute__")=some .slot:=by ac_nf
 have i:builtinKind "BaseException.__getattribute__"=(Manifest.find? "BaseException").bind (·.attrs.lookup "__getattribute__"):=by simp only [builtinKind,a]
 have d:Looks M s.heap (isInstance (.ref x) (.type "BaseException")) true:=e.andThen (looks_subIn X g);simp only [checkBuiltinCall,i,h,a];refine Qr (d.here ?_);simp only [Bool.not_true,Xj,Í]
 cases hsig:Manifest.signature? "BaseException.__getattribute__" with
 | none=>show Zi b
 | some sig=>
  simp only [argsOk,hsig] at c;have f:Bind.checkArgs "BaseException.__getattribute__" sig ⟨.ref x::rest,[]⟩=pure Unit.unit:=c;change wpAny M A (Bind.checkArgs "BaseException.__getattribute__" sig #[.ref x::rest,[]]) Q E s;rw [f];show Zi b
theorem lB (X:K.In s.heap) (a: ∀M,Looks M s.heap (typeOf (.ref x)) (.ref C)) (b:mroIn K C (.type "object")=some true)
  (h:R (.ok (.ret (.ref C))) s):codeAny (model prog w) A (.call (.builtin "getset_descriptor.__get__") #[[.builtin "object.__class__", .ref x,tp],[]]) R s:=by
 let#[e,g,dr,t,f]:=s;have c:=a (model prog w);have d:=looks_mroIn (M:=model prog w) X b;refine codeAny_call_builtin KF.slot_gs.plain KF.entry_gs (KF.slot_gs.check _ _ _ _ _ _ _ _ KF.type_class (KF.args_gs _ _ _) ?_);unfold Builtin.«getset_descriptor.__get__» descrGet;rw [dga_obj];refine Qr (Zi ?_);unfold descrGetter descrCheckInstance descrNameAndClass isInstance;simp only [KF.owner_class];repeat lk
 refine#[Code.quiet_builtin _ (by ac_nf),Wc KF.entry_class ?_];unfold Builtin.«object.__class__» shownTypeOf;repeat lk
 show h
theorem vN {o:Tok} {Q:Fin->Shared->Prop} (X:K.In s.heap) (c: ∀M,Looks M s.heap (typeOf (.ref x)) (.ref C)) (j:findIn K (.ref C) "__class__"=some (some (.builtin "object.__class__")))
  (l:specialIn K (.builtin "object.__class__") "__get__"=some (some (.builtin "getset_descriptor.__get__"))) (b:takesIn K (.builtin "object.__class__")=some true) (k:mroIn K C (.type "object")=some true)
  (m:Q (.done (.ret (.ref C))) s):wpAny (model prog w) A (Builtin.«object.__getattribute__» #[[.ref x, .str "__class__" o],[]]) Q E s:=by
 let#[a,g,dr,t,n]:=s;have d:=c (model prog w);have e:=looks_findIn (M:=model prog w) X j;have f:Looks (model prog w) a (getOf (some (.builtin "object.__class__"))) (some (.builtin "getset_descriptor.__get__")):=looks_specialIn X l;have h:=looks_takesIn (M:=model prog w) X b;have i:Looks (model prog w) a (find (.ref x) (.ref C) "__class__") (.bind (.builtin "getset_descriptor.__get__") (.builtin "object.__class__")):=
  e.andThen (f.andThen ((show Looks (model prog w) a (dataDescriptor? (some (.builtin "object.__class__")) (some (.builtin "getset_descriptor.__get__"))) (some (.builtin "getset_descriptor.__get__", .builtin "object.__class__")) from h.andThen .now).andThen (Looks.tag .now)))
 refine Qr (Zi (Qr (Zi (Qr (d.at (Qr (i.at ?_)))))));change wpAny _ _ (holding [.builtin "object.__class__"] (call (.builtin "getset_descriptor.__get__") [.builtin "object.__class__", .ref x, .ref C]) >>= ret) _ _ _;refine Qr (Yt (wpAny_call (lB (s:=#[a,g,dr,t,n]) X c k ?_)));show Zi m
theorem jX (X:K.In s.heap) (a: ∀M,Looks M s.heap (typeOf (.ref x)) (.ref C)) (b:findIn K (.ref C) "__getattribute__"=some (some (.builtin "BaseException.__getattribute__")))
  (hgt:findIn K (.ref C) "__getattr__"=some none) (l:findIn K (.ref C) "__class__"=some (some (.builtin "object.__class__")))
  (o:specialIn K (.builtin "object.__class__") "__get__"=some (some (.builtin "getset_descriptor.__get__"))) (c:takesIn K (.builtin "object.__class__")=some true) (n:mroIn K C (.type "object")=some true)
  (m:subIn K (.ref C) (.type "BaseException")=some true) (h:Q (some (.ref C)) { s with toks:=s.toks+1 }):wpAny (model prog w) A (getAttr? (.ref x) "__class__") Q E s:=by
 let#[e,g,d,t,f]:=s;have i:=a (model prog w);have j:=looks_findIn (M:=model prog w) X b;have k:=looks_findIn (M:=model prog w) X hgt;unfold getAttr? getAttrBy? getAttrBy;refine Qr (wpAny_mkText (Qr (æ (Yt (Qr (i.at (Qr (j.at ?_))))))));change wpAny _ _ (getAttrByItsOwn _ _ _ _ _ _) _ _ _;unfold getAttrByItsOwn;refine Qr (show wpAny _ _ (typeLookup (.ref C) "__getattr__") _ _ _ from k.at ?_);refine Qr (æ (Yt ?_));change wpAny _ _ (boundAndCalled _ _ _) _ _ _;unfold boundAndCalled;rw [jm.bind];refine Qr (Zi ?_);change wpAny _ _ (call (.builtin "BaseException.__getattribute__") [.ref x, .str "__class__" t]) _ _ _;refine wpAny_call (codeAny_call_builtin jm.plain mZ (vM (s:=#[e,g,d,t+1,f]) X (a _) m (pJ _ _) (vN (s:=#[e,g,d,t+1,f]) X a l o c n ?_)));show Zi (Zi h)
end
structure ExcK (K:W.Frag) (C:Addr):Prop where
 ex:PySem.W.excIn K C [.type "ValueError", .type "Exception", .type "BaseException", .type "object"] "ValueError.__new__"=true
 ga:findIn K (.ref C) "__getattribute__"=some (some (.builtin "BaseException.__getattribute__"))
 gt:findIn K (.ref C) "__getattr__"=some none
 cl:findIn K (.ref C) "__class__"=some (some (.builtin "object.__class__"))
 ge:specialIn K (.builtin "object.__class__") "__get__"=some (some (.builtin "getset_descriptor.__get__"))
 tk:takesIn K (.builtin "object.__class__")=some true
 mo:mroIn K C (.type "object")=some true
 mb:subIn K (.ref C) (.type "BaseException")=some true
theorem ExcK.cls {K:W.Frag} (z:ExcK K C): ∃c d cd e,K.lookup C=some #[c,d, .cls cd,e]:=by
 let#[cd,h,_]:=Option.bind_eq_some_iff.mp z.mo;unfold clsIn at h;split at h
 .rename_i g d' a f b;show#[_,_,_,_,b]
 .cases h
theorem jY {K:W.Frag} {x:Addr} (z:ExcK K C):KitX K (.ref x) (.ref C) (ExcAt x (.ref C)) where
 ty:=λ M h _ ⟨o,vs,a,b,_⟩=>b▸(Looks.ld a).andThen .now
 it:=λ M h X _=>by
  let#[c,d,i,l,f]:=z.cls;intro r t s s' k q;unfold isType loadHead;show Qr (wpAny_loadPart (k _ _ (X _ _ f)) (Zi q))
 ne:=λ h p dd j n l X g=>by
  let#[c,d,i,m,f]:=z.cls;refine Bool.eq_false_iff.mpr λ q=> ?_
  have e:C=p:=Value.ref.inj (ā.mp q);subst e;have z:=(X _ _ f).symm.trans g
  cases z
 ca:=λ X ⟨o,vs,a,b,_⟩ k=>jX X (λ M=>b▸(Looks.ld a).andThen .now) z.ga z.gt z.cl z.ge z.tk z.mo z.mb k
def cj (K:W.Frag):List V->Hp->VK->Prop:=λ xs H Q=> ∃ (x C:Addr) (y:V) (b:Bool),xs=[.ref x,y]/\H x=some (mY x (.ref C))/\ExcK K C/\
 ((∃T,y= .ty T/\kitOne K (.ref C) (.type T)=some b)\/(∃D,y= .ref D/\kitOne K (.ref C) (.ref D)=some b)\/ ∃ (p:Addr) (ds:List Addr),y= .ref p/\H p=some (.tup (ds.map V.ref))/\kitAny K (.ref C) (ds.map Value.ref)=some b)/\Q (.bl b) H
theorem lV: ∀ {ds:List Addr} {us:List Value},Vals (ds.map V.ref) us->us=ds.map Value.ref
 | [],_,r=>by cases r;rfl
 | d::ds,_,r=>by
  cases r with
  | cons r rr=>rw [Zn,<- lV rr];show Zk (· ::_) r
section
variable {X:Cx}
theorem n6:bM X (.builtin "isinstance") (cj X.K):=by
 intro i s M H xs us Q I G h;let#[x,C,y,b,rfl,t,g,v,q]:=h;let#[u,f,rfl,F,a]:=G.two
 cases (show u=Value.ref x from F);let#[d,_,_]:=(show ObjOk X.prog X.w H s.heap x (mY x (.ref C)) from I.hok x _ t);rcases v with ⟨T,rfl,e⟩ | ⟨D,rfl,e⟩ | ⟨p,ds,rfl,hp,e⟩
 .cases (show f=Value.type T from a);show kia_one (jY g) I.kIn d e (λ z=>nomatch z) λ c=>#[.bl b,H,I.tok c,rfl,q]
 .cases (show f=Value.ref D from a);show kia_one (jY g) I.kIn d e (λ z=>nomatch z) λ c=>#[.bl b,H,I.tok c,rfl,q]
 .cases (show f=Value.ref p from a);let#[_,A,r,o,k,l,n,m]:=(show ObjOk X.prog X.w H s.heap p (.tup (ds.map V.ref)) from I.hok p _ hp);let#[J,L,B,E]:=o
  cases l
  cases m;have j:=lV r;subst j;show kia_tup (jY g) I.kIn d k e (λ z=>nomatch z) λ c=>#[.bl b,H,I.tok c,rfl,q]
theorem bJ (K:W.Frag) (a:X.K=K):bM X (.builtin "isinstance") (cj K):=a▸n6
end
theorem jd {P:Program} {K:W.Frag} {base:Heap} {N:List Str} {a:Str} {f:Addr} {E:XK}:
  PassesOwn (model (gZ (iK P w) P w K mg base N a sc f cd A outer s₀ H₀ E).prog (gZ (iK P w) P w K mg base N a sc f cd A outer s₀ H₀ E).w) (gZ (iK P w) P w K mg base N a sc f cd A outer s₀ H₀ E).A (gZ (iK P w) P w K mg base N a sc f cd A outer s₀ H₀ E).env (gZ (iK P w) P w K mg base N a sc f cd A outer s₀ H₀ E).xe:=PassesOwn.leaving
end L2
end
section
namespace L2
open PySem PySem.Spec PyProof.Rows
variable {R:Value->Shared->Prop}
theorem jZ: ∀ {ys:List Str} {us:List Value},Vals (ys.map V.str) us->StrsAre us ys
 | [],_,r=>by cases r;show .nil
 | y::ys,_,r=>by
  cases r with
  | cons r rr=>
   let#[t,rfl]:=r;show .cons y t (jZ rr)
def vO:V->Option Int->Option Int->Hp->VK->Prop:=λ x lo hi H Q=> ∃s:Str,x= .str s/\s.length<=sizeLine/\Q (.str (Txt.slice s lo hi)) H
section
variable {X:Cx}
theorem ni:Ma X vO:=by
 intro a s p H x v r y lo m d Q I o b pl c h;let#[z,rfl,n,q]:=h;let#[t,rfl]:=o;have fin: ∀ (l u:Option (Int×Tok)),l.map (·.1)=lo->u.map (·.1)=m->s.heap.IsSlice d l u none->wpAny (model X.prog X.w) X.A (getItem (.str z t) (.ref d)) (EP X a p Q) X.xe s:=by
  intro l u e f g;refine wpAny_getItem_str_slice (l:=l) (u:=u) (st:=none) g rfl ?_;subst e f;show post_val_or_str #[Nat.le_trans (Txt.slice_le z _ _) n,λ t' k=>#[.str _,H,I.tok k,#[t',rfl],q]]
 refine#["str",_,F.slot_str_getitem.lookup,typeIs_str _ _ _,?_]
 cases pl with
 | none=>
  cases c with
  | none=>show fin none none rfl rfl b
  | int j u=>show fin none (some (j,u)) rfl rfl b
 | int i u=>
  cases c with
  | none=>show fin (some (i,u)) none rfl rfl b
  | int j u'=>show fin (some (i,u)) (some (j,u')) rfl rfl b
end
def Om (K:W.Frag) (a:Addr):It:=
 ⟨λ i H=> ∃xs x,SqL K H a xs/\xs[i]? =some x,
  λ i H v H'=> ∃p x,H p=none/\v= .ref p/\H'=upd H p (.tup [.int (i:Int),x])/\ ∀xs,SqL K H a xs->xs[i]? =some x,
  λ i H=> ∃xs,SqL K H a xs/\xs.length<=i⟩
structure EnSt (e it a:Addr) (i:Nat) (h:Heap):Prop where
 he: ∃old,IsEnum h e it (i:Int) old
 h1:h.IsListIter it a i
def Oo (K:W.Frag) (ta:TA):TI:=λ σ H R=>ta σ H λ vs H1=> ∃a xs,vs=[.ref a]/\SqL K H1 a xs/\R (Om K a) H1
section
variable {prog:Program} {w:World} {A:Around} {E:Value->Shared->Prop} {s:Shared} {it d:Addr} {i ep:Nat} {od:Obj} {es:Array DictEntry} {Q:Option Value->Shared->Prop}
theorem xR (f:s.heap.IsKeyIter it d i es.size ep) (g:s.heap.get? d=some od) (e:od.data= .dict es ep) (u:i<es.size)
  (r: ∀h',h'.IsKeyIter it d (i+1) es.size ep->Heap.SameBut it s.heap h'->Q (some es[i].key) { s with heap:=h' }):wpAny (model prog w) A (pyNext (.ref it)) Q E s:=by
 let#[o,j,t,h]:=id f;have T:=f.typeIs (s:=s);unfold pyNext;refine Qr (æ (wpAny_callSpecial?_slot (name:=Str.ofString "__next__") T Xv (å Xv T F.entry_dict_keyiterator_next ?_ (F.args_dict_keyiterator_next_1 _))));have p:Builtin.Dict_items.ownsTuple "dict_keyiterator"=false:=by decide
 have q: ¬ (Value.ref d==Value.none)=true:=Zq;have v: ¬ ((i:Int)<0):=()
 have k: ∀ {s':Shared} {l:Around} {m:Value->Shared->Prop} {R:String->Shared->Prop},s'.TypeIs (.ref it) "dict_keyiterator"->R "dict_keyiterator" s'->wpAny (model prog w) l (typeNameOfWhole (.ref it)) R m s':=λ a b=>wpAny_typeNameOfWhole_keyiter a b
 repeat (first
  | (refine k T ?_)
  | (refine wpAny_fieldsOf j h ?_)
  | (refine õ g e ?_)
  | (refine Ć g e ?_)
  | (refine Ww T ?_)
  | (refine Zi ?_)
  | (refine Qr ?_)
  | (simp only [p,Xj,Í])
  | (rw [if_neg q])
  | (rw [if_neg (by simp)]))
 rw [Yu,Array.getElem?_eq_getElem u];have c:(s.heap.update it (Obj.mapFields (·.setIfInBounds 1 (rawInt ((i:Int)+1))))).IsKeyIter it d (i+1) es.size ep:=#[_,Xf _ j (â (Wr h _)),(Obj.cls_mapFields ..).trans t,by rw [Wr h];simp [rawInt]];have n:=c.typeIs (s:={ s with heap:=s.heap.update it (Obj.mapFields (·.setIfInBounds 1 (rawInt ((i:Int)+1)))) });dsimp only;refine Qr (Qr (k T (Zi (Qr (Ww T ?_)))));change wpAny (model prog w) A.in1 (do setField (.ref it) 1 (rawInt ((i:Int)+1));_) _ _ s;refine Qr (Ý j h (by simp) (Qr (Yt (Qr (Ww n (Zi ?_))))));show Zi #[_,rfl,Zi (r _ c (Heap.SameBut.update ..))]
theorem Cd (v:A.handled=none) (e:s.heap.IsKeyIter it d i es.size ep) (f:s.heap.get? d=some od) (c:od.data= .dict es ep) (y:es.size<=i)
  (u: ∀h',Heap.ExtBut it s.heap h'->Q none { s with heap:=h' }):wpAny (model prog w) A (pyNext (.ref it)) Q E s:=by
 let#[o,h,B,g]:=id e;have T:=e.typeIs (s:=s);unfold pyNext;refine Qr (æ (wpAny_callSpecial?_slot (name:=Str.ofString "__next__") T Xv (å Xv T F.entry_dict_keyiterator_next ?_ (F.args_dict_keyiterator_next_1 _))));have r:Builtin.Dict_items.ownsTuple "dict_keyiterator"=false:=by decide
 have t: ¬ (Value.ref d==Value.none)=true:=Zq;have z: ¬ ((i:Int)<0):=()
 have j: ∀ {s':Shared} {k:Around} {l:Value->Shared->Prop} {R:String->Shared->Prop},s'.TypeIs (.ref it) "dict_keyiterator"->R "dict_keyiterator" s'->wpAny (model prog w) k (typeNameOfWhole (.ref it)) R l s':=λ a b=>wpAny_typeNameOfWhole_keyiter a b
 repeat (first
  | (refine j T ?_)
  | (refine wpAny_fieldsOf h g ?_)
  | (refine õ f c ?_)
  | (refine Ć f c ?_)
  | (refine Ww T ?_)
  | (refine Zi ?_)
  | (refine Qr ?_)
  | (simp only [r,Xj,Í])
  | (rw [if_neg t])
  | (rw [if_neg (by simp)]))
 rw [Yu,Array.getElem?_eq_none y];dsimp only;refine Qr (Qr (j T (Zi ?_)));change wpAny (model prog w) A.in1 (do setField (.ref it) 0 .none;_) _ _ s;refine Qr (Ý h g (by simp) (Qr ?_));have fin: ∀h' x,Heap.ExtBut it s.heap h'->(∃ob,h'.get? x=some ob/\ob.cls= .type "StopIteration")->wpAny (model prog w) A (do let b <- isInstance (.ref x) (.type "StopIteration");if b=true then pure none else throw (.ref x)) Q E { s with heap:=h' }:=λ h' x q ⟨ob,n,p⟩=>Qr (wpAny_isInstance (T:="StopIteration") (b:=true) ⟨ob,n,p⟩ isSubtype_stop (Zi (u h' q)))
 simp only [newExc,newTuple,raiseNew];repeat (first
  | show fin _ _ (((Heap.SameBut.update ..).extBut.push _).push _) #[_,Zw _ rfl,rfl]
  | (refine We ?_ (by size_fits))
  | (refine wpAny_handled ?_)
  | (refine Ĉ ?_)
  | (refine Zi ?_)
  | (rw [show A.in1.handled=none from v])
  | (refine Qr (m:=firstArgMember _ _) (wpAny_of_eq (a:=Value.none) (by first | rfl | (simp only [firstArgMember];rfl)) ?_))
  | (refine Qr ?_))
theorem pK (c:(d==sysModules)=false) (T:s.TypeIs (.ref d) "dict") (b:s.heap.get? d=some od) (a:od.data= .dict es ep)
  (e:R (.ref s.heap.objs.size) { s with heap:=s.heap.push { cls:= .type "dict_keyiterator",data:= .fields ([.ref d, .int 0 0, .int es.size 0, .int ep 0].toArray) } }):wpAny (model prog w) A (pyIter (.ref d)) R E s:=by
 refine wpAny_pyIter_slot T F.slot_dict_iter (å F.slot_dict_iter T F.entry_dict_iter ?_ (F.args_dict_iter_1 _));unfold Builtin.«dict.__iter__» Builtin.Dict.dictSlotNone Builtin.Dict.showsAll;have f: ¬ ((d==sysModules)=true):=by rw [c];show Zq
 refine Qr (Qr (wpAny_notOrdered_dict T ?_));change wpAny _ _ (pure (Value.ref d)) _ _ s;refine Zi ?_;change wpAny _ _ ((if (d==sysModules)=true then _ else _) >>= _) _ _ s;rw [if_neg f];refine Qr (Zi (Qr (õ b a (Qr (Ć b a ?_)))));show Qr (We (Zi #[_,rfl,"dict_keyiterator",_,#[_,Zw _ rfl,rfl],F.slot_dict_keyiterator_next.lookup,by simpa [rawInt] using e]))
end
theorem lW {d e:Type} {F:d->e->Prop}: ∀ {l₁:List d} {c:List e} (i:Nat),Paired F l₁ c->i<l₁.length-> ∃a b,l₁[i]? =some a/\c[i]? =some b/\F a b
 | _,_,_, .nil,h=>by simp at h
 | _,_,0, .cons r _,_=>#[_,_,rfl,rfl,r]
 | _,_,i+1, .cons _ t,h=>by
  let#[a,b,f,g,j]:=lW i t (by simpa using h);show#[a,b,by simpa using f,by simpa using g,j]
def Oq (od:Obj) (a:Addr):It:=
 ⟨λ i H=> ∃kvs,H a=some (.frz od (.dT kvs))/\i<kvs.length,
  λ i H v H'=>H'=H/\ ∀kvs,H a=some (.frz od (.dT kvs))-> ∃k x b,kvs[i]? =some (k,x)/\v= .ref b/\H b=some (.tup (k.map kV)),
  λ i H=> ∃kvs,H a=some (.frz od (.dT kvs))/\kvs.length<=i⟩
def Ot (tl:TE):TI:=λ σ H R=>tl σ H λ x H1=> ∃a kvs,x= .ref a/\H1 a=some (.dT kvs)/\ ∀od,R (Oq od a) (upd H1 a (.frz od (.dT kvs)))
theorem je: ∀ {vs:List Value} {ns:List Str},StrsAre vs ns->Vals (ns.map V.str) vs
 | _,_, .nil=> .nil
 | _,_, .cons n t h=> .cons #[t,rfl] (je h)
def FJ (K:W.Frag):List V->Hp->VK->Prop:=λ xs H Q=> ∃ (a:Addr) (ns:List Str),xs=[.ref a]/\SqL K H a (ns.map V.str)/\ns.length<64/\ ∀r (ns':List Str),ns'.Perm ns->sortedS ns'=true->H r=none->Q (.ref r) (upd H r (.lst (ns'.map V.str)))
theorem rA {X:Cx}:bM X (.builtin "sorted") (FJ X.K):=by
 intro j s C H xs us Q I A h;let#[a,ns,rfl,y,g,q]:=h;let#[u,rfl,z]:=A.one
 cases (show u=Value.ref a from z);let#[c,r,x,B]:=I.list y;have n:=jZ r;have p:=r.length;rw [Qb] at p;refine sorted_strs (vs:=c) x.isList n () λ f d k i v=> ?_
 let#[e,m]:=sortedAll_at s.heap c f;have t:H (s.heap.objs.size+1)=none:=I.hok.fresh (ó _);refine#[.ref _,_,I.laid (t':=s.toks) (a:=s.heap.objs.size+1) (o:= .lst (d.map V.str)) (λ b o l=>sortedAll_old l) (ó _) (show ObjOk X.prog X.w _ _ _ (.lst _) from #[?_,f.toList,e,je k,?_]),rfl,q _ d i v t]
 .rw [Qb,i.length_eq];show Xu (Ü g (by decide))
 .rw [m]
end L2
end
section
namespace Sx
open PySem PyProof.Rows
variable {Q:Option Nat->SortSt->Prop}
structure Wk (B:Keyed->Keyed->Bool):Prop where
 rf: ∀p,B p p=false
 tr: ∀ {p q r},B q p=false->B r q=false->B r p=false
 an: ∀ {p q},B p q=true->B q p=false
def gt (xs:Array Keyed) (i:Nat):Keyed:=xs[i]?.getD (.none, .none)
def Up (B:Keyed->Keyed->Bool) (xs:Array Keyed) (k:Nat):Prop:= ∀i j,i<=j->j<k->B (gt xs j) (gt xs i)=false
def Dn (B:Keyed->Keyed->Bool) (xs:Array Keyed) (k:Nat):Prop:= ∀i j,i<=j->j<k->B (gt xs i) (gt xs j)=false
def Eb (B:Keyed->Keyed->Bool) (xs:Array Keyed) (l k:Nat):Prop:= ∀i j,l<=i->i<k->l<=j->j<k->B (gt xs i) (gt xs j)=false
structure Bs (kd:SortKind) (a0:Array Keyed) (st:SortSt):Prop where
 pm:(arrOf st).Perm a0
 kn:kindOf st=kd
 fl:failedOf st=none
 pe:pendingOf st= ([].toArray)
section
variable {kd:SortKind} {a0 xs:Array Keyed} {st:SortSt} {B:Keyed->Keyed->Bool} {k l m:Nat}
theorem Bs.sz (b:Bs kd a0 st):(arrOf st).size=a0.size:=b.pm.size_eq
theorem Bs.put (b:Bs kd a0 st) (a:xs.Perm (arrOf st)):Bs kd a0 (setArr st xs):=#[a.trans b.pm,b.kn,b.fl,b.pe]
theorem xT {a d:Nat} (c:a<xs.size) (b:d<=a):gt (bubble xs a d) k=if k=a-d then gt xs a else if a-d<k/\k<=a then gt xs (k-1) else gt xs k:=by
 unfold gt;rw [getElem?_bubble c d b k];split
 .rfl
 .split<;>rfl
theorem gb (a:m<=xs.size):gt (mirror xs l m ((m-l) / 2)) k=if l<=k/\k<m then gt xs (l+m-1-k) else gt xs k:=by
 unfold gt;rw [getElem?_mirror_all a k];split<;>rfl
theorem Up.one (o:Wk B):Up B xs 1:=λ i j a b=>by
 have:i=j:=()
 rw [this];show o.rf _
theorem Up.next (o:Wk B) (u:Up B xs k) (f:1<=k) (e:B (gt xs k) (gt xs (k-1))=false):Up B xs (k+1):=λ i j a d=>by
 by_cases c:j<k
 .exact u i j a c
 .obtain rfl:j=k:=()
  by_cases b:i=j
  .rw [b];show o.rf _
  .exact o.tr (u i (j-1) () ()) e
theorem Dn.next (o:Wk B) (u:Dn B xs k) (f:1<=k) (e:B (gt xs (k-1)) (gt xs k)=false):Dn B xs (k+1):=λ i j a d=>by
 by_cases c:j<k
 .exact u i j a c
 .obtain rfl:j=k:=()
  by_cases b:i=j
  .rw [b];show o.rf _
  .exact o.tr e (u i (j-1) () ())
theorem Eb.one (o:Wk B):Eb B xs (k-1) k:=λ i j a b c d=>by
 have:i=j:=()
 rw [this];show o.rf _
theorem Eb.next (o:Wk B) (u:Eb B xs l k) (m:l<k) (e:B (gt xs k) (gt xs (k-1))=false) (f:B (gt xs (k-1)) (gt xs k)=false):Eb B xs l (k+1):=λ i j b g c h=>by
 by_cases d:i<k
 .by_cases a:j<k
  .exact u i j b d c a
  .obtain rfl:j=k:=()
   show o.tr f (u i (j-1) b d () ())
 .obtain rfl:i=k:=()
  by_cases a:j<i
  .exact o.tr (u (i-1) j () () c a) e
  .obtain rfl:j=i:=()
   show o.rf _
theorem Dn.mir (u:Dn B xs m) (q:Eb B xs l m) (b:m<=xs.size):Dn B (mirror xs l m ((m-l) / 2)) m:=λ i j d e=>by
 rw [gb b,gb b];by_cases a:l<=i/\i<m
 .rw [if_pos a,if_pos ()];show q _ _ () () () ()
 .rw [if_neg a];by_cases c:l<=j/\j<m
  .rw [if_pos c];show u _ _ () ()
  .rw [if_neg c];show u i j d e
theorem Dn.up (u:Dn B xs m) (a:m<=xs.size):Up B (mirror xs 0 m ((m-0) / 2)) m:=λ i j b c=>by
 rw [gb a,gb a,if_pos (),if_pos ()];show u _ _ () ()
end
def Ce (M:Model) (A:Around) (E:Value->Shared->Prop) (s:Shared) (kd:SortKind) (a0:Array Keyed) (B:Keyed->Keyed->Bool):Prop:=
 ∀ (st:SortSt) (i j:Nat) (Q:Option Bool->SortSt->Prop),Bs kd a0 st->i≠j->i<a0.size->j<a0.size->Q (some (B (gt (arrOf st) i) (gt (arrOf st) j))) st->wpS M A E s (ltAt' i j) Q st
section
variable {prog:Program} {w:World} {A:Around} {E:Value->Shared->Prop} {s:Shared} {kd:SortKind} {a0:Array Keyed} {B:Keyed->Keyed->Bool} {st:SortSt} {n k:Nat}
theorem ut (o:Wk B) (i:Ce (model prog w) A E s kd a0 B) {Q:AscSt->SortSt->Prop} (p:n<=a0.size) (l:1<=k) (a:k<=n) (b:Bs kd a0 st) (u:Up B (arrOf st) k)
  (h: ∀m,k<=m->m<=n->Up B (arrOf st) m->(m=n\/B (gt (arrOf st) m) (gt (arrOf st) (m-1))=true)->Q (none,m) st):wpS (model prog w) A E s (ascLoop k n) Q st:=by
 unfold ascLoop;refine Þ (I:=λ m c t=>c=(none,m)/\t=st/\Up B (arrOf st) m) (λ m c t g j f=> ?_) (λ c t f=> ?_) #[rfl,rfl,u]
 .obtain ⟨rfl,rfl,d⟩:=f;refine Yq (i _ _ _ _ b (show m≠m-1 by rfl') (show m<_ by rfl') (show m-1<_ by rfl') ?_);dsimp only
  cases e:B (gt (arrOf t) m) (gt (arrOf t) (m-1)) with
  | true=>rw [if_pos rfl];show Xg (h m g () d (.inr e))
  | false=>rw [if_neg Zq];show Xg #[rfl,rfl,d.next o () e]
 .obtain ⟨rfl,rfl,d⟩:=f;rw [show max k n=n from Nat.max_eq_right a] at d ⊢;show h n a (Zo _) d (.inl rfl)
theorem pL (o:Wk B) (e:Ce (model prog w) A E s kd a0 B) (g:n<=a0.size) (f:1<=k) (a:k<=n) (b:Bs kd a0 st) (u:Dn B (arrOf st) k)
  (h: ∀m t,Bs kd a0 t->1<=m->m<=n->Up B (arrOf t) m->Q (some m) t):wpS (model prog w) A E s (tail3 k n) Q st:=by
 unfold tail3;refine Yq (ĉ ?_);have c:=b.put (Ċ (arrOf st) 0 k ((k-0) / 2));show Yq (ut o e g f a c (u.up (by rw [b.sz];rfl')) λ m j d i _=>Xg (h m _ c () d i))
theorem xU (o:Wk B) (x:Ce (model prog w) A E s kd a0 B) {Q:DescSt->SortSt->Prop} (G:n<=a0.size) (D:1<=k) (f:k<=n) (b:Bs kd a0 st) (u:Dn B (arrOf st) k)
  (h: ∀m e t,Bs kd a0 t->k<=m->m<=n->Dn B (arrOf t) m->e+1<=m->Eb B (arrOf t) (m-(e+1)) m->Q (none,m,e) t):wpS (model prog w) A E s (descLoop k n) Q st:=by
 unfold descLoop;refine Þ (I:=λ m c t=> ∃e,c=(none,m,e)/\Bs kd a0 t/\Dn B (arrOf t) m/\e+1<=m/\Eb B (arrOf t) (m-(e+1)) m) (λ m c t z F p=> ?_) (λ c t p=> ?_) #[0,rfl,b,u,D,Eb.one o]
 .obtain ⟨e,rfl,a,d,g,q⟩:=p;have hsz:m<=(arrOf t).size:=by rw [a.sz];rfl'
  refine Yq (x _ _ _ _ a (show m≠m-1 by rfl') (show m<_ by rfl') (show m-1<_ by rfl') ?_);dsimp only
  cases e1:B (gt (arrOf t) m) (gt (arrOf t) (m-1)) with
  | true=>
   rw [if_pos rfl];have l:Dn B (arrOf t) (m+1):=d.next o () (o.an e1);by_cases v:e>0
   .rw [if_pos v];refine Yq (ĉ (Xg #[0,rfl,a.put (Ċ _ _ _ _),λ i j r y=> ?_,(),Eb.one o]));by_cases C:j<m
    .exact (d.mir q hsz) i j r C
    .obtain rfl:j=m:=()
     change B (gt (mirror (arrOf t) _ _ _) i) (gt (mirror (arrOf t) _ _ _) j)=false;rw [gb hsz,gb hsz,if_neg (show ¬ (_/\j<j) by rfl')];split
     .exact l _ _ () ()
     .exact l _ _ r y
   .rw [if_neg v];show Xg #[0,rfl,a,l,(),Eb.one o]
  | false=>
   rw [if_neg Zq];refine Yq (x _ _ _ _ a (show m-1≠m by rfl') (show m-1<_ by rfl') (show m<_ by rfl') ?_);dsimp only
   cases e2:B (gt (arrOf t) (m-1)) (gt (arrOf t) m) with
   | true=>rw [if_pos rfl];show Xg (h m e t a z () d g q)
   | false=>
    rw [if_neg Zq];refine Xg #[e+1,rfl,a,d.next o () e2,(),?_];rw [show m+1-(e+1+1)=m-(e+1) by rfl'];show q.next o () e1 e2
 .obtain ⟨e,rfl,a,d,g,q⟩:=p;rw [show max k n=n from Nat.max_eq_right f] at d g q ⊢;show h n e t a f (Zo _) d g q
theorem lX (o:Wk B) (c:Ce (model prog w) A E s kd a0 B) (f:n<=a0.size) (d:k+1<=n) (b:Bs kd a0 st) (u:Dn B (arrOf st) (k+1))
  (h: ∀m t,Bs kd a0 t->1<=m->m<=n->Up B (arrOf t) m->Q (some m) t):wpS (model prog w) A E s (descPart k n) Q st:=by
 unfold descPart;refine Yq (wpS_lift (wpAny_rule #[rfl,Yq (xU o c f () d b u λ m e t a l i j p q=> ?_)]));dsimp only;have hsz:m<=(arrOf t).size:=by rw [a.sz];rfl'
 by_cases g:e>0
 .rw [if_pos g];show Yq (ĉ (pL o c f () i (a.put (Ċ _ _ _ _)) (j.mir q hsz) h))
 .rw [if_neg g];show pL o c f () i a j h
theorem vP (o:Wk B) (c:Ce (model prog w) A E s kd a0 B) (u:n<=a0.size) (l:1<=n) (b:Bs kd a0 st)
  (h: ∀m t,Bs kd a0 t->1<=m->m<=n->Up B (arrOf t) m->Q (some m) t):wpS (model prog w) A E s (countRun' 0 n) Q st:=by
 rw [countRun0_eq];refine Yq (ut o c u (Zo 1) l b (Up.one o) λ m k z d v=> ?_);dsimp only;by_cases r:m=n
 .rw [if_pos (by simpa using r)];show Xg (h m st b k z d)
 .rw [if_neg (by simpa using r)];have a:=v.resolve_left r;have hsz:m<=(arrOf st).size:=by rw [b.sz];rfl'
  by_cases g:m>1
  .rw [if_pos g];refine Yq (c _ _ _ _ b () (show 0<_ by rfl') (show m-1<_ by rfl') ?_);dsimp only
   cases e:B (gt (arrOf st) 0) (gt (arrOf st) (m-1)) with
   | true=>rw [if_pos rfl];show Xg (h m st b k z d)
   | false=>
    rw [if_neg Zq];have q:Eb B (arrOf st) 0 m:=λ i j _ C _ p=>o.tr (d j (m-1) () ()) (o.tr e (d 0 i () C))
    have x:Dn B (arrOf st) (m+1):=Dn.next o (λ i j _ p=>q i j () () () p) k (o.an a);refine Yq (ĉ (lX o c u () (b.put (Ċ _ _ _ _)) (λ i j y f=> ?_) h));change B (gt (mirror (arrOf st) _ _ _) i) (gt (mirror (arrOf st) _ _ _) j)=false;rw [gb hsz,gb hsz];by_cases p:j<m
    .rw [if_pos (),if_pos ()];show q _ _ () () () ()
    .rw [if_neg (show ¬ (0<=j/\j<m) by rfl')];split
     .exact x _ _ () f
     .exact x _ _ y f
  .rw [if_neg g];obtain rfl:m=1:=()
   show lX o c u () b (Dn.next o (λ i j y f=>by rw [show i=j by rfl'];show o.rf _) (Zo 1) (o.an a)) h
theorem Cg (o:Wk B) (W:Ce (model prog w) A E s kd a0 B) {Q:Bool->SortSt->Prop} (O:n<=a0.size) (G:k<=n) (b:Bs kd a0 st) (u:Up B (arrOf st) k)
  (h: ∀t,Bs kd a0 t->Up B (arrOf t) n->Q true t):wpS (model prog w) A E s (binarySort' 0 n k) Q st:=by
 rw [binarySort'_eq];simp only [Nat.zero_add];refine Yq (wpS_mono (Þ (I:=λ m c t=>c=(none,Unit.unit)/\Bs kd a0 t/\Up B (arrOf t) (min m n)) (Q:=λ c t=>c=(none,Unit.unit)/\Bs kd a0 t/\Up B (arrOf t) n) (λ m c t D q v=> ?_) (λ c t v=> ?_) #[rfl,b,λ i j C J=> ?_]) λ c t F=> ?_)
 .obtain ⟨rfl,p,f⟩:=v;rw [ć (Xu q)] at f;have y:m<a0.size:=()
  refine Yq (wpS_mono (Þ (I:=λ x c t'=>t'=t/\ ∃l r,c=(none,l,r)/\l<=r/\r<=m/\r+x<=m+l/\(∀i,i<l->B (gt (arrOf t) m) (gt (arrOf t) i)=false)/\ ∀i,r<=i->i<m->B (gt (arrOf t) i) (gt (arrOf t) m)=false)
   (Q:=λ c t'=>t'=t/\ ∃l r,c=(none,l,r)/\l<=m/\(∀i,i<l->B (gt (arrOf t) m) (gt (arrOf t) i)=false)/\ ∀i,l<=i->i<m->B (gt (arrOf t) i) (gt (arrOf t) m)=false)
   (λ x c t' C J v=> ?_) (λ c t' v=> ?_) #[rfl,0,m,rfl,(),(),(),λ i z=>(),λ i T U=>()]) λ c t' F=> ?_)
  .obtain ⟨rfl,l,r,rfl,L,d,M,lo,a⟩:=v;dsimp only;by_cases N:l>=r
   .rw [if_pos N];obtain rfl:l=r:=()
    show Xg #[rfl,l,l,rfl,d,lo,a]
   .rw [if_neg N];have D:l<=(l+r) / 2:=by clear M lo a f d D q C J y O G;rfl'
    have q:(l+r) / 2<r:=by clear M lo a f d D q C J y O G;rfl'
    generalize (l+r) / 2=c at D q ⊢;have g:=Zt q d;refine Yq (W _ _ _ _ p () y (show c<_ from Ü g y) ?_);dsimp only
    cases e:B (gt (arrOf t') m) (gt (arrOf t') c) with
    | true=>
     simp only [ð];show Xg #[rfl,l,c,rfl,D,Xu g,by clear D g y;rfl',lo,λ i T U=>o.tr (o.an e) (f _ _ T U)]
    | false=>
     simp only [Xj,Í];show Xg #[rfl,c+1,r,rfl,q,d,by clear g y;rfl',λ i z=>o.tr (f i c (Nat.le_of_lt_succ z) g) e,a]
  .obtain ⟨rfl,l,r,rfl,L,d,M,lo,a⟩:=v;obtain rfl:l=r:=()
   show#[rfl,l,l,rfl,d,lo,a]
  .obtain ⟨rfl,l,r,rfl,K,lo,a⟩:=F;change wpS _ _ _ _ (do moveDown' m l;pure (ForInStep.yield (none,Unit.unit))) _ _;rw [moveDown'_eq];refine Yq (wpS_modify (Xg #[rfl,p.put (bubble_perm _ _ _),?_]));rw [show min (m+1) n=m+1 by rfl'];have hsz:m<(arrOf t').size:=by rw [p.sz];show y
   intro i j C J;change B (gt (bubble (arrOf t') m (m-l)) j) (gt (bubble (arrOf t') m (m-l)) i)=false;rw [xT hsz (),xT hsz (),Nat.sub_sub_self K];by_cases P:i=l
   .rw [if_pos P];by_cases H:j=l
    .rw [if_pos H];show o.rf _
    .rw [if_neg H,if_pos ()];show a (j-1) () ()
   .rw [if_neg P];by_cases R:l<i/\i<=m
    .rw [if_pos R,if_neg (),if_pos ()];show f _ _ () ()
    .rw [if_neg R];by_cases H:j=l
     .rw [if_pos H];show lo i ()
     .rw [if_neg H];by_cases S:l<j/\j<=m
      .rw [if_pos S];show f _ _ () ()
      .rw [if_neg S];show f _ _ C ()
 .obtain ⟨F,p,f⟩:=v;refine#[F,p,?_];rwa [show min (max (max k 1) n) n=n by rfl'] at f
 .by_cases X:k=0
  .rw [show i=j by rfl'];show o.rf _
  .exact u i j C ()
 .obtain ⟨rfl,p,f⟩:=F;show Xg (h t p f)
def Dd (B:Keyed->Keyed->Bool) (a0:Array Keyed) (st:SortSt):Prop:=(arrOf st).Perm a0/\failedOf st=none/\pendingOf st= ([(0,a0.size,0)].toArray)/\Up B (arrOf st) a0.size
theorem Bs.dd (b:Bs kd a0 st) (u:Up B (arrOf st) a0.size):Dd B a0 (setPending st ((pendingOf st).push (0,a0.size,0))):=#[b.pm,b.fl,by change(pendingOf st).push (0,a0.size,0)=_;rw [b.pe];rfl,u]
theorem Ci (o:Wk B) (p:Ce (model prog w) A E s kd a0 B) {Q:Unit->SortSt->Prop} (b:Bs kd a0 st) (C:2<=a0.size) (k:a0.size<64)
  (h: ∀t,(arrOf t).Perm a0->failedOf t=none->Up B (arrOf t) a0.size->Q Unit.unit t):wpS (model prog w) A E s sortRuns' Q st:=by
 rw [sortRuns'_eq];refine Yq (Č ?_);have l: ∀f,minRun' (f+1) a0.size 0=a0.size:=λ f=>by rw [minRun'_succ,if_pos k];rfl
 have i:minRun' a0.size a0.size 0=a0.size:=by
  have:=l (a0.size-1);rwa [show a0.size-1+1=a0.size by rfl'] at this
 dsimp only;simp only [b.sz,i];refine Yq (wpS_mono (Þ (I:=λ x c t=>(x=0/\c=(none,0)/\Bs kd a0 t)\/(1<=x/\c=(none,a0.size)/\Dd B a0 t)) (Q:=λ c t=>c=(none,a0.size)/\Dd B a0 t) (λ x c t _ _ e=> ?_) (λ c t e=> ?_) (.inl #[rfl,rfl,b])) λ c t d=> ?_)
 .rcases e with ⟨rfl,rfl,bt⟩ | ⟨hx,rfl,a⟩
  .dsimp only;rw [if_neg ()];simp only [Nat.sub_zero,Nat.min_self,Nat.zero_add];refine Yq (vP o p (Zo _) () bt λ m u j D r q=> ?_);dsimp only;by_cases g:m<a0.size
   .rw [if_pos g];refine Yq (wpS_lift (wpAny_rule #[rfl,Yq (Cg o p (Zo _) r j q λ v n y=> ?_)]));simp only [Bool.not_true,Xj,Í];refine Yq (Č ?_);rw [show(pendingOf v).back?=none by rw [n.pe];rfl];show Yq (wpS_modify (Xg (.inr #[(),rfl,n.dd y])))
   .rw [if_neg g];obtain rfl:m=a0.size:=()
    refine Yq (Č ?_);rw [show(pendingOf u).back?=none by rw [j.pe];rfl];show Yq (wpS_modify (Xg (.inr #[(),rfl,j.dd q])))
  .dsimp only;rw [if_pos (Zo _)];show Xg #[rfl,a]
 .rcases e with ⟨hx,_⟩ | ⟨_,d,a⟩
  .rfl'
  .exact #[d,a]
 .obtain ⟨rfl,a⟩:=d;dsimp only;refine Yq (wpS_mono (Þ (I:=λ _ c t'=>t'=t/\c=(none,Unit.unit)) (Q:=λ c t'=>t'=t/\c=(none,Unit.unit)) (λ x c t' _ _ e=> ?_) (λ _ _ z=>z) #[rfl,rfl]) λ c t' d=> ?_)
  .obtain ⟨rfl,rfl⟩:=e;refine Yq (Č ?_);rw [if_pos (by rw [a.2.2.1];show Zo 1)];show Xg #[rfl,rfl]
  .obtain ⟨rfl,rfl⟩:=d;show Xg (h _ a.1 a.2.1 a.2.2.2)
def Kp (s s':Shared):Prop:=(∀b o,s.heap.get? b=some o->s'.heap.get? b=some o)/\s'={ s with heap:=s'.heap }
def mid (h:Heap) (a:Addr) (vs:List Value):Heap:=((h.update a (Obj.mapSeq λ _=> ([].toArray))).push (seqObj "tuple" vs.toArray 0)).push (seqObj "list" ([].toArray) 0)
theorem xV (o:Wk B) {a:Addr} {vs:List Value} {n:Nat} {P:Fin->Shared->Prop} (f:s.heap.get? a=some (seqObj "list" vs.toArray n)) (r:vs.length<64)
  (v:2<=vs.length->wpAny (model prog w) A (keyKind' vs.toArray) (λ k s'=>s'={ s with heap:=mid s.heap a vs }/\k=kd) E { s with heap:=mid s.heap a vs })
  (u:Ce (model prog w) A E { s with heap:=mid s.heap a vs } kd (pairsOf vs) B)
  (h: ∀c:Array Keyed,c.Perm (pairsOf vs)->Up B c vs.length->P (.done (.ret .none)) { s with heap:=sortedHeap s.heap a vs (c.map (·.2)) }):
  wpAny (model prog w) A (Builtin.«list.sort» #[[.ref a],[]]) P E s:=by
 rw [list_sort_plain];have D:a<s.heap.objs.size:=Zl f;let#[m,q]: ∃m,(s.heap.update a (Obj.mapSeq λ _=> ([].toArray))).get? a=some (seqObj "list" ([].toArray) m):=#[_,get?_update_seq f (λ _=> ([].toArray))];have e:(mid s.heap a vs).get? a=some (seqObj "list" ([].toArray) m):=by
  unfold mid;show Zd _ (Zd _ q)
 have b:(pairsOf vs).size=vs.length:=pairsOf_size vs;refine Qr (Ă f rfl (Qr (listUpdate_at f rfl (Qr (seqEpoch_at q rfl (Qr (wpAny_newTuple (Qr (wpAny_newList (Yt ?_))))))))));change wpAny (model prog w) A _ P E { s with heap:=mid s.heap a vs };dsimp only;have x:vs.toArray.size=vs.length:=by simp
 rw [x];by_cases d:vs.length<2
 .rw [if_pos d,if_pos d];refine Qr (Zi ?_);rw [StateT.run_pure];refine Qr (Zi (Qr (seqEpoch_at e rfl (Qr (listUpdate_at e rfl ?_ (hsz2:= ?_))))))
  .simp only [bne_self_eq_false,Xj,Í];show Zi (h (pairsOf vs) (Array.Perm.refl _) λ i j y C=>by rw [show i=j by rfl'];show o.rf _)
  .rw [Array.size_map];change(pairsOf vs).size<=_;rw [b,Xc];rfl'
 .rw [if_neg d,if_neg d];refine Qr (Yd (v ()) ?_ λ _ _ z=>z);rintro k s' ⟨rfl,rfl⟩;refine Qr (Yd (Ci o u (st:=SortSt.mk' k (vs.toArray.zip vs.toArray) ([].toArray) 7 none) (Q:=λ _ t=>(arrOf t).Perm (pairsOf vs)/\failedOf t=none/\Up B (arrOf t) (pairsOf vs).size)
   #[Array.Perm.refl _,rfl,rfl,rfl] () () λ t g p l=>#[g,p,l]) ?_ λ _ _ z=>z)
  rintro ⟨⟨⟩,t⟩ s' ⟨rfl,g,p,l⟩;refine Qr (seqEpoch_at e rfl (Qr (listUpdate_at e rfl ?_ (hsz2:= ?_))))
  .dsimp only;rw [p];simp only [bne_self_eq_false,Xj,Í];rw [b] at l;show Zi (h _ g l)
  .rw [Array.size_map];change(arrOf t).size<=_;rw [g.size_eq,b,Xc];rfl'
end
theorem nj (b:Bool) (x y:Value):keyLt' (tuples' b) x y=(do
  let xs <- Builtin.List.listItems x;let ys <- Builtin.List.listItems y
  for ((p,q),i) in (xs.toList.zip ys.toList).zipIdx do
   if !(<- eqBool p q) then return <- oneLt' (b&&i==0) p q
  return xs.size<ys.size):=rfl
theorem xW (v:Value):firstOfTuple' v=(do
  if (<- typeOf v)!= .type "tuple" then return none
  return (<- Builtin.List.listItems v)[0]?):=rfl
def Fs (h:Heap) (f:Value->Str) (v:Value):Prop:= ∃b ob its tk n rest,v= .ref b/\h.get? b=some ob/\ob.cls= .type "tuple"/\ob.data= .seq its n/\its.toList= .str (f v) tk::rest
section
variable {prog:Program} {w:World} {A:Around} {E:Value->Shared->Prop} {s:Shared} {f:Value->Str}
theorem pM {b a:Type} {g:b->Sem a} {r:b->a}: ∀ {vs:List b} {Q:List a->Shared->Prop},(∀v∈vs,∀R:a->Shared->Prop,R (r v) s->wpAny (model prog w) A (g v) R E s)->Q (vs.map r) s->wpAny (model prog w) A (vs.mapM g) Q E s
 | [],Q,_,q=>by rw [List.mapM_nil];show Zi q
 | v::vs,Q,h,q=>by
  rw [List.mapM_cons];show Qr (h v Zp _ (Qr (pM (λ u c=>h u (Zu _ c)) (Zi q))))
theorem pN {vs:List Value} (y:vs≠[]) (z: ∀v∈vs,Fs s.heap f v):wpAny (model prog w) A (keyKind' vs.toArray) (λ k s'=>s'=s/\k=tuples' true) E s:=by
 rw [keyKind'_eq,List.mapM_toArray];have e: ∀v∈vs,∃a,∀R:Option Value->Shared->Prop,R (some (.str (f v) a)) s->wpAny (model prog w) A (firstOfTuple' v) R E s:=by
  intro v c;let#[b,ob,h,a,n,rest,rfl,i,p,q,t]:=z v c;refine#[a,λ R r=> ?_];rw [xW];refine Qr (wpAny_typeOf_ref i ?_);rw [p];refine Qr (Ă i q (Zi ?_));have:h[0]? =some (.str (f (.ref b)) a):=by rw [<- Wx,t];rfl
  rw [this];show r
 let a:Value->Tok:=λ v=>if c:v∈vs then (e v c).choose else 0
 have g: ∀v∈vs,∀R:Option Value->Shared->Prop,R (some (.str (f v) (a v))) s->wpAny (model prog w) A (firstOfTuple' v) R E s:=by
  intro v c R r;refine(e v c).choose_spec R ?_;have:a v=(e v c).choose:=dif_pos c;rwa [<- this]
 have B: ∀us:List Value,StrsAre (us.map λ v=> .str (f v) (a v)) (us.map f):=by
  intro us;induction us with
  | nil=>show .nil
  | cons u us ih=>show .cons _ _ ih
 rw [map_eq_pure_bind,bind_assoc];refine Qr (pM (r:=λ v=>some (.str (f v) (a v))) g ?_);rw [pure_bind];have j:((vs.map λ v=>some (Value.str (f v) (a v))).toArray.all (·.isSome))=true:=by
  rw [List.all_toArray,List.all_map,û];intro _ _;rfl
 have l:(vs.map λ v=>some (Value.str (f v) (a v))).toArray.filterMap id=(vs.map λ v=>Value.str (f v) (a v)).toArray:=by
  rw [List.filterMap_toArray,List.filterMap_map];congr 1;change vs.filterMap (λ v=>some (Value.str (f v) (a v)))=_;rw [List.filterMap_eq_map']
 rw [if_pos j,l,oneTypeOnly'_eq,List.mapM_toArray,mapM_typeOf_strs (B vs)];simp only [map_pure,pure_bind];refine Qr (wpAny_rule ?_);let#[v,d,rfl]:=List.exists_cons_of_ne_nil y;have m:((List.map (λ _=>Value.type "str") ((v::d).map λ v=>Value.str (f v) (a v))).toArray.all λ x=>x==Value.type "str")=true:=by
  rw [List.all_toArray,List.all_map,û];intro _ _;rfl
 have o:(List.map (λ _=>Value.type "str") ((v::d).map λ v=>Value.str (f v) (a v))).toArray[0]? =some (Value.type "str"):=by simp
 rw [o];simp only [m,ð,pure_bind];show Zi #[rfl,rfl]
def Bf (f:Value->Str) (p q:Keyed):Bool:=strKind.blt (f p.1).cps.toList (f q.1).cps.toList
theorem MJ:Wk (Bf f):=#[λ p=>strKind.irrefl _,λ {p q r} a b=>KeyOrd.kle_trans (O:=strKind.toKeyOrd) a b,λ {p q} h=>KeyOrd.klt_asymm (O:=strKind.toKeyOrd) h]
theorem rB {vs:List Value} (h: ∀v∈vs,Fs s.heap f v) (r:(vs.map f).Nodup):Ce (model prog w) A E s (tuples' true) (pairsOf vs) (Bf f):=by
 intro st i j Q b g t u q;have a:i<(arrOf st).size:=by rw [b.sz];show t
 have c:j<(arrOf st).size:=by rw [b.sz];show u
 have d: ∀k (z:k<(arrOf st).size),((arrOf st)[k]).1∈vs:=by
  intro k z;have l:(arrOf st)[k]∈(pairsOf vs).toList:=(Æ.mp b.pm).mem_iff.mp (by simp);rw [pairsOf_toList] at l;show(mem_zip_self l).2
 have F:f ((arrOf st)[i]).1≠f ((arrOf st)[j]).1:=by
  have m:((arrOf st).toList.map λ p=>f p.1).Perm (vs.map f):=by
   have:=(Æ.mp b.pm).map (λ p:Keyed=>f p.1);rw [pairsOf_toList] at this;have e:(vs.zip vs).map (λ p:Keyed=>f p.1)=vs.map f:=by
    rw [show(λ p:Keyed=>f p.1)=f∘Prod.fst from rfl,<- Zj,ü (Zo _)]
   rwa [e] at this
  have D:=(m.nodup_iff).mpr r;intro e;show g ((È (h₀:=by simpa using a) (h₁:=by simpa using c) D).mp (by simpa using e))
 have n:gt (arrOf st) i=(arrOf st)[i]:=by unfold gt;rw [getElem?_pos _ i a];rfl
 have o:gt (arrOf st) j=(arrOf st)[j]:=by unfold gt;rw [getElem?_pos _ j c];rfl
 rw [n,o] at q;rw [ltAt'_eq];refine Yq (Č ?_);change wpS _ _ _ _ (do let x <- elem' (arrOf st) i;let y <- elem' (arrOf st) j;lt' x y) Q st;rw [elem'_eq,elem'_eq,getElem?_pos _ i a,getElem?_pos _ j c];refine Yq (Xg (Yq (Xg ?_)));rw [lt'_eq];refine Yq (Č ?_);rw [b.kn];obtain ⟨M,R,B,W,O,T,v1,I,Y,K,G⟩:=h _ (d i a);obtain ⟨N,S,C,X,P,U,v2,J,Z,L,H⟩:=h _ (d j c);refine Yq (wpS_lift (æ ?_));rw [nj];generalize m:(arrOf st)[i]=p at*;generalize hq:(arrOf st)[j]=p' at*;rw [v1,v2];refine Qr (Ă I K (Qr (Ă J L ?_)));rw [G,H,List.zip_cons_cons,List.zipIdx_cons,ą];refine Qr (Qr (Qr (eqBool_str ?_)));rw [if_pos (by rw [Ë.mpr F];rfl)];refine Qr (strKind_oneLt prog w A _ s _ _ (f p.1).cps.toList (f p'.1).cps.toList rfl rfl (Zi (Zi (Zi #[rfl,Xg ?_]))));show q
end
end Sx
namespace L2
open PySem PySem.Spec PyProof.Rows
variable {v:Value} {w:World} {A:Around} {prog:Program} {kvs:List (Str×V)} {us:List (Key×Value)} {E Q:Value->Shared->Prop} {C R:List Value->Shared->Prop} {Z:List Value->Shared->Array Value->Prop}
theorem Cj {c d:Type} {g:c->d} {l a:List d} (h:l.Perm a): ∀ {zs:List c},l=zs.map g-> ∃b:List c,b.Perm zs/\a=b.map g:=by
 induction h with
 | nil=>intro zs e;show#[zs, .refl _,e]
 | cons x _ ih=>
  intro zs e
  cases zs with
  | nil=>cases e
  | cons z zs=>
   rw [Zn] at e;injection e with e1 e2
   let#[b,p,q]:=ih e2;show#[z::b,p.cons z,by rw [Zn,q,e1]]
 | swap x y l=>
  intro zs e
  match zs,e with
  | z1::z2::r,e=>
   rw [Zn,Zn] at e;injection e with e1 e2
   injection e2 with e2 e3
   show#[z2::z1::r, .swap _ _ _,by rw [Zn,Zn,e1,e2,e3]]
 | trans _ _ ih1 ih2=>
  intro zs e;let#[b,p,q]:=ih1 e;let#[us,f,i]:=ih2 q;show#[us,f.trans p,i]
def lY (h:Heap):Value->Str
 | .ref b=>match h.get? b with
  | some ob=>match ob.data with
   | .seq its _=>match (its[0]? :Option Value) with
    | some (Value.str x _)=>x
    | _=>#[([].toArray)]
   | _=>#[([].toArray)]
  | none=>#[([].toArray)]
 | _=>#[([].toArray)]
theorem pO {a:Type} {g:a->Addr}: ∀ {zs:List a} {us:List Value},Vals (zs.map λ z=>V.ref (g z)) us->us=zs.map λ z=>Value.ref (g z)
 | [],_,r=>by cases r;rfl
 | z::zs,_,r=>by
  cases r with
  | cons r rr=>
   rw [pO rr,Zn];congr 1
theorem lZ {a:Type} {g:a->Addr}: ∀zs:List a,Vals (zs.map λ z=>V.ref (g z)) (zs.map λ z=>Value.ref (g z))
 | []=> .nil
 | _::zs=> .cons rfl (lZ zs)
abbrev jC (a b:Str):Prop:=a.cps.toList<b.cps.toList
def jD:List V->Hp->VK->Prop:=λ xs H Q=> ∃ (a:Addr) (kvs:List (Str×V)),xs=[.ref a]/\Rd H a (.dK (kvs.map λ p=>(Sum.inr p.1,p.2)))/\kvs.length<64/\ ∀r (ns:List Str),ns.Perm (kvs.map (·.1))->ns.Pairwise jC->H r=none->Q (.ref r) (upd H r (.lst (ns.map V.str)))
def nu:List V->Hp->VK->Prop:=λ xs H Q=> ∃ (a:Addr) (kvs:List (Int×V)),xs=[.ref a]/\H a=some (.dK (kvs.map λ p=>(Sum.inl p.1,p.2)))/\kvs.length<64/\ ∀r (ns:List Int),ns.Perm (kvs.map (·.1))->ns.Pairwise (· < ·)->H r=none->Q (.ref r) (upd H r (.lst (ns.map V.int)))
def nA (td:TE):TE:=λ σ H Q=>td σ H λ x H1=> ∃ (a:Addr) (kvs:List (Str×V)),x= .ref a/\H1 a=some (.dK (kvs.map λ p=>(Sum.inr p.1,p.2)))/\kvs.length<64/\ ∀r (zs:List (Addr×Str×V)) (H2:Hp),(zs.map (·.2)).Perm kvs->(zs.map (·.2.1)).Pairwise jC->H1 r=none->Same H1 H2->H2 r=some (.lst (zs.map λ z=>V.ref z.1))->(∀z∈zs,H2 z.1=some (.tup [.str z.2.1,z.2.2]))->Q (.ref r) H2
def uv (K:W.Frag):List V->Hp->VK->Prop:=λ xs H Q=> ∃ (a:Addr) (ns:List Int),xs=[.ref a]/\SqL K H a (ns.map V.int)/\ns≠[]/\ ∀m,m∈ns->(∀n∈ns,n<=m)->Q (.int m) H
def Ou (te:TE):TE:=λ σ H Q=>te σ H λ x H1=> ∃cs:List Nat,x= .str #[cs.toArray]/\cs.length<=1000000/\Q (.str #[cs.reverse.toArray]) H1
theorem ig {s:Shared}
  (e: ∀ (E':Value->Shared->Prop) (R:List Value->Shared->Prop),(∀vs s1,C vs s1->R vs s1)->wpAny (model prog w) A.in1 (collect v) R E' s)
  (f: ∀vs s1,C vs s1->vs.length<64/\(∀ (A':Around) (E':Value->Shared->Prop) (P:PySem.Fin->Shared->Prop),(∀a,Z vs s1 a->P (.done (.ret .none)) { s1 with heap:=sortedHeap (s1.heap.push (seqObj "list" vs.toArray 0)) s1.heap.objs.size vs a })->
    wpAny (model prog w) A' (Builtin.«list.sort» #[[.ref s1.heap.objs.size],[]]) P E' { s1 with heap:=s1.heap.push (seqObj "list" vs.toArray 0) })/\
   ∀a,Z vs s1 a->Q (.ref s1.heap.objs.size) { s1 with heap:=sortedHeap (s1.heap.push (seqObj "list" vs.toArray 0)) s1.heap.objs.size vs a }):
  wpAny (model prog w) A (call (.builtin "sorted") [v]) Q E s:=by
 refine Calls.call_function_entry kind_sorted plain_sorted entry_sorted (args_sorted1 _) ?_;unfold Builtin.«sorted»;refine Qr (m:=checkCount "sorted" 1 1 _) (Zi (Qr (e _ _ λ vs s1 c=> ?_)));let#[b,d,h]:=f vs s1 c;refine Qr (wpAny_newList ?_ (by rw [Xc];rfl'));have g:(s1.heap.push (seqObj "list" vs.toArray 0)).get? s1.heap.objs.size=some (seqObj "list" vs.toArray 0):=Zw _ rfl;change wpAny _ _ _ _ _ { s1 with heap:=s1.heap.push (seqObj "list" vs.toArray 0) };refine Qr (Yt (å slot_list_sort #[_,g,rfl] entry_list_sort (d _ _ _ λ a z=>#[_,rfl,?_]) (args_list_sort _)));show Zi #[_,rfl,h a z]
theorem iM {s:Shared} {K:Type} [DecidableEq K] {knd:PySem.KeyKind prog w K} {d:Addr} {kvs:List (K×Value)} {ep:Nat}
  (C:A.handled=none) (lo:(d==sysModules)=false) (u:s.heap.DictAt knd d kvs ep) (G:kvs.length<=sizeLine)
  (h: ∀ (h':Heap) (tk:Nat) (vs:List Value),(∀b o,s.heap.get? b=some o->h'.get? b=some o)->s.heap.objs.size<=h'.objs.size->vs.length=kvs.length->(∀ (j:Nat) v,vs[j]? =some v-> ∃k x,kvs[j]? =some (k,x)/\knd.is k v=true)->R vs { s with heap:=h',toks:=tk }):
  wpAny (model prog w) A (collect (.ref d)) R E s:=by
 have t:d<s.heap.objs.size:=u.lt_size;have KS:=PySem.W.kdl_dict (prog:=prog) (w:=w) (knd:=knd) (d:=d) (kvs:=kvs) (ep:=ep) lo;unfold collect;refine Qr (wpAny_runValue (Wc entry_proto_collect' ?_));rw [Ç PySem.F.plain_proto_collect _];change wpAny _ A.in1 (newList [] >>= λ l=>again (.builtin "list.__iadd__" #[[l, .ref d],[]])) _ _ s;refine Qr (We ?_);refine Zi #[plainId_quiet PySem.F.plain_list_iadd _,Wc entry_list_iadd' ?_];rw [Ç PySem.F.plain_list_iadd _];have n:(s.heap.push { cls:= .type "list",data:= .seq ([]:List Value).toArray }).get? s.heap.objs.size=some { cls:= .type "list",data:= .seq ([].toArray) }:=Zw _ rfl;change wpAny _ A.in1 (Builtin.List.listExtendWith (.ref s.heap.objs.size) (.ref d) (.ref s.heap.objs.size)) _ _ _;have r:=PySem.W.kdl_extend (A:=A) (s:={ s with heap:=s.heap.push { cls:= .type "list",data:= .seq ([]:List Value).toArray } }) KS
  (R:=λ (q:Result) (s':Shared)=> ∃ (h':Heap) (tk:Nat) (a:Array Value) (m:Nat),q= .ok (.ret (.ref s.heap.objs.size))/\s'={ s with heap:=h',toks:=tk }/\
   (∀b o,s.heap.get? b=some o->h'.get? b=some o)/\h'.get? s.heap.objs.size=some { cls:= .type "list",dict:=none,data:= .seq a m,slots:= ([].toArray) }/\ItemsOf (λ i v=> ∃k x,kvs[i]? =some (k,x)/\knd.is k v=true) a kvs.length)
  C (u.push _) s.heap.objs.size (Ù t) (Ù t) (.ref s.heap.objs.size) 0 n
  (λ h' tk a m p g c=>#[h',tk,a,m,rfl,rfl,λ b o e=>p b o (Yn (Zl e)) (Zd _ e),g,c]) G
 have fin: ∀ {h':Heap} {tk:Nat} {a:Array Value} {m:Nat},(∀b o,s.heap.get? b=some o->h'.get? b=some o)->h'.get? s.heap.objs.size=some { cls:= .type "list",dict:=none,data:= .seq a m,slots:= ([].toArray) }->ItemsOf (λ i v=> ∃k x,kvs[i]? =some (k,x)/\knd.is k v=true) a kvs.length->R a.toList { s with heap:=h',toks:=tk }:=by
  intro h' tk a m p g c;refine h h' tk a.toList p (Xu (Zl g)) (by rw [Xa];show c.1) λ j v D=>c.2 j v (by rw [<- Wx];show D)
 refine Yd r (λ f s' x=> ?_) λ e s' x=> ?_
 .cases f with
  | done f=>
   let#[h',tk,a,m,e,rfl,p,g,c]:=x
   cases e;change wpAny _ A (load s.heap.objs.size >>= _) _ _ _;show Qr (wpAny_load g (Zi (fin p g c)))
  | again c₁=>
   refine#[x.1,ë x.2 λ q z y=> ?_];let#[h',tk,a,m,rfl,rfl,p,g,c]:=y;change wpAny _ A (load s.heap.objs.size >>= _) _ _ _;show Qr (wpAny_load g (Zi (fin p g c)))
 .obtain ⟨_,_,_,_,B,_⟩:=x
  cases B
theorem xX (h:Heap) (vs:List Value) (a:Array Value): ∃e,(sortedHeap (h.push (seqObj "list" vs.toArray 0)) h.objs.size vs a).get? h.objs.size=some (seqObj "list" a e):=sortedHeap_at (n:=0) (Zw _ rfl)
theorem nF {h:Heap} {vs:List Value} {c:Array Value} {b:Addr} {o:Obj} (d:h.get? b=some o):(sortedHeap (h.push (seqObj "list" vs.toArray 0)) h.objs.size vs c).get? b=some o:=by
 have a:b<h.objs.size:=Zl d;rw [sortedHeap_old (Yn a) (by rw [size_push'];show Nat.lt_succ_of_lt a)];show Zd _ d
theorem iQ: ∀ (p:Str) (l:List Str),risingS p l=true->(p::l).Nodup->(p::l).Pairwise jC
 | p,[],_,_=>List.pairwise_singleton _ _
 | p,x::r,h,n=>by
  have h':(!ltCps x.cps.toList p.cps.toList&&risingS x r)=true:=h;rw [Xm,ô] at h';have d:=iQ x r h'.2 (Ym.mp n).2;have c:jC p x:=by
   have f: ¬x.cps.toList<p.cps.toList:=by
    have:=h'.1;rw [ltCps_eq] at this;show of_decide_eq_false this
   have g:p≠x:=λ e=>(Ym.mp n).1 (by rw [e];show Zp)
   cases e:strKind.blt p.cps.toList x.cps.toList with
   | true=>show Ys e
   | false=>
    have:=strKind.total _ _ e (Yj f);show absurd (by
     have b:p.cps=x.cps:=Array.toList_inj.mp this
     cases h4:p;cases h5:x;rw [h4,h5] at b;simpa using b) g
  refine Xy.mpr #[λ y a=> ?_,d];rcases Zx.mp a with rfl | a
  .exact c
  .exact List.lt_trans c ((Xy.mp d).1 y a)
theorem gO: ∀ {l:List Str},sortedS l=true->l.Nodup->l.Pairwise jC
 | [],_,_=> .nil
 | x::r,h,n=>iQ x r h n
theorem nG {vs:List Value} (n:KV (kvs.map λ p=>((Sum.inr p.1:Key),p.2)) us) (m:vs.length=us.length) (h: ∀ (j:Nat) v,vs[j]? =some v-> ∃k x,us[j]? =some (k,x)/\(aY prog w).is k v=true):StrsAre vs (kvs.map (·.1)):=by
 have c:us.map (·.1)=kvs.map λ p=>(Sum.inr p.1:Key):=by rw [<- n.keys,Zj];rfl
 have a:vs.length=kvs.length:=by rw [m,<- Qb (f:=(·.1)),c,Qb]
 have b: ∀ (j:Nat) v,vs[j]? =some v-> ∃p,kvs[j]? =some p/\ ∃t,v= .str p.1 t:=by
  intro j v d;let#[k,x,o,g]:=h j v d;have l:(us.map (·.1))[j]? =some k:=by rw [Zm,o];rfl
  rw [c,Zm] at l;let#[p,ep,rfl]:=Yk.mp l;rw [eZ] at g;rcases aV g with ⟨i,t,e,_⟩ | ⟨y,t,e,ev⟩
  .exact nomatch e
  .cases e;show#[p,ep,t,ev]
 clear h c m n
 revert kvs
 induction vs with
 | nil=>
  intro kvs a b
  cases kvs with
  | nil=>show .nil
  | cons=>simp at a
 | cons v r ih=>
  intro kvs a b
  cases kvs with
  | nil=>simp at a
  | cons p ps=>
   let#[q,s,t,rfl]:=b 0 v rfl
   cases s;show .cons _ _ (ih (by simpa using a) λ j v d=>b (j+1) v d)
theorem nH {kvs:List (Int×V)} {vs:List Value} (n:KV (kvs.map λ p=>((Sum.inl p.1:Key),p.2)) us) (m:vs.length=us.length) (h: ∀ (j:Nat) v,vs[j]? =some v-> ∃k x,us[j]? =some (k,x)/\(aY prog w).is k v=true):IntsAre vs (kvs.map (·.1)):=by
 have c:us.map (·.1)=kvs.map λ p=>(Sum.inl p.1:Key):=by rw [<- n.keys,Zj];rfl
 have a:vs.length=kvs.length:=by rw [m,<- Qb (f:=(·.1)),c,Qb]
 have b: ∀ (j:Nat) v,vs[j]? =some v-> ∃p,kvs[j]? =some p/\ ∃t,v= .int p.1 t:=by
  intro j v d;let#[k,x,o,g]:=h j v d;have l:(us.map (·.1))[j]? =some k:=by rw [Zm,o];rfl
  rw [c,Zm] at l;let#[p,ep,rfl]:=Yk.mp l;rw [eZ] at g;rcases aV g with ⟨i,t,e,ev⟩ | ⟨y,t,e,_⟩
  .cases e;show#[p,ep,t,ev]
  .exact nomatch e
 clear h c m n
 revert kvs
 induction vs with
 | nil=>
  intro kvs a b
  cases kvs with
  | nil=>show .nil
  | cons=>simp at a
 | cons v r ih=>
  intro kvs a b
  cases kvs with
  | nil=>simp at a
  | cons p ps=>
   let#[q,s,t,rfl]:=b 0 v rfl
   cases s;show .cons _ _ (ih (by simpa using a) λ j v d=>b (j+1) v d)
theorem m5 (d:KV (kvs.map λ p=>((Sum.inr p.1:Key),p.2)) us) (h:(us.map (·.1)).Nodup):(kvs.map (·.1)).Nodup:=by
 have c:us.map (·.1)=(kvs.map (·.1)).map (Sum.inr:Str->Key):=by rw [<- d.keys,Zj,Zj];rfl
 rw [c] at h;show Wg (λ {a b} z e=>z (by rw [e])) (ö.mp h)
theorem vQ {kvs:List (Int×V)} (d:KV (kvs.map λ p=>((Sum.inl p.1:Key),p.2)) us) (h:(us.map (·.1)).Nodup):(kvs.map (·.1)).Nodup:=by
 have c:us.map (·.1)=(kvs.map (·.1)).map (Sum.inl:Int->Key):=by rw [<- d.keys,Zj,Zj];rfl
 rw [c] at h;show Wg (λ {a b} z e=>z (by rw [e])) (ö.mp h)
def kh (K:W.Frag):List V->Hp->VK->Prop:=λ xs H Q=> ∃ (a:Addr) (ns:List Str),xs=[.ref a]/\SqL K H a (ns.map V.str)/\ns.Nodup/\ns.length<64/\ ∀r (ns':List Str),ns'.Perm ns->ns'.Pairwise jC->H r=none->Q (.ref r) (upd H r (.lst (ns'.map V.str)))
theorem rC {X:Cx}:bM X (.builtin "sorted") (kh X.K):=by
 intro b s m H xs us Q I l h;let#[a,ns,e,k,g,c,q]:=h;show rA b s m H xs us Q I l #[a,ns,e,k,c,λ r d f j i=>q r d f (gO j (f.nodup_iff.mpr g)) i]
theorem jn {X:Cx} (K:W.Frag) (a:X.K=K):bM X (.builtin "sorted") (kh K):=a▸rC
theorem jo {X:Cx} (d:X.calm=true):bM X (.builtin "sorted") jD:=by
 intro y s σ H xs us Q I rv h;let#[a,kvs,rfl,e,G,q]:=h;let#[u,rfl,ru]:=rv.one
 cases (show u=Value.ref a from ru);let#[hz,k,ws,v,K]:=gK I.hok e;let#[ep,g]:=K.dictAt;have i:kvs.length=ws.length:=by have:=v.length;rw [Qb] at this;show this
 refine ig (C:=λ vs z=> ∃h' l,z={ s with heap:=h',toks:=l }/\(∀b o,s.heap.get? b=some o->h'.get? b=some o)/\s.heap.objs.size<=h'.objs.size/\StrsAre vs (kvs.map (·.1)))
  (Z:=λ vs _ c=> ∃ns,StrsAre c.toList ns/\ns.Perm (kvs.map (·.1))/\sortedS ns=true) (λ E R M=> ?_) λ vs z J=> ?_
 .exact iM (A:=X.A.in1) (I.ok.hd d) k g (by rw [<- i,Xc];rfl') λ h' l vs r hsz S Y=>M _ _ #[h',l,rfl,r,hsz,nG v S Y]
 .obtain ⟨h',l,rfl,r,hsz,m⟩:=J;have ac:vs.length=kvs.length:=by have:=Zk List.length m.strs;rw [Qb,Qb] at this;show this
  refine#[(),λ A' E P L=> ?_,λ c j=> ?_]
  .refine list_sort_treeK strKind_oneLt (Zw _ rfl) m.keysOf (λ B D rest e=>keyKind_strs (by rw [<- e];show m)) () λ ad T W=> ?_
   let#[x,n,f,p]:=sorted_out_str m T W;show L _ #[x,n,f,p]
  .obtain ⟨ns,n,f,p⟩:=j;let#[F,O]:=xX h' vs c;have U:H h'.objs.size=none:=I.hok.fresh hsz;have t:ns.Nodup:=f.nodup_iff.mpr (m5 v g.nodup);refine#[.ref _,_,I.laid (t':=l) (a:=h'.objs.size) (o:= .lst (ns.map V.str)) (λ b o N=>nF (r b o N)) hsz (show ObjOk X.prog X.w _ _ _ (.lst _) from #[?_,c.toList,F,je n,?_]),rfl,q _ ns f (gO p t) U]
   .rw [Qb,f.length_eq,Qb,Xc];rfl'
   .rw [O]
theorem pP {X:Cx} (d:X.calm=true):bM X (.builtin "sorted") nu:=by
 intro y s σ H xs us Q I Y h;let#[a,kvs,rfl,e,F,q]:=h;let#[u,rfl,W]:=Y.one
 cases (show u=Value.ref a from W);let#[hz,k,ws,t,J]:=gK I.hok (.inl e);let#[ep,g]:=J.dictAt;have i:kvs.length=ws.length:=by have:=t.length;rw [Qb] at this;show this
 refine ig (C:=λ vs B=> ∃h' l,B={ s with heap:=h',toks:=l }/\(∀b o,s.heap.get? b=some o->h'.get? b=some o)/\s.heap.objs.size<=h'.objs.size/\IntsAre vs (kvs.map (·.1)))
  (Z:=λ vs _ c=> ∃ns,IntsAre c.toList ns/\ns.Perm (kvs.map (·.1))/\ns.Pairwise (· <= ·)) (λ D R L=> ?_) λ vs B G=> ?_
 .exact iM (A:=X.A.in1) (I.ok.hd d) k g (by rw [<- i,Xc];rfl') λ h' l vs p hsz O T=>L _ _ #[h',l,rfl,p,hsz,nH t O T]
 .obtain ⟨h',l,rfl,p,hsz,x⟩:=G;have U:vs.length=kvs.length:=by have:=x.length;rw [Qb] at this;show this
  refine#[(),λ A' D P K=> ?_,λ c j=> ?_]
  .exact list_sort_tree (Zw _ rfl) x () λ c v m f n=>K _ #[v,m,f,n]
  .obtain ⟨ns,m,f,n⟩:=j;let#[E,N]:=xX h' vs c;have S:H h'.objs.size=none:=I.hok.fresh hsz;have r:ns.Nodup:=f.nodup_iff.mpr (vQ t g.nodup);refine#[.ref _,_,I.laid (t':=l) (a:=h'.objs.size) (o:= .lst (ns.map V.int)) (λ b o M=>nF (p b o M)) hsz (show ObjOk X.prog X.w _ _ _ (.lst _) from #[?_,c.toList,E,j9 m,?_]),rfl,q _ ns f (Wg (R:=λ a b=>a<=b/\a≠b) (λ {a b} z=>()) (List.Pairwise.and n r)) S]
   .rw [Qb,f.length_eq,Qb,Xc];rfl'
   .rw [N]
theorem vR {X:Cx} (m:X.calm=true):bM X (.builtin "max") (uv X.K):=by
 intro k s D H xs us Q I z h;let#[a,ns,rfl,w,c,q]:=h;let#[u,rfl,y]:=z.one
 cases (show u=Value.ref a from y);let#[x,r,i,B]:=I.list w;have g:=intsAre_of r;let#[xs,e]:=g.allInts.items;have b:ns=xs.toList.map (·.1):=by
  rw [<- g.numsOf,<- nums_intItems,<- e]
 have hsz:0<xs.size:=by
  have d:0<ns.length:=List.length_pos_iff.mpr c;rw [b,Qb,Xa] at d;show d
 rw [e] at i;refine max_intList (I.ok.hd m) i.isList hsz λ v h' C p o=> ?_
 let#[t,rfl]:=intItems_at p;let#[A,l]:=argBest_gt (numAt xs) (xs.size-1);refine#[.int _,H,I.kept o,#[_,rfl],q _ ?_ λ a f=> ?_]
 .rw [b,numAt_eq];show getD_mem (by rw [Qb,Xa];rfl')
 .rw [b] at f;let#[j,n,rfl]:=mem_getD f;rw [Qb,Xa] at n;rw [<- numAt_eq];show l j ()
theorem rD {X:Cx} (K:W.Frag) (a:X.K=K) (b:X.calm=true):bM X (.builtin "max") (uv K):=a▸vR b
end L2
namespace Sx
open PySem PyProof.Rows
section
variable {prog:Program} {w:World} {A:Around} {E:Value->Shared->Prop} {s:Shared} {f:Value->Str}
theorem jf {a:Addr} {vs:List Value} {n:Nat} {P:PySem.Fin->Shared->Prop} (L:s.heap.get? a=some (seqObj "list" vs.toArray n)) (l:vs.length<64) (C: ∀v∈vs,Fs (mid s.heap a vs) f v) (D:(vs.map f).Nodup)
  (h: ∀c:List Value,c.Perm vs->(c.map f).Pairwise (λ a b=>a.cps.toList<b.cps.toList)->P (.done (.ret .none)) { s with heap:=sortedHeap s.heap a vs c.toArray }):
  wpAny (model prog w) A (Builtin.«list.sort» #[[.ref a],[]]) P E s:=by
 refine xV (kd:=tuples' true) (MJ (f:=f)) L l (λ z=>pN (s:={ s with heap:=mid s.heap a vs }) (by intro e;rw [e] at z;simp at z) C) (rB (s:={ s with heap:=mid s.heap a vs }) C D) λ c H u=> ?_
 have k:c.toList.Perm (vs.zip vs):=by
  have:=Æ.mp H;rwa [pairsOf_toList] at this
 have d: ∀p∈c.toList,p.1=p.2:=λ p K=>(mem_zip_self (k.mem_iff.mp K)).1
 have g:(c.toList.map (·.2)).Perm vs:=by
  have:=k.map (·.2);rwa [ý (Zo _)] at this
 have hsz:c.size=vs.length:=by rw [H.size_eq,pairsOf_size]
 have:=h (c.toList.map (·.2)) g ?_
 .rwa [show(c.toList.map (·.2)).toArray=c.map (·.2) by rw [<- Array.toList_map]] at this
 have r:((c.toList.map (·.2)).map f).Nodup:=((g.map f).nodup_iff).mpr D;rw [List.pairwise_iff_getElem];intro i j F G o;have m:i<c.size:=by simpa using F
 have q:j<c.size:=by simpa using G
 have t:=u i j (Xu o) ();have I:gt c i=c[i]:=by unfold gt;rw [getElem?_pos _ i m];rfl
 have J:gt c j=c[j]:=by unfold gt;rw [getElem?_pos _ j q];rfl
 rw [I,J] at t;have x:((c.toList.map (·.2)).map f)[i]=f (c[i]).1:=by
  rw [d _ (by simp)];simp
 have y:((c.toList.map (·.2)).map f)[j]=f (c[j]).1:=by
  rw [d _ (by simp)];simp
 rw [x,y];have M:f (c[i]).1≠f (c[j]).1:=by
  intro e;have:=(È (h₀:=F) (h₁:=G) r).mp (by rw [x,y,e]);rfl'
 unfold Bf at t
 cases e:strKind.blt (f (c[i]).1).cps.toList (f (c[j]).1).cps.toList with
 | true=>show Ys e
 | false=>
  have:=strKind.total _ _ e t;show absurd (by
   have B:(f (c[i]).1).cps=(f (c[j]).1).cps:=Array.toList_inj.mp this
   cases h4:f (c[i]).1;cases h5:f (c[j]).1;rw [h4,h5] at B;simpa using B) M
end
end Sx
namespace L2
open PySem PySem.Spec PyProof.Rows
variable {H:Hp} {b r:Addr} {z:Addr×Str×V} {pins:List (Addr×Obj)} {zs:List (Addr×Str×V)}
theorem Inv.laidN {X:Cx} {f:St} {H2:Hp} {s:Shared} {h':Heap} {t':Nat} (I:Inv X pins f H s) (k: ∀b u,s.heap.get? b=some u->h'.get? b=some u) (a: ∀b,b<s.heap.objs.size->H2 b=H b)
  (d: ∀b o,s.heap.objs.size<=b->H2 b=some o->ObjOk X.prog X.w H2 h' b o):Inv X pins f H2 { s with heap:=h',toks:=t' }:=by
 have st: ∀b o,H b=some o->H2 b=some o:=λ b o e=>by rw [a b (I.hok.lt e)];show e
 refine I.un #[λ b u q _ _ _=>k b u q,λ b u q _ _ _=>#[u.slots,k b u q],λ b u q n _=>by rw [a b (Zl q)];show n,λ b u q _=>#[u,k b u q],λ b xs q=>st _ _ q,λ b u xs q=>st _ _ q,λ b g q=>#[([].toArray),by rw [st _ _ q];simp]] λ b u e=> ?_
 rcases Wh b s.heap.objs.size with lt | ge
 .rw [a b lt] at e;show(I.hok b u e).stay (λ c v _ q=>k c v q) (λ c q=>st _ _ q) λ c xs q=>st _ _ q
 .exact d b u ge e
def lC (H:Hp) (r:Addr) (zs:List (Addr×Str×V)):Hp:=λ b=>if b=r then some (.lst (zs.map λ z=>V.ref z.1)) else match zs.find? (λ z=>decide (z.1=b)) with
 | some z=>some (.tup [.str z.2.1,z.2.2])
 | none=>H b
theorem xY (a:(zs.map (·.1)).Nodup) (c: ∀z∈zs,z.1≠r) (b:z∈zs):lC H r zs z.1=some (.tup [.str z.2.1,z.2.2]):=by
 unfold lC;rw [if_neg (c z b)];have:zs.find? (λ y=>decide (y.1=z.1))=some z:=by
  clear c;induction zs with
  | nil=>cases b
  | cons y r ih=>
   rw [Zn,Ym] at a;rw [Wb];rcases Zx.mp b with e | m
   .subst e;simp
   .have d:y.1≠z.1:=λ e=>a.1 (by rw [e];show Ze.mpr #[z,m,rfl])
    rw [Yj d];show ih a.2 m
 rw [this]
theorem xZ (a:b≠r) (c: ∀z∈zs,z.1≠b):lC H r zs b=H b:=by
 unfold lC;rw [if_neg a];have:zs.find? (λ y=>decide (y.1=b))=none:=List.find?_eq_none.mpr λ z d=>by simpa using c z d
 rw [this]
theorem yc {o:HO} (a:b≠r) (c:H b=none) (e:lC H r zs b=some o): ∃z∈zs,z.1=b/\o= .tup [.str z.2.1,z.2.2]:=by
 unfold lC at e;rw [if_neg a] at e
 cases q:zs.find? (λ z=>decide (z.1=b)) with
 | none=>rw [q] at e;rw [c] at e;cases e
 | some z=>
  rw [q] at e
  cases e;have d:decide (z.1=b)=true:=by have:=List.find?_some q;simpa using this
  show#[z,List.mem_of_find?_eq_some q,Ys d,rfl]
theorem rE {b c:Type} {F:b->c->Prop} {l₁:List b} {a:List c} (r:Paired F l₁ a): ∀ {i:Nat} {p:b} {q:c},l₁[i]? =some p->a[i]? =some q->F p q:=by
 induction r with
 | nil=>intro i p q h;simp at h
 | cons h t ih=>
  intro i p q d e
  cases i with
  | zero=>cases d;cases e;show h
  | succ i=>show ih d e
theorem vU {X:Cx} {o:Expr} {td:TE} {p pos c d:Pos} (U:X.calm=true) (hg:Gl X "sorted") (hm:X.mg "sorted"=none) (ho:PE X o td)
  (T:attributeBase o "items" X.env (eval o X.env)=eval o X.env:=by rfl) (Y:(c.endLine==d.line)=true:=by rfl)
  (he:starEach [.Call (.Attribute o "items" c) [] [] d] X.env=(false,eval (.Call (.Attribute o "items" c) [] [] d) X.env)::starEach [] X.env:=by rfl)
  (av:backTo pos (starEach [.Call (.Attribute o "items" c) [] [] d] X.env)=[(false,eval (.Call (.Attribute o "items" c) [] [] d) X.env)]:=by rfl):
  PE X (.Call (.Name "sorted" p) [.Call (.Attribute o "items" c) [] [] d] [] pos) (nA td):=by
 intro N s σ H Q I h;refine Xx (jK I hg hm (by ac_nf:bootBuiltins "sorted"=some (.builtin "sorted")) ?_ (by decide) (by decide));refine PyProof.Rows.callWith_builtin1 ?_ he rfl;rw [av];refine Wq (wpAny_Call_method0_late T Y (bA (ho N s σ H _ I h) λ v r ⟨x,H1,J,r1,q1⟩=> ?_));let#[a,kvs,rfl,e,al,q]:=q1
 cases (show v=Value.ref a from r1);let#[M,ag,us,kv,hD]:=gK J.hok (.inl e);let#[t1,t2,_]:=xu J (.inl #[_, .inl e]);refine#["dict","dict.items",PySem.F.plainAttrs_dict,PySem.F.slot_dict_items,PySem.F.type_dict_items,t1,t2,Û rfl (PySem.evalArgs_none ?_)];refine call_meetsIn PySem.F.slot_dict_items hD.typeIs PySem.F.entry_dict_items (PySem.F.args_dict_items_1 _) (meets_dict_items (aY X.prog X.w) a ag) #[#[us,hD],?_];refine Ú ?_;let#[ep,ac]:=hD.dictAt;have ae:kvs.length=us.length:=by have:=kv.length;rw [Qb] at this;show this
 have an:us.map (·.1)=kvs.map λ p=>(Sum.inr p.1:Key):=by rw [<- kv.keys,Zj];rfl
 have I2:Inv X N σ H1 { r with heap:=r.heap.push { cls:= .type "dict_items",data:= .fields ([.ref a].toArray) } }:=J.kept (t':=r.toks) λ b ob q=>Zd _ q
 refine ig (C:=λ vs s3=> ∃h' tk n,s3={ r with heap:=h',toks:=tk }/\(∀b o,r.heap.get? b=some o->h'.get? b=some o)/\r.heap.objs.size<=h'.objs.size/\n.length=us.length/\PySem.W.KdxG (aY X.prog X.w) us r.heap.objs.size h' n/\vs=n.map Value.ref)
  (Z:=λ vs s3 ai=> ∃l:List Value,ai=l.toArray/\l.Perm vs/\(l.map (lY s3.heap)).Pairwise (λ a b=>a.cps.toList<b.cps.toList)) (λ E' R hR=> ?_) λ vs s3 hC=> ?_
 .refine PySem.W.kdx_collect (A:=X.A.in1) (knd:=aY X.prog X.w) (kvs:=us) (ep:=ep) (J.ok.hd U) #[_,Zw _ rfl,rfl,rfl] (ac.push _) (by rw [<- ae,Xc];rfl') λ h' tk n hk hl hG=>hR _ _ #[h',tk,n,rfl,λ b o q=>hk b o (Zd _ q),?_,hl,hG.low ?_,rfl]
  .exact Xu (Zl (hk r.heap.objs.size _ (Zw _ rfl)))
  .show r.heap.objs.size<=(r.heap.push _).objs.size;rw [size_push'];rfl'
 .obtain ⟨h',tk,n,rfl,hk,hsz,a3,hG,rfl⟩:=hC;have a2: ∀ (j:Nat) (b:Addr) p,n[j]? =some b->kvs[j]? =some p-> ∃t u,h'.get? b=some { cls:= .type "tuple",data:= .seq ([.str p.1 t,u].toArray) }/\RelV p.2 u:=by
   intro j b p K hp;let#[a5,k,x,O,S,e3]:=hG.pairs j b K;have e4:(us.map (·.1))[j]? =some k:=by rw [Zm,O];rfl
   rw [an,Zm,hp] at e4
   cases e4;rw [eZ] at S;rcases aV S with ⟨i,t,e,_⟩ | ⟨y,t,e,ev⟩
   .exact nomatch e
   .cases e;have hv:RelV p.2 x:=by
     have:=rE kv (i:=j) (p:=(Sum.inr p.1,p.2)) (q:=(Sum.inr p.1,x)) (by rw [Zm,hp];rfl) O;show this.2
    show#[t,x,by rw [<- ev];show e3,hv]
  have a4:kvs.length=n.length:=()
  have O:((n.zip kvs).map λ q=>(q.1,q.2.1,q.2.2):List (Addr×Str×V)).map (·.1)=n:=by rw [Zj];show ü ()
  have S:((n.zip kvs).map λ q=>(q.1,q.2.1,q.2.2):List (Addr×Str×V)).map (·.2)=kvs:=by rw [Zj];show ý ()
  have G: ∀z∈((n.zip kvs).map λ q=>(q.1,q.2.1,q.2.2):List (Addr×Str×V)),∃t u,h'.get? z.1=some { cls:= .type "tuple",data:= .seq ([.str z.2.1 t,u].toArray) }/\RelV z.2.2 u:=by
   intro z M;let#[q,mq,rfl]:=Ze.mp M;let#[j,hj,ej]:=Xn.mp mq;have hl:j<n.length/\j<kvs.length:=by rw [List.length_zip] at hj;rfl'
   rw [List.getElem_zip] at ej;have:=a2 j n[j] kvs[j] (Zc hl.1) (Zc hl.2);rw [<- ej];show this
  generalize ((n.zip kvs).map λ q=>(q.1,q.2.1,q.2.2):List (Addr×Str×V))=zs0 at O S G;have aw:n.map Value.ref=zs0.map λ z=>Value.ref z.1:=by rw [<- O,Zj];rfl
  have ah:zs0.length<64:=by rw [<- Qb (f:=(·.2)),S];show al
  have B: ∀z∈zs0,lY h' (.ref z.1)=z.2.1:=λ z M=>by
   let#[t,u,g,_]:=G z M;unfold lY;dsimp only;rw [g];rfl
  have ef:(zs0.map λ z=>Value.ref z.1).map (lY h')=zs0.map (·.2.1):=by
   rw [Zj];show ê λ z M=>B z M
  have ap:(zs0.map (·.2.1)).Nodup:=by
   have:zs0.map (·.2.1)=kvs.map (·.1):=by rw [<- S,Zj];rfl
   rw [this];show m5 kv ac.nodup
  have m: ∀z∈zs0,r.heap.objs.size<z.1/\z.1<h'.objs.size:=λ z M=>by
   have:z.1∈n:=by rw [<- O];show Ze.mpr #[z,M,rfl]
   show#[hG.above _ this,hG.there this]
  have ar:(zs0.map (·.1)).Nodup:=by
   rw [O];show Wg (λ {a b} h e=>by rw [e] at h;show Xp _ h) hG.rise
  rw [aw];refine#[by rw [Qb];show ah,λ A' E' P hP=> ?_,λ ai af=> ?_]
  .refine Sx.jf (f:=lY h') (Zw _ rfl) (by rw [Qb];show ah) (λ v hv=> ?_) (by rw [ef];show ap) λ l hp hs=>hP _ #[l,rfl,hp,hs]
   let#[z,D,rfl]:=Ze.mp hv;let#[t,u,g,_]:=G z D;refine#[z.1,{ cls:= .type "tuple",data:= .seq ([.str z.2.1 t,u].toArray) },([.str z.2.1 t,u].toArray),t,_,[u],rfl,?_,rfl,rfl,by rw [B z D]];unfold Sx.mid;refine Zd _ (Zd _ ?_);rw [Heap.get?_update_ne _ _ _ _ (Yn (m z D).2)];show Zd _ g
  .obtain ⟨l,rfl,hp,hs⟩:=af;let#[E,hw,rfl]:=Cj hp.symm rfl;have es:(E.map λ z=>Value.ref z.1).map (lY h')=E.map (·.2.1):=by
    rw [Zj];show ê λ z a1=>B z (hw.mem_iff.mp a1)
   rw [es] at hs;let#[ee,am]:=xX h' (zs0.map λ z=>Value.ref z.1) (E.map λ z=>Value.ref z.1).toArray;have hr:H1 h'.objs.size=none:=J.hok.fresh hsz;have ay: ∀z∈E,z.1≠h'.objs.size:=λ z D=>Yn (m z (hw.mem_iff.mp D)).2
   have ax:(E.map (·.1)).Nodup:=((hw.map _).nodup_iff).mpr ar;have L: ∀b,b<r.heap.objs.size->lC H1 h'.objs.size E b=H1 b:=λ b K=>xZ (Yn (Zt K hsz)) λ z D=>Ù (Ü K (m z (hw.mem_iff.mp D)).1)
   refine#[.ref _,lC H1 h'.objs.size E,J.laidN (t':=tk) (λ b o K=>nF (hk b o K)) L λ b o K eo=> ?_,rfl,q _ E _ (by rw [<- S];show hw.map _) hs hr (λ b o eb=>by rw [L b (J.hok.lt eb)];show eb) (by unfold lC;rw [if_pos rfl]) λ z D=>xY ax ay D];by_cases ad:b=h'.objs.size
   .subst ad;have:o= .lst (E.map λ z=>V.ref z.1):=by unfold lC at eo;rw [if_pos rfl] at eo;cases eo;rfl
    subst this;show#[by rw [Qb,hw.length_eq,Xc];rfl',_,ee,lZ (g:=λ z=>z.1) E,am]
   .obtain ⟨z,D,ez,rfl⟩:=yc ad (J.hok.fresh K) eo;let#[t,u,g,rv]:=G z (hw.mem_iff.mp D);rw [<- ez];show#[by change 2<=_;rw [Xc];decide,[.str z.2.1 t,u], .cons #[t,rfl] (.cons rv .nil),_,nF g,rfl,_,rfl]
end L2
end
section
namespace Sy
open PySem PyProof.Rows
variable {n:Nat} {a:Addr} {h₀:Heap} {v:Value} {its:Array Value} {R:Result->Shared->Prop} {Q:Option Value->Shared->Prop}
theorem m6:entryFor table "dict.update.loop"=some Builtin.«dict.update.loop»:=entryFor_of_tree (by kernel_rfl)
theorem gB:plainId "dict.update.loop"=true:=by ac_nf
theorem yd:typeLookup (.type "tuple") "keys"=pure none:=am_miss_of_fast (by ac_nf)
theorem FN:typeLookup (.type "tuple") "__getattr__"=pure none:=by rw [typeLookup_type,builtinLookup_eq_fast];kernel_rfl
theorem stored_new {K:Type} [DecidableEq K] {kvs:List (K×Value)} {k:K} (h:k∉kvs.map (·.1)):stored kvs k v=kvs++[(k,v)]:=by
 unfold stored;rw [if_neg];intro z;let#[p,m,e]:=Xs.mp z;show h (Ze.mpr #[p,m,Ys e])
section
variable {prog:Program} {w:World} {A:Around} {E:Value->Shared->Prop} {s:Shared}
theorem ye (a:Addr) (o:Obj) (f:Array Value) (n:Nat) (h:o.cls= .type "tuple") (i:o.dict=none) (b:o.data= .seq f n) (u:Tok):Meets (Builtin.«object.__getattribute__» #[[.ref a, .str "keys" u],[]]) (λ A R s=>s.heap.get? a=some o/\raisesAttr (.ref a) "keys" A R s):=
 Meets.of_wp λ prog w A R s c=>by
  let#[j,g,d,l,k]:=s;let#[e,c]:=c;dsimp only at e;let#[cls,dict,data,slots]:=o;simp only at h i b;subst h i b;have p:(⟨j,g,d,l,k⟩:Shared).TypeIs (.ref a) "tuple":=#[_,e,rfl];have m:=yd;unfold Builtin.«object.__getattribute__»;repeat (any_goals (first | assumption | wp_step | (refine PySem.AutoSeq1.wpAny_loadPart' e ?_)))
  show wpAny_raiseAttrError c.1 c.2 (attrMsg_fits (by ac_nf) (by rw [Xc];decide+kernel))
theorem Cm {o:Obj} (l:A.handled=none) (f:s.heap.get? a=some o) (h:o.cls= .type "tuple") (i:o.dict=none) (c:o.data= .seq its n)
  (k: ∀h' tk,(∀b ob,s.heap.get? b=some ob->h'.get? b=some ob)->Q none { s with heap:=h',toks:=tk }):wpAny (model prog w) A (getAttr? (.ref a) "keys") Q E s:=by
 let#[m,g,d,tk,p]:=s;dsimp only at f;have M:=λ u=>ye a o its n h i c u
 let#[cls,dict,data,slots]:=o;simp only at h i c;subst h i c;have j: ∀tk,(⟨m,g,d,tk,p⟩:Shared).TypeIs (.ref a) "tuple":=λ _=>#[_,f,rfl]
 have r:=sub_AttributeError;have t:=F.slot_tuple_getattribute.lookup;have v:=F.slot_tuple_getattribute.bind (.ref a);have f5:=FN;unfold getAttr? getAttrBy? getAttrBy;repeat (any_goals (first | assumption | show j _ | ((with_reducible change wpAny _ _ (call (Value.builtin "tuple.__getattribute__") _ _) _ _ _);refine ä F.slot_tuple_getattribute (j _) F.entry_tuple_ga (F.args_tuple_getattribute_2 _ _) (M _) ⟨f,l,λ h' q e f=> ?_⟩) | wp_step))
 let#[t',y,x]:=f.there;change wpAny _ _ (getattributeRaised _ _ _ _ _ _ _) _ _ _;unfold getattributeRaised;repeat (any_goals (first | assumption | wp_step))
 show k _ _ f.keeps
theorem yf {K:Type} [DecidableEq K] {knd:PySem.KeyKind prog w K} {I D:Addr} {U u:List Addr} {zs:List (Addr×Value×K×Value)} {St:Nat->Heap->Prop}
  (W:Walks prog w A.in1 I U u zs.length (λ i v=> ∃z,zs[i]? =some z/\v= .ref z.1) St) (B:D∉U)
  (hz: ∀z∈zs,z.1∉D::u/\knd.is z.2.2.1 z.2.1=true/\ ∃o n,h₀.get? z.1=some o/\o.cls= .type "tuple"/\o.data= .seq ([z.2.1,z.2.2.2].toArray) n) (O:(zs.map (·.2.2.1)).Nodup) (hsz:zs.length<=sizeLine) (res:Value)
  (hR: ∀h' d,h'.DictOf knd D (zs.map λ z=>(z.2.2.1,z.2.2.2))->(∀b o,b∉D::u->h₀.get? b=some o->h'.get? b=some o)->R (.ok (.ret res)) { s with heap:=h',toks:=d }):
  ∀ (k i:Nat) (h:Heap) (tk:Nat) (j:Int),zs.length-i=k->i<=zs.length->St i h->h.DictOf knd D ((zs.take i).map λ z=>(z.2.2.1,z.2.2.2))->(∀b o,b∉D::u->h₀.get? b=some o->h.get? b=some o)->
   codeAny (model prog w) A (.builtin "dict.update.loop" #[[.ref D, .ref I, .int j 0,res],[]]) R { s with heap:=h,toks:=tk }:=by
 have C:D∉u:=λ m=>B (W.sub _ m)
 have sub: ∀ {b},b∉D::u->b∉u:=λ {b} n m=>n (Zu _ m)
 intro k;induction k with
 | zero=>
  intro i h tk j hk hi t H a;have N:i=zs.length:=()
  subst N;rw [Yh] at H;refine Wc m6 ?_;rw [Ç gB _];change wpAny _ A.in1 (pyNext (.ref I) >>= _) _ _ _;refine Qr (W.done { s with heap:=h,toks:=tk } _ _ t λ h' d c=> ?_);change wpAny _ A.in1 (Builtin.Dict.addKeywords D [] >>= _) _ _ _;refine Qr (Zi (Zi (hR h' d ?_ λ b o f e=>c b o (sub f) (a b o f e))));let#[o,J,ep,P,r]:=H;show#[o,J,ep,c D o C P,r]
 | succ k ih=>
  intro i h tk j hk hi t H a;have E:i<zs.length:=()
  refine Wc m6 ?_;rw [Ç gB _];change wpAny _ A.in1 (pyNext (.ref I) >>= _) _ _ _;refine Qr (W.item i { s with heap:=h,toks:=tk } _ _ E t λ v h' d hP G c=> ?_);let#[z,S,rfl]:=hP;have hm:=Zg S;let#[X,n2,o,n,Z,g2,g3]:=hz z hm;have x:h'.get? z.1=some o:=c _ _ (sub X) (a _ _ X Z);have M:h'.DictOf knd D ((zs.take i).map λ z=>(z.2.2.1,z.2.2.2)):=by
   let#[o,J,ep,P,r]:=H;show#[o,J,ep,c D o C P,r]
  refine Qr (Yt ?_);refine Qr (wpAny_tryCatch ?_);unfold Builtin.Dict.pairItems;refine Qr (wpAny_typeOf (T:="tuple") #[o,x,g2] ?_);rw [if_pos (by decide)];refine Qr ?_;unfold seqItems?;refine Qr (wpAny_load x ?_);rw [g3];refine Zi (Zi ?_);change wpAny _ _ (holding [z.2.1,z.2.2.2] (dictSet D z.2.1 z.2.2.2)) _ _ _;refine Yt (wpAny_dictSet_pairs n2 M (λ L g p=> ?_) (by rw [Qb,Yp];rfl'));have Q:zs.take (i+1)=zs.take i++[z]:=by rw [Yc,S];rfl
  have F:z.2.2.1∉((zs.take i).map λ z=>(z.2.2.1,z.2.2.2)).map (·.1):=by
   intro m;rw [Zj] at m;let#[y,my,Y]:=Ze.mp m;have l:((zs.take (i+1)).map (·.2.2.1)).Nodup:=î ((Á _ _).map _) O;rw [Q,Zb,Yl] at l;show l.2.2 _ (Ze.mpr #[y,my,rfl]) z.2.2.1 (by simp) Y
  rw [stored_new F] at g;refine Zi #[plainId_quiet gB _,ih (i+1) L _ (j+1) () E (W.frame _ _ _ G λ b f o e=> ?_) (by rw [Q,Zb];show g) λ b o f e=> ?_]
  .rw [p.2 b (λ q=>B (by rw [<- q];show f))];show e
  .rw [p.2 b (λ q=>f (by rw [q];show Zp))];show c b o (sub f) (a b o f e)
theorem jw {K:Type} [DecidableEq K] {knd:PySem.KeyKind prog w K} {o:Obj} {zs:List (Addr×Value×K×Value)} {Q:Value->Shared->Prop} (O:A.handled=none) (P:s.heap.get? a=some o) (G:o.cls= .type "tuple") (hd:o.dict=none) (u:o.data= .seq (zs.map λ z=>Value.ref z.1).toArray n)
  (hz: ∀z∈zs,knd.is z.2.2.1 z.2.1=true/\ ∃o n,s.heap.get? z.1=some o/\o.cls= .type "tuple"/\o.data= .seq ([z.2.1,z.2.2.2].toArray) n) (H:(zs.map (·.2.2.1)).Nodup) (hsz:zs.length<=sizeLine)
  (q: ∀h' tk,h'.DictOf knd s.heap.objs.size (zs.map λ z=>(z.2.2.1,z.2.2.2))->(∀b o,s.heap.get? b=some o->h'.get? b=some o)->Q (.ref s.heap.objs.size) { s with heap:=h',toks:=tk }):
  wpAny (model prog w) A (call (.type "dict") [.ref a]) Q E s:=by
 refine callType_codes (Q₁:=λ C g=>C= .ref s.heap.objs.size/\g={ s with heap:=s.heap.push { cls:= .type "dict",data:= .dict ([].toArray) } }) F.kt_called_dict (F.kt_typeCall_dict_1 _) F.entry_dict_init (kt_code_dict_new _ ⟨rfl,rfl⟩) ?_;rintro C g ⟨rfl,rfl⟩;have t:a<s.heap.objs.size:=Zl P;have d:(s.heap.push { cls:= .type "dict",data:= .dict ([].toArray) }).DictOf knd s.heap.objs.size []:=Heap.DictOf.new s.heap;have k:(s.heap.push { cls:= .type "dict",data:= .dict ([].toArray) }).get? a=some o:=Zd _ P;refine#[d.typeIs,F.args_dict_init_2 _ _,?_];unfold Builtin.«dict.__init__»;refine Qr ?_;unfold Builtin.Dict.selfAndRest;refine Qr (wpAny_notOrdered_dict d.typeIs ?_);change wpAny _ _ (pure (s.heap.objs.size,[Value.ref a])) _ _ _;refine Zi ?_;change wpAny _ _ (Builtin.Dict.updateFrom "dict.__init__" s.heap.objs.size (.ref a) [] .none) _ _ _;unfold Builtin.Dict.updateFrom;refine Qr (wpAny_typeOf (T:="tuple") #[o,k,G] ?_);rw [if_pos (by decide)];refine Qr (Cm O k G hd u λ c ac f=> ?_);rw [if_pos (show(none:Option Value).isNone=true from rfl)];refine Qr (wpAny_rule ?_);have B:c.IsTuple a (zs.map λ z=>Value.ref z.1).toArray:=#[o,f _ _ k,G,n,u];refine Qr (wpAny_pyIter_tuple B ?_);have j:s.heap.objs.size<c.objs.size:=Zl (f s.heap.objs.size _ (Zw _ rfl));have I:a≠c.objs.size:=Yn (Ü t j);have p:(zs.map λ z=>Value.ref z.1).toArray.size=zs.length:=by simp
 have l:=Walks.tuple (prog:=prog) (w:=w) (A:=A.in1.in1) O c.objs.size a I (zs.map λ z=>Value.ref z.1).toArray;have W : Walks prog w A.in1.in1 c.objs.size [c.objs.size, a] [c.objs.size] zs.length (λ i v => ∃ z, zs[i]? = some z /\ v = .ref z.1) (λ i h => h.IsTupleIter c.objs.size a i /\ h.IsTuple a (zs.map λ z => Value.ref z.1).toArray) :=
  { sub:=l.sub,frame:=l.frame,self:=l.self
    item:=λ i s Q E hi st q=>l.item i s Q E (by rw [p];show hi) st λ v h' tk N=>q v h' tk (by
      rw [List.getElem?_toArray,Zm] at N;let#[z,R,S]:=Yk.mp N;show#[z,R,S.symm])
    done:=λ s Q E st q=>l.done s Q E (by rw [p];show st) q }
 have x: ∀b ob,s.heap.get? b=some ob->(c.push { cls:= .type "tuple_iterator",data:= .fields ([.ref a, .int 0 0].toArray) }).get? b=some ob:=λ b ob e=>Zd _ (f b ob (Zd _ e))
 have y: ∀b ob,s.heap.get? b=some ob->b∉[s.heap.objs.size,c.objs.size]:=λ b ob e m=>by
  have:=Zl e;simp only [Zx,Xo,ċ] at m;rcases m with rfl | rfl
  .exact Xp _ this
  .exact Xp _ (Ü this j)
 refine Zi #[plainId_quiet gB _,yf (s:=s) (A:=A.in1) (knd:=knd) (D:=s.heap.objs.size) (h₀:=c.push { cls:= .type "tuple_iterator",data:= .fields ([.ref a, .int 0 0].toArray) }) W ?_ (λ z m=> ?_) H hsz .none (λ h' L Z hk=>#[rfl,q h' L Z λ b ob e=>hk b ob (y b ob e) (x b ob e)]) zs.length 0 _ _ 0 rfl (Yv _) #[#[_,Zw _ rfl,rfl,rfl],?_] ?_ λ _ _ _ e=>e]
 .simp only [Zx,Xo,ċ,not_or];show#[Nat.ne_of_lt j,Ù t]
 .obtain ⟨n1,o',n',M,X,Y⟩:=hz z m;show#[y _ _ M,n1,o',n',x _ _ M,X,Y]
 .obtain ⟨o',J,r⟩:=B;show#[o',Zd _ J,r]
 .obtain ⟨o',U,ep,J,r⟩:=d;show#[o',U,ep,Zd _ (f _ _ J),r]
end
end Sy
namespace L2
open PySem PySem.Spec PyProof.Rows
def uw (K:W.Frag):List V->Hp->VK->Prop:=λ xs H Q=> ∃p ys,xs=[.ref p]/\SqL K H p ys/\ ∀l (ob:Obj),ob.dict=none->H l=none->Q (.ref l) (upd H l (.frz ob (.tup ys)))
theorem vV {X:Cx}:bM X (.type "tuple") (uw X.K):=by
 intro a s i H xs us Q I r h;let#[p,ys,rfl,k,q]:=h;let#[u,rfl,n]:=vals1 r
 cases n;let#[c,g,pl,l]:=I.list k;have f:=g.length;refine call_tuple_list pl.isList (λ h' m=> ?_) (by simp only [Zs]<;>rfl');have d:Inv X a i H { s with heap:=h' }:=I.kept (t':=s.toks) m;have j:Inv X a i (upd H h'.objs.size (.frz { cls:= .type "tuple",data:= .seq c.toArray } (.tup ys))) { s with heap:=h'.push { cls:= .type "tuple",data:= .seq c.toArray } }:=
  d.laid (t':=s.toks) (λ b o e=>Zd _ e) (Zo _) (show ObjOk X.prog X.w _ _ _ (.frz _ (.tup ys)) from #[Heap.get?_push_size _ rfl,l,c,g,IsTup.new _ _])
 show#[.ref h'.objs.size,_,j,rfl,q _ _ rfl (d.hok.fresh (Zo _))]
theorem rG {X:Cx} (K:W.Frag) (a:X.K=K):bM X (.type "tuple") (uw K):=a▸vV
def jE (K:W.Frag):List V->Hp->VK->Prop:=λ xs H Q=> ∃ (a:Addr) (ob:Obj) (zs:List (Addr×Str×V)),xs=[.ref a]/\ob.dict=none/\H a=some (.frz ob (.tup (zs.map λ z=>V.ref z.1)))/\(∀z∈zs,SqT K H z.1 [.str z.2.1,z.2.2])/\(zs.map (·.2.1)).Nodup/\zs.length<=1000/\ ∀r,H r=none->Q (.ref r) (upd H r (.dK (zs.map λ z=>(Sum.inr z.2.1,z.2.2))))
theorem pQ {X:Cx} (x:X.calm=true):bM X (.type "dict") (jE X.K):=by
 intro N s σ H xs us Q I r h;let#[a,ob,zs,rfl,C,G,M,g,Z,q]:=h;let#[u,rfl,rx]:=vals1 r
 cases rx;let#[J,f,ac,O,o',i,B,n,d]:=I.hok a _ G;rw [J] at i
 cases i;have P:=pO O;subst P;have L: ∀z∈zs,∃t k,RelV z.2.2 k/\ ∃o n,s.heap.get? z.1=some o/\o.cls= .type "tuple"/\o.data= .seq ([.str z.2.1 t,k].toArray) n:=λ z m=>by
  let#[is,F,p1,_]:=I.tuple (M z m);let#[o,ho,x,n,W]:=p1
  cases F with
  | cons r2 rr=>
   let#[t,rfl]:=r2
   cases rr with
   | cons r3 r4=>
    cases r4;show#[t,_,r3,o,n,ho,x,W]
 have A: ∃c:List (Addr×Value×Key×Value),c.map (λ w=>Value.ref w.1)=zs.map (λ z=>Value.ref z.1)/\c.map (·.2.2.1)=zs.map (λ z=>(Sum.inr z.2.1:Key))/\KV (zs.map λ z=>((Sum.inr z.2.1:Key),z.2.2)) (c.map λ w=>(w.2.2.1,w.2.2.2))/\ ∀w∈c,iw w.2.2.1 w.2.1=true/\ ∃o n,s.heap.get? w.1=some o/\o.cls= .type "tuple"/\o.data= .seq ([w.2.1,w.2.2.2].toArray) n:=by
  clear G g Z q O d M f;induction zs with
  | nil=>show#[[],rfl,rfl, .nil,by simp]
  | cons z zs ih=>
   let#[c,j,l,p,v]:=ih λ y my=>L y (Zu _ my)
   let#[t,k,F,o,n,R,S,T]:=L z Zp;refine#[(z.1, .str z.2.1 t,Sum.inr z.2.1,k)::c,by rw [Zn,Zn,j],by rw [Zn,Zn,l], .cons #[rfl,F] p,λ w E=> ?_];rcases Zx.mp E with rfl | E
   .exact #[lF _ _,o,n,R,S,T]
   .exact v w E
 let#[c,j,l,p,v]:=A;rw [<- j] at d;have D:c.length=zs.length:=by have:=Zk List.length j;rw [Qb,Qb] at this;show this
 refine Sy.jw (knd:=aY X.prog X.w) (I.ok.hd x) J B C d v (by rw [l,show(zs.map λ z=>(Sum.inr z.2.1:Key))=(zs.map (·.2.1)).map Sum.inr by rw [Zj];rfl];show ö.mpr (Wg (λ {a b} h e=>h (Â e)) g)) (by rw [D,Xc];rfl') λ h' tk U Y=> ?_
 refine#[.ref _,_,I.laid (t':=tk) (o:= .dK (zs.map λ z=>((Sum.inr z.2.1:Key),z.2.2))) Y (Zo _) (show ObjOk X.prog X.w _ _ _ (.dK _) from #[by rw [Qb,Xc];rfl',?_,_,p,U]),rfl,q _ (I.hok.fresh (Zo _))];show Ë.mpr (Ù I.big)
theorem nJ {X:Cx} (K:W.Frag) (a:X.K=K) (b:X.calm=true):bM X (.type "dict") (jE K):=a▸pQ b
end L2
end
section
namespace L2
open PySem PySem.Spec PyProof.Rows PySem.SeqAt
def Ov:V->Bool
 | .non=>true
 | .bl _=>true
 | .int _=>true
 | .str _=>true
 | .ref _=>true
 | _=>false
def Sm (K:W.Frag) (H:Hp):Nat->V->V->Prop
 | 0,x,y=>x=y/\Ov x=true
 | n+1,x,y=>(x=y/\Ov x=true)\/ ∃a b xs ys,x= .ref a/\y= .ref b/\((SqL K H a xs/\SqL K H b ys)\/(SqT K H a xs/\SqT K H b ys))/\xs.length=ys.length/\ ∀ (i:Nat) u v,xs[i]? =some u->ys[i]? =some v->Sm K H n u v
end L2
end
section
namespace L2
open PySem PySem.Spec PyProof.Rows
variable {H:Hp} {σ:St} {h':Heap} {pos:Pos} {tg:Expr} {v:Value} {w:World} {A':Around} {od oe:Obj} {C e y:Addr} {scope:Scope} {bmB:List Value} {fr:Option Addr} {kvs:List (Key×V)} {args ifs:List Expr} {initId what:String} {Q:Flow->Shared->Prop} {mN:Str->Option Value} {pins pl:List (Addr×Obj)} {EV xe:Value->Shared->Prop} {RR:Value->Addr->Result->Shared->Prop}
structure Drw (prog:Program) (w:World) (i l:Addr) (xs:Array Value) (St:Nat->Heap->Prop):Prop where
 keep: ∀k h h',St k h->(∀c,c=i\/c=l-> ∀o,h.get? c=some o->h'.get? c=some o)->St k h'
 item: ∀ (A:Around) (s:Shared) k x (Q:Value->Shared->Prop) (E:Value->Shared->Prop),St k s.heap->xs[k]? =some x->(∀h',St (k+1) h'->Heap.SameBut i s.heap h'->Q x { s with heap:=h' })->
  wpAny (model prog w) A (Builtin.SmallTypes.nextOf (.ref i)) Q E s
 stop: ∀ (A:Around) (s:Shared) k (Q:Value->Shared->Prop) (E:Value->Shared->Prop),A.handled=none->St k s.heap->xs[k]? =none->(∀h' e,Heap.ExtBut i s.heap h'->(∃o,h'.get? e=some o/\o.cls= .type "StopIteration")->E (.ref e) { s with heap:=h' })->
  wpAny (model prog w) A (Builtin.SmallTypes.nextOf (.ref i)) Q E s
def Jp (K:W.Frag) (a b:Addr):It:=
 ⟨λ i H=> ∃xs ys x y,SqT K H a xs/\SqL K H b ys/\xs[i]? =some x/\ys[i]? =some y,
  λ i H v H'=> ∃p x y,H p=none/\v= .ref p/\H'=upd H p (.tup [x,y])/\(∀xs,SqT K H a xs->xs[i]? =some x)/\ ∀ys,SqL K H b ys->ys[i]? =some y,
  λ i H=> ∃xs ys,SqT K H a xs/\SqL K H b ys/\(xs.length<=i\/ys.length<=i)⟩
structure ZipStT (z TI TO i1 i2 a b:Addr) (i:Nat) (h:Heap):Prop where
 hz:IsZip h z TI TO .none
 hTI:IsPair h TI (.ref i1) (.ref i2)
 hTO: ∃u v,IsPair h TO u v
 h1:h.IsTupleIter i1 a i
 h2:h.IsListIter i2 b i
 aTO:a≠TO
def Ow (K:W.Frag) (ta:TA):TI:=λ σ H R=>ta σ H λ vs H1=> ∃a b xs ys,vs=[.ref a, .ref b]/\SqT K H1 a xs/\SqL K H1 b ys/\R (Jp K a b) H1
def Jq (lo:Int) (n:Nat):It:=#[λ i _=>i<n,λ i H x H'=>H'=H/\x= .int (lo-i),λ i _=>n<=i]
def Ox (ta:TA):TI:=λ σ H R=>ta σ H λ vs H1=> ∃i j:Int,vs=[.int i, .int j, .int (-1)]/\(-(2^62)<=i/\i<2^62/\ -(2^62)<=j/\j<2^62)/\R (Jq i (i-j).toNat) H1
abbrev Jr:R2:=λ x y H Q=> ∃i j,x= .str i/\y= .str j/\Q (.bl (decide (j.cps.toList<i.cps.toList))) H
abbrev Js:R2:=λ x y H Q=> ∃i j,x= .str i/\y= .str j/\Q (.bl (!(decide (i.cps.toList<j.cps.toList)))) H
def Jt (K:W.Frag) (a:Addr) (n:Nat):It where
 go:=λ i H=> ∃xs x,SqL K H a xs/\xs.length=n/\i<n/\xs[n-1-i]? =some x
 yld:=λ i H x H'=>H'=H/\ ∀ys,SqL K H a ys->ys[n-1-i]? =some x
 stop:=λ i _=>i=n
def Oz (K:W.Frag) (ta:TA):TI:=λ σ H R=>ta σ H λ vs H1=> ∃a xs,vs=[.ref a]/\SqL K H1 a xs/\R (Jt K a xs.length) H1
section
variable {P:Program} {w:World} {H:Hp} {h:Heap} {a:Addr} {kvs:List (Key×V)} {od:Obj}
theorem HOk.freezeK (x:HOk P w H h) (g:H a=some (.dK kvs)) (j:h.get? a=some od):HOk P w (upd H a (.frz od (.dK kvs))) h:=by
 have d: ∀c y,H c=some (.own y)->upd H a (.frz od (.dK kvs)) c=some (.own y):=λ c y q=>by
  rw [aC (fJ q g (by intro z;cases z))];show q
 have f: ∀c xs,H c=some (.tup xs)->upd H a (.frz od (.dK kvs)) c=some (.tup xs):=λ c xs q=>by
  rw [aC (fJ q g (by intro z;cases z))];show q
 intro b u e;by_cases i:b=a
 .rw [i] at e ⊢;rw [aj] at e
  cases e;show#[j,(x a _ g).stay (λ c v _ q=>q) (λ c q=>d c _ q) λ c xs q=>f c xs q]
 .rw [aC i] at e;show(x b u e).stay (λ c v _ q=>q) (λ c q=>d c _ q) λ c xs q=>f c xs q
theorem pairs_at {knd:PySem.KeyKind P w Key}: ∀ {es:List DictEntry} {us:List (Key×Value)} (i:Nat) (e:DictEntry),Pairs knd es us->es[i]? =some e-> ∃u,us[i]? =some u/\knd.is u.1 e.key=true
 | _,_,0,e, .cons r _ _,h=>by
  simp only [List.getElem?_cons_zero,Option.some.injEq] at h;subst h;show#[_,rfl,r]
 | _,_,i+1,e, .cons _ _ t,h=>by
  simp only [List.getElem?_cons_succ] at h;let#[u,a,b]:=pairs_at i e t h;show#[u,by simpa using a,b]
theorem pairs_len {knd:PySem.KeyKind P w Key}: ∀ {es:List DictEntry} {us:List (Key×Value)},Pairs knd es us->es.length=us.length
 | _,_, .nil=>rfl
 | _,_, .cons _ _ t=>by simp only [Wo,pairs_len t]
end
theorem Cp {k:Key} (h:iw k v=true):RelV (kV k) v:=by
 rcases aV h with ⟨i,t,rfl,rfl⟩ | ⟨x,t,rfl,rfl⟩
 .exact #[t,rfl]
 .exact #[t,rfl]
theorem Inv.freezeK {X:Cx} {s:Shared} {a:Addr} (I:Inv X pins σ H s) (c:H a=some (.dK kvs)) (d:s.heap.get? a=some od):
  Inv X pins σ (upd H a (.frz od (.dK kvs))) s:=by
 refine I.call' (ch:=[]) rfl #[λ b o q _ _ _=>q,λ b o q _ _ _=>#[o.slots,q],λ b o q n _=> ?_,λ b o q _=>#[o,q],λ b xs q=> ?_,λ b o u q=> ?_,λ b f q=>#[([].toArray),?_]] (I.hok.freezeK c d) I.bare λ b e=>nomatch e
 .rw [aC (λ z=>by rw [z,c] at n;cases n)];show n
 .rw [aC (fJ q c (by intro z;cases z))];show q
 .rw [aC (fJ q c (by intro z;cases z))];show q
 .rw [aC (fJ q c (by intro z;cases z)),q];simp
def vW (od:Obj) (a:Addr):It where
 go:=λ i H=> ∃kvs,H a=some (.frz od (.dK kvs))/\i<kvs.length
 yld:=λ i H v H'=>H'=H/\ ∀kvs,H a=some (.frz od (.dK kvs))-> ∃k x,kvs[i]? =some (k,x)/\v=kV k
 stop:=λ i H=> ∃kvs,H a=some (.frz od (.dK kvs))/\kvs.length<=i
theorem kj {P:Program} {K:W.Frag} (m a:Addr) {n:Array DictEntry} {ep:Nat} (f:od.data= .dict n ep):Turn P w K tg (vW od a) [m] m (λ i h=>h.IsKeyIter m a i n.size ep) where
 mem:=by simp
 obj:=λ i h st b l=>by
  let#[o,e,c,d]:=st;have e':b=m:=by simpa using l
  rw [e'];show#[o,e,λ v z=>by rw [d] at z;cases z]
 keep:=λ i h h' st k=>by
  let#[o,e,r]:=st;show#[o,k m (by simp) o e,r]
 item:=by
  intro X R Y Q hc i j s σ H E I F st U;subst R Y Q;let#[kvs,D,hi]:=U;let#[A,_,_,us,g,o,J,G,p,_,t,_,C,_]:=(show ObjOk X.prog X.w H s.heap a (.frz od (.dK kvs)) from I.hok a _ D);rw [A] at p
  cases p;rw [f] at t
  cases t;have hsz:n.size=us.length:=by rw [<- Xa];show pairs_len C
  have hl:kvs.length=us.length:=Ì g;let#[L,M,f2,N,O,f5]:=F m (by simp);refine xR st A f () λ h' B hs=> ?_
  have I1:Inv X j σ H { s with heap:=h',toks:=s.toks }:=I.turned (λ b o l e=>hs.extBut b o l e) L M N O f5;let#[o,e,S,d]:=id B;let#[#[k,x],#[k',y],hk,hx,r1,_]:=lW i g hi;have T:RelV (kV k) (n[i]'(by rfl')).key:=by
   let#[u,Z,h2]:=pairs_at i (n[i]'(by rfl')) C (by rw [Wx,Array.getElem?_eq_getElem]);rw [hx] at Z
   cases Z;rw [eZ] at h2;rw [show k=k' from r1];show Cp h2
  refine⟨_,rfl,oM (s:={ s with heap:=h' }) e S d (by decide) ⟨kV k,H,I1,T,⟨rfl,λ ac q=> ?_⟩,B,λ b l=>(F b l).1⟩⟩;rw [D] at q
  cases q;show#[k,x,hk,rfl]
 done:=by
  intro X R Y Q hc i j s σ H E I F st U;subst R Y Q;let#[kvs,D,hi]:=U;let#[A,_,_,us,g,o,J,G,p,_,t,_,C,_]:=(show ObjOk X.prog X.w H s.heap a (.frz od (.dK kvs)) from I.hok a _ D);rw [A] at p
  cases p;rw [f] at t
  cases t;have hsz:n.size=us.length:=by rw [<- Xa];show pairs_len C
  have hl:kvs.length=us.length:=Ì g;let#[L,M,f2,N,O,f5]:=F m (by simp);show Cd (I.ok.hd hc) st A f () λ h' kk=>#[rfl,I.turned (t':=s.toks) (λ b o l e=>kk b o l e) L M N O f5]
 self:=λ _ _ _ _ _ st h=>wpAny_pyIter_keyiter st h
def rH (tl:TE):TI:=λ σ H R=>tl σ H λ x H1=> ∃a kvs,x= .ref a/\((H1 a=some (.dK kvs)/\ ∀od,R (vW od a) (upd H1 a (.frz od (.dK kvs))))\/ ∃od,H1 a=some (.frz od (.dK kvs))/\R (vW od a) H1)
theorem yg {X:Cx} {l:Expr} {t:TE} (z:PE X l t):PI X tg l (rH t):=by
 intro j s C H R I h;refine bA (z j s C H _ I h) λ v c ⟨x,H1,f,B,A⟩=> ?_
 let#[a,kvs,rfl,q]:=A
 cases B;rcases q with ⟨ea,q⟩ | ⟨od,ea,q⟩
 .obtain ⟨_,d,us,r,o,y,ep,g,n,i,_,u,_⟩:=(show ObjOk X.prog X.w H1 c.heap a (.dK kvs) from f.hok a _ ea);refine pK d #[o,g,n.1] g i ?_;have k:=f.freezeK ea g;refine#[c.heap.objs.size,[c.heap.objs.size],_,_,_,rfl,k.kept (t':=c.toks) λ b o e=>Zd _ e,kj _ a i,#[_,Zw _ rfl,rfl,rfl],λ b p=> ?_,q o];rw [Za.mp p];show k.fpOk (Zo _) (k.hok.fresh (Zo _))
 .obtain ⟨m,_,d,us,r,o,y,ep,g,n,i,_,u,_⟩:=(show ObjOk X.prog X.w H1 c.heap a (.frz od (.dK kvs)) from f.hok a _ ea);rw [m] at g
  cases g;refine pK d #[od,m,n.1] m i ?_;refine#[c.heap.objs.size,[c.heap.objs.size],_,_,_,rfl,f.kept (t':=c.toks) λ b o e=>Zd _ e,kj _ a i,#[_,Zw _ rfl,rfl,rfl],λ b p=> ?_,q];rw [Za.mp p];show f.fpOk (Zo _) (f.hok.fresh (Zo _))
def FP (K:W.Frag):V->List V->Hp->VK->Prop:=λ x vs H Q=> ∃ (s:Str) (a:Addr) (ys:List Str),x= .str s/\vs=[.ref a]/\SqL K H a (ys.map V.str)/\(ys.map (·.length)).sum+ys.length*s.length<=16777216/\Q (.str (Txt.join s ys.reverse)) H
section
variable {X:Cx}
def Qt (K:W.Frag) (to:TE) (t:TA):TE:=λ σ H Q=>to σ H λ x H1=>Iw K "str" x H1/\t σ H1 λ xs H2=>FP K x xs H2 Q
end
def OD (X:Cx) (E:XK) (body:List Stmt) (tb:TS):Prop:= ∀ (pins:List (Addr×Obj)) (xe:Value->Shared->Prop) (σ:St),(∀H1 s1 e s',Inv (g8 X pins xe) [] σ H1 s1->iK X.prog X.w X.stack H1 s1 E e s'->xe e s')->
 ∀s H D,Inv (g8 X pins xe) [] σ H s->tb D σ H->wpAny (model X.prog X.w) X.A (execs body X.env) (SP (g8 X pins xe) [] D) xe s
section
variable {X:Cx} {body:List Stmt} {b₀:Stmt} {suite:List Stmt} {c n:Str} {np hpos pos:Pos} {tb th:TS} {Cc:Addr} {i:Nat}
def yh (K:W.Frag) (Cc:Addr) (i:Nat) (Eh:XK) (tb th:TS):TS:=λ D σ H=>tb D σ H/\ ∀C H',Eh C none H'->PySem.W.exmOne K C (.ref Cc)=some true/\ ∀x,H' x=none->th (behind i D) (σ.set i (some (.ref x))) (upd H' x (mY x C))
theorem Cq (T:XK) (E:X.N.Nodup) (J:X.N[i]? =some n) (j:X.env.scope.names.lookup n=some .local) (hg:Gl X c) (hm:X.mg c=some (.ref Cc)) (m:X.stack=X.env::X.outer) (ag:X.env.frame=some X.env.locals)
  (hb:OD X T body tb) (hh: ∀x pins,PSs (qZ X x pins) (b₀::suite) th) (ae:(c==("__debug__":Str))=false:=by decide):
  PS X (.Try body [.ExceptHandler (some (.Name c np)) (some n) (b₀::suite) hpos] [] [] pos) (yh X.K Cc i T tb th):=by
 intro pins s S H D I h;let#[h1,h2]:=h;refine wpAny_Try_except ?_
 let xe:Value->Shared->Prop:=λ e O=>wpAny (model X.prog X.w) X.A (noteFrame e X.env) (λ _ P=>wpAny (model X.prog X.w) X.A (setFlight e none) (λ _ k=>wpAny (model X.prog X.w) X.A (handleBy e X.env [.ExceptHandler (some (.Name c np)) (some n) (b₀::suite) hpos]) (SP X pins D) X.xe k) X.xe P) X.xe O
 have hp: ∀H1 M e s',Inv (g8 X pins xe) [] S H1 M->iK X.prog X.w X.stack H1 M T e s'->xe e s':=by
  intro H1 M e s' I1 hx;let#[x,rfl,#[C,a0,B,U,ho,G,un,L,r,Z,sx,d1,d2,q],cn]:=hx;have fr:X.A.frames=some (X.env::X.outer):=by rw [<- m];show I.ok.frames
  have ac:Heap.FlyingW B (X.env::X.outer) x C a0 s'.heap:=by rw [<- m];show Z
  let#[af,ah]:=h2 C U q;change wpAny (model X.prog X.w) X.A (noteFrame (.ref x) X.env) _ X.xe s';refine wpAny_looks_onW fr ag ac λ h4 F Q=> ?_
  refine wpAny_landsW F λ h5 p R=> ?_
  have t:Heap.FlyingW B X.stack x C a0 h5:=by rw [m];show p
  have I5:Inv X pins S (upd U x (mY x C)) { s' with heap:=h5 }:=(jB (Y:=g8 X pins xe) I1 ho G un L r Z sx d1 d2 t (Q.trans R)).tryOut;let#[oe,vs,e1,e2,e3,_]:=p.first;have LT:PySem.W.Looks (model X.prog X.w) h5 (typeOf (.ref x)) C:=e2▸(PySem.W.Looks.ld e1).andThen .now;refine wpAny_handleBy_cons (codeAny_handlers_test (dI (X:=qZ X x pins) (I5.hanIn x) hg hm ?_ ae)) (by intro z;cases z);refine(PySem.W.exm_one I5.kIn LT af).here ?_;change codeAny _ _ (.handlers (.ref x) [.ExceptHandler none (some n) (b₀::suite) hpos] X.env) _ _;refine codeAny_handlers_suite_as (lands_againW p λ h6 ad ai=> ?_);have y:Heap.FlyingW B X.stack x C a0 h6:=by rw [m];show ad
  have I6:Inv X pins S (upd U x (mY x C)) { s' with heap:=h6 }:=(jB (Y:=g8 X pins xe) I1 ho G un L r Z sx d1 d2 y ((Q.trans R).trans ai)).tryOut;refine fQ (X:=qZ X x pins) (I6.hanIn x) E J (.inl j) (v:= .ref x) rfl (λ s7 I7=> ?_) (.inr j);refine Yd (hh x pins [] s7 _ _ (behind i D) I7 (ah x r)) (λ f s8 l=> ?_) (λ _ _ z=>z.elim);change wpAny (model X.prog X.w) X.A (do bindName X.env n .none;unbindBehindTheSuite X.env n hpos) (λ _ k=>SP X pins D f k) X.xe s8
  cases f with
  | next=>let#[a,b,d,g]:=l;show gA (d.hanOut I.ok) E J j λ s9 o=>#[_,b,o,g]
  | brk=>let#[a,b,d,g]:=l;show gA (d.hanOut I.ok) E J j λ s9 o=>#[_,b,o,g]
  | cont=>let#[a,b,d,g]:=l;show gA (d.hanOut I.ok) E J j λ s9 o=>#[_,b,o,g]
  | ret u=>let#[v,a,b,d,r8,g]:=l;show gA (d.hanOut I.ok) E J j λ s9 o=>#[v,_,b,o,r8,g]
 refine Yd (hb pins xe S hp s H D (I.tryIn _) h1) (λ f M l=> ?_) (λ e M z=>z)
 cases f with
 | next=>let#[a,b,d,g]:=l;show Wv #[a,b,d.tryOut,g]
 | brk=>let#[a,b,d,g]:=l;show#[a,b,d.tryOut,g]
 | cont=>let#[a,b,d,g]:=l;show#[a,b,d.tryOut,g]
 | ret u=>let#[v,a,b,d,r8,g]:=l;show#[v,a,b,d.tryOut,r8,g]
end
def iU (B:Heap) (l:List Env) (x:Addr) (C a0:Value) (h:Heap):Prop:=B.StaysIn h/\B.get? x=none/\h.FunFrames B l/\ ∃fl,h.TracedAtW B x C a0 fl
section
variable {M:Model} {A:Around} {E:Value->Shared->Prop} {s:Shared} {B:Heap} {env env':Env} {l outer:List Env} {L x:Addr} {C a0:Value} {Q:Unit->Shared->Prop}
theorem vX (h:env'.frame=env.frame):noteFrame (.ref x) env'=noteFrame (.ref x) env:=by
 unfold noteFrame PySem.frameOf;rw [h]
theorem m7 (m:A.frames=some (env::outer)) (y:env.frame=some L) (a:iU B (env::outer) x C a0 s.heap)
  (u: ∀h',iU B (env::outer) x C a0 h'->s.heap.UpToSlots h'->Q Unit.unit { s with heap:=h' }):wpAny M A (noteFrame (.ref x) env) Q E s:=by
 let#[n,i,F,z,oe,vs,T,N,G,w,#[h,D],v,r,p,l,k,g,t]:=id a;subst h;unfold noteFrame;simp only [y];refine Qr (Wi w v r ?_);rw [if_pos (show(Value.ref T !=Value.none)=true from by simp)];refine Qr (Wi k g t ?_);by_cases j:(z==rawInt L)=true
 .rw [if_pos j];show Zi (u s.heap a (Heap.UpToSlots.refl _))
 .rw [if_neg j];refine Qr (Ý k g (Xz.mp t).1 ?_);have other: ∀b,b≠T->(s.heap.update T (Obj.mapFields (·.setIfInBounds 3 Value.none))).get? b=s.heap.get? b:=λ b e=>Yy _ _ (Ne.symm e)
  have c: ∀b o,s.heap.get? b=some o->(∀vs,o.data≠ .fields vs)->b≠T:=λ b o e d q=>by
   rw [q,k] at e;injection e with e;subst e;show d G g
  refine wpAny_entryW m (F.of_keeps λ b o e d=>#[o,(other b (c b o e d)).trans e,rfl]) y ((other x (Ne.symm l)).trans w)
   (λ b o f=>(other b λ q=>by rw [q,p] at f;cases f).trans (n b o f)) i v (Xz.mp r).1 D
   λ h' ⟨H,I,J,K⟩=>u h' #[H,i,I,_,J] λ b o e d=>K b o ((other b (c b o e d)).trans e) d
theorem gf (a:iU B l x C a0 s.heap) (z: ∀h',iU B l x C a0 h'->s.heap.UpToSlots h'->Q Unit.unit { s with heap:=h' }):wpAny M A (setFlight (.ref x) fr) Q E s:=by
 let#[r,p,D,F,oe,vs,T,G,w,v,k,u,t,m,j,n,g,y]:=a;have h:3<w.size:=(Xz.mp y).1;have other: ∀b,b≠T->(s.heap.update T (Obj.mapFields (·.setIfInBounds 3 (fr.elim Value.none λ f=>rawInt f)))).get? b=s.heap.get? b:=
  λ b d=>Yy _ _ (Ne.symm d)
 have c: ∀b o,s.heap.get? b=some o->(∀vs,o.data≠ .fields vs)->b≠T:=λ b o d e q=>by
  rw [q,n] at d;injection d with d;subst d;show e w g
 unfold setFlight;refine Qr (Wi v u t ?_);rw [if_pos (show(Value.ref T !=Value.none)=true from by simp)];refine Ý n g h (z _ ⟨λ b o i=>(other b λ q=>by rw [q,m] at i;cases i).trans (r b o i),p,
  D.of_keeps λ b o d e=>⟨o,(other b (c b o d e)).trans d,rfl⟩,(fr.elim Value.none λ f=>rawInt f),?_⟩ λ b o d e=>⟨o.slots,(other b (c b o d e)).trans d⟩)
 show#[oe,vs,T,_,_,(other x (Ne.symm j)).trans v,k,u,t,m,j,Xf _ n (â (Wr g _)),Wr g _,by simp [h]]
theorem pR {f:Type} {Q:f->Shared->Prop} (a:iU B l x C a0 s.heap) (d: ∀h',iU B l x C a0 h'->s.heap.UpToSlots h'->E (.ref x) { s with heap:=h' }):
  wpAny M A (PySem.passOn what (.ref x) env:Sem f) Q E s:=by
 let#[_,_,_,j,oe,vs,T,k,m,i,e,h,g,_]:=id a;unfold PySem.passOn;refine Qr (Wi i h g ?_);rw [if_neg (show ¬ ((Value.ref T==Value.none)=true) from by simp)]
 first
  | show Qr (Zi (Qr (gf a λ h' b c=>Ĉ (d h' b c))))
  | show Qr (gf a λ h' b c=>Ĉ (d h' b c))
theorem vY (d:A.frames=some (env::outer)) (i:env.frame=some L) (a:iU B (env::outer) x C a0 s.heap)
  (g: ∀h',Heap.FlyingW B outer x C a0 h'->s.heap.UpToSlots h'->Q Unit.unit { s with heap:=h' }):wpAny M A (leaving env (.ref x)) Q E s:=by
 unfold leaving;refine Qr (m7 d i a λ p f m=> ?_);let#[e,c,j,n,t]:=f;refine wpAny_setFlight_noneW e j t λ h' k1 k2 k3 l=> ?_
 let#[_,_,k2]:=k2;show g h' #[k1,c,k2,k3] (m.trans λ b o h k=>#[o.slots,l b o h k])
theorem yj {c:Heap} (k:c.StaysIn B) {h:Heap} (a:iU B l x C a0 h):iU c l x C a0 h:=by
 let#[m,n,p,r,oe,vs,T,t,u,d,e,f,g,i,j]:=a;have fresh: ∀b,B.get? b=none->c.get? b=none:=λ b s=>by
  cases hq:c.get? b with
  | none=>rfl
  | some o'=>have:=k b o' hq;rw [s] at this;cases this
 show#[λ b o q=>m b o (k b o q),fresh _ n,PySem.W.funFrames_base k p,r,oe,vs,T,t,u,d,e,f,g,fresh _ i,j]
end
def km (B:Heap) (l:List Env) (x:Addr) (C a0:Value) (h:Heap):Prop:=iU B l x C a0 h/\Cn x h
section
variable {M:Model} {A:Around} {E:Value->Shared->Prop} {s:Shared} {B:Heap} {env:Env} {l outer:List Env} {L x:Addr} {C a0:Value} {Q:Unit->Shared->Prop}
theorem yl (b:A.frames=some (env::outer)) (f:env.frame=some L) (a:km B (env::outer) x C a0 s.heap)
  (d: ∀h',km B (env::outer) x C a0 h'->s.heap.UpToSlots h'->Q Unit.unit { s with heap:=h' }):wpAny M A (noteFrame (.ref x) env) Q E s:=
 Yd ((jA _ _).any (m7 (Q:=λ _ s'=> ∃h',s'={ s with heap:=h' }/\iU B (env::outer) x C a0 h'/\s.heap.UpToSlots h') (E:=λ _ _=>False) b f a.1 λ h' n up=>⟨h',rfl,n,up⟩) a.2)
  (λ _ s' ⟨⟨h',e,n,up⟩,c⟩=>by subst e;show d h' #[n,c] up) λ _ _ z=>z.1.elim
theorem rJ {b:Type} {Q:b->Shared->Prop} (a:km B l x C a0 s.heap) (f: ∀h',km B l x C a0 h'->s.heap.UpToSlots h'->E (.ref x) { s with heap:=h' }):
  wpAny M A (PySem.passOn what (.ref x) env:Sem b) Q E s:=
 Yd ((vL _ _ _).any (pR (Q:=λ _ _=>False) (E:=λ e s'=>e= .ref x/\ ∃h',s'={ s with heap:=h' }/\iU B l x C a0 h'/\s.heap.UpToSlots h') a.1 λ h' n up=>⟨rfl,h',rfl,n,up⟩) a.2)
  (λ _ _ z=>z.1.elim) λ e s' ⟨⟨q,h',d,n,up⟩,c⟩=>by subst q d;show f h' #[n,c] up
end
theorem kE {B h h':Heap} {D:Addr} (k: ∀b o,b≠D->h.get? b=some o->h'.get? b=some o): ∀ {l:List Env},D∉frs l->h.FunFrames B l->h'.FunFrames B l
 | [],_,_=>trivial
 | env::r,hD,⟨hk,⟨L,o,hf,hn,ho,hd⟩,hr⟩=>by
  have e:frs (env::r)=L::frs r:=by change List.filterMap _ _=_;rw [List.filterMap_cons_some hf];rfl
  rw [e] at hD;show#[hk,#[L,o,hf,hn,k L o (λ z=>hD (by rw [z];show Zp)) ho,hd],kE k (λ z=>hD (Zu _ z)) hr]
structure Air (P:Program) (w:World) (fp:List Addr) (outer:List Env) (H:Hp) (s:Shared) (E:XK) (x:Addr) (C a0:Value) (B:Heap) (H':Hp) (s':Shared):Prop where
 os:s'.os=s.os
 bare:AllBare s'.gens
 un:Un (frs outer) fp H H' s.heap s'.heap
 hok:HOk P w H' s'.heap
 nx:H' x=none
 air:km B outer x C a0 s'.heap
 new:x∈fp\/s.heap.get? x=none
 d1: ∀b o,s.heap.get? b=some o->b∉frs outer->b∉fp-> ∃u,B.get? b=some u
 d2: ∀b o,H' b=some o-> ∃u,B.get? b=some u
 ex:E C none H'
section
variable {P:Program} {w:World} {fp:List Addr} {outer:List Env} {H H':Hp} {s s':Shared} {E:XK} {x:Addr} {C a0:Value} {B h':Heap}
theorem Air.step (a:Air P w fp outer H s E x C a0 B H' s') (n:km B outer x C a0 h') (A:s'.heap.UpToSlots h'):Air P w fp outer H s E x C a0 B H' { s' with heap:=h' }:=by
 have g: ∀b o,s'.heap.get? b=some o->(∃v,B.get? b=some v)->h'.get? b=some o:=λ b o e ⟨v,p⟩=>by
  have z:=a.air.1.1 b v p;rw [e] at z
  cases z;show n.1.1 b o p
 have slots: ∀b o,s'.heap.get? b=some o->b∈frs outer-> ∃k,h'.get? b=some { o with slots:=k }:=λ b o e h=>by
  let#[_,o',m,y]:=a.air.1.2.2.1.mem h;rw [e] at m
  cases m;show A b o e y
 refine#[a.os,a.bare,#[λ b o q z h f=> ?_,λ b o q z h f=> ?_,a.un.free,λ b o q f=> ?_,a.un.tups,a.un.frzs,a.un.tbls],λ c o e=> ?_,a.nx,n,a.new,a.d1,a.d2,a.ex]
 .exact g b o (a.un.keep b o q z h f) (a.d1 b o q h f)
 .obtain ⟨k,t⟩:=a.un.slot b o q z h f;let#[l,i]:=slots b _ t h;show#[l,i]
 .obtain ⟨r,i⟩:=a.un.there b o q f;by_cases h:b∈frs outer
  .obtain ⟨k,u⟩:=slots b r i h;show#[_,u]
  .exact #[_,g b r i (a.d1 b o q h f)]
 .refine (a.hok c o e).stay (λ d v j z=>g d v z ?_) (λ _ z=>z) λ _ _ z=>z
  rcases j with rfl | j
  .exact a.d2 _ _ e
  .exact a.d2 _ _ j
theorem Air.other {D:Addr} (a:Air P w fp outer H s E x C a0 B H' s') (hD:s.heap.objs.size<=D) (m:H' D=none) (hf:D∉frs outer) (h: ∃u,B.get? D=some u) (n: ∀o vs,s'.heap.get? D=some o->o.data≠ .fields vs) (k:Heap.SameBut D s'.heap h'):
  Air P w fp outer H s E x C a0 (PySem.W.hideAll B [D]) H' { s' with heap:=h' }:=by
 have hB:(PySem.W.hideAll B [D]).StaysIn B:=λ b o q=>Ô _ q
 have lt: ∀b o,s.heap.get? b=some o->b≠D:=λ b o e z=>absurd (Zl e) (by rw [z];show ì.mpr hD)
 have f: ∀b o,b≠D->s'.heap.get? b=some o->h'.get? b=some o:=λ b o i e=>k.extBut b o i e
 let#[U,X,Y,Z,oe,vs,T,oT,ts,p,K,r,t,L,M,N,O,Q]:=yj hB a.air.1;let#[_,g2,_,_,_,_,T',_,_,A,_,F,G,I,_]:=a.air.1;let#[uD,h]:=h;have hx:D≠x:=λ z=>by rw [z,g2] at h;cases h
 have l:T≠D:=λ z=>by
  rw [p] at A;cases A;rw [r] at F;cases F;rw [t] at G;cases G;rw [z,h] at I;cases I
 refine#[a.os,a.bare,#[λ b o q z i g=>f b o (lt b o q) (a.un.keep b o q z i g),λ b o q z i g=> ?_,a.un.free,λ b o q g=> ?_,a.un.tups,a.un.frzs,a.un.tbls],λ c o e=> ?_,a.nx,#[#[λ b o q=> ?_,X,kE f hf Y,Z,oe,vs,T,oT,ts,f _ _ (Ne.symm hx) p,K,r,t,L,M,f _ _ l N,O,Q],a.air.2.keeps λ y v ⟨o,e,vs,J,h2⟩=>#[o,f _ _ (λ z=>n o vs (by rw [<- z];show e) J) e,vs,J,h2]],a.new,λ b o q i g=> ?_,λ b o q=> ?_,a.ex]
 .obtain ⟨sl,R⟩:=a.un.slot b o q z i g;show#[sl,f _ _ (lt b o q) R]
 .obtain ⟨o2,S⟩:=a.un.there b o q g;show#[o2,f _ _ (lt b o q) S]
 .refine (a.hok c o e).stay (λ d v j z=>f d v (λ y=> ?_) z) (λ _ z=>z) λ _ _ z=>z
  subst y;rcases j with rfl | j
  .rw [m] at e;cases e
  .rw [m] at j;cases j
 .exact f b o (λ z=>by rw [z,PySem.W.hideAll_none _ Zp] at q;cases q) (U b o q)
 .obtain ⟨u,e⟩:=a.d1 b o q i g;show#[u,Yz _ e (by intro z;show lt b o q (Za.mp z))]
 .obtain ⟨u,e⟩:=a.d2 b o q;show#[u,Yz _ e (by intro z;rw [Za.mp z,m] at q;cases q)]
end
section
variable {P:Program} {w:World} {K:W.Frag} {mg:Str->Option Value} {base:Heap} {N:List Str} {qual:Str} {sc:Scope} {f:Addr} {cd:Value} {A:Around} {outer:List Env} {s₀:Shared} {H₀:Hp} {E E':XK}
def Cr (X:Cx) (E:XK):Prop:= ∀ (pins:List (Addr×Obj)) (σ:St) (H:Hp) (s s':Shared) (fp:List Addr) (x:Addr) (C a0:Value) (B:Heap) (H':Hp),Inv X pins σ H s->(∀b∈fp,b∈X.ex\/X.s₀.heap.objs.size<=b)->Air X.prog X.w fp X.stack H s E x C a0 B H' s'->X.xe (.ref x) s'
theorem iV:Cr (gZ (iK P w) P w K mg base N qual sc f cd A outer s₀ H₀ E) E:=by
 intro Z σ H s s' M x C a0 B U I Q a;have fr:(A.deeper (envOfC qual sc s₀.heap.objs.size f cd)).frames=some (envOfC qual sc s₀.heap.objs.size f cd::outer):=I.ok.frames;have u:Un (frs outer) [] H₀ H s₀.heap s.heap:=I.base;have un:Un (frs (envOfC qual sc s₀.heap.objs.size f cd::outer)) M H U s.heap s'.heap:=a.un;have G:km B (envOfC qual sc s₀.heap.objs.size f cd::outer) x C a0 s'.heap:=a.air;have J: ∀b o,s.heap.get? b=some o->b∉frs (envOfC qual sc s₀.heap.objs.size f cd::outer)->b∉M-> ∃u,B.get? b=some u:=a.d1;have i: ∀b o,s₀.heap.get? b=some o->b∉M:=λ b o e h=>by
  rcases Q b h with z | z
  .cases z
  .exact absurd (Zl e) (ì.mpr z)
 change wpAny (model P w) (A.deeper (envOfC qual sc s₀.heap.objs.size f cd)) (leaving (envOfC qual sc s₀.heap.objs.size f cd) (.ref x)) (λ _ l=>iK P w outer H₀ s₀ E (.ref x) l) (λ F l=>iK P w outer H₀ s₀ E F l) s';refine CX1.leaves G.2 ?_;refine vY fr rfl G.1 λ r p up=> ?_
 have S: ∀b o,s₀.heap.get? b=some o->b∉frs outer->b∉frs (envOfC qual sc s₀.heap.objs.size f cd::outer):=λ b o e h W=>by
  rw [eN] at W;rcases Zx.mp W with z | z
  .exact absurd (Zl e) (by rw [z];show Xp _)
  .exact h z
 have k: ∀b o,s'.heap.get? b=some o->(∃v,B.get? b=some v)->r.get? b=some o:=λ b o e ⟨v,X⟩=>by
  have z:=G.1.1 b v X;rw [e] at z
  cases z;show p.1 b o X
 have slots: ∀b o,s'.heap.get? b=some o->b∈frs (envOfC qual sc s₀.heap.objs.size f cd::outer)-> ∃T,r.get? b=some { o with slots:=T }:=λ b o e h=>by
  let#[_,o',F,hd]:=G.1.2.2.1.mem h;rw [e] at F
  cases F;show up b o e hd
 refine#[C,a0,B,U,a.os.trans I.os,a.bare,#[λ b o q n h g=> ?_,λ b o q n h g=> ?_,λ b o q n g=> ?_,λ b o q g=> ?_,λ b xs q=>un.tups b xs (u.tups b xs q),λ b o v q=>un.frzs b o v (u.frzs b o v q),λ b ps q=> ?_],λ c o e=> ?_,a.nx,p,?_,λ b o q h=> ?_,a.d2,a.ex]
 .have j:=u.keep b o q n h g;have R:=u.free b o q n g;show k b o (un.keep b o j R (S b o q h) (i b o q)) (J b o j (S b o q h) (i b o q))
 .obtain ⟨T,j⟩:=u.slot b o q n h g;have R:=u.free b o q n g;have t:b∈frs (envOfC qual sc s₀.heap.objs.size f cd::outer):=by rw [eN];show Zu _ h
  let#[ac,m]:=un.slot b _ j R t (i b o q);let#[D,L]:=slots b _ m t;show#[D,L]
 .obtain ⟨o',j⟩:=u.there b o q g;show un.free b o' j (u.free b o q n g) (i b o q)
 .obtain ⟨o',j⟩:=u.there b o q g;let#[Y,m]:=un.there b o' j (i b o q);by_cases h:b∈frs (envOfC qual sc s₀.heap.objs.size f cd::outer)
  .obtain ⟨T,L⟩:=slots b Y m h;show#[_,L]
  .exact #[_,k b Y m (J b o' j h (i b o q))]
 .obtain ⟨m1,j⟩:=u.tbls b ps q;let#[m2,m]:=un.tbls b _ j;show#[m1++m2,by rw [m,Ó]]
 .refine (a.hok c o e).stay (λ d v O z=>k d v z ?_) (λ _ z=>z) λ _ _ z=>z
  rcases O with rfl | O
  .exact a.d2 _ _ e
  .exact a.d2 _ _ O
 .cases z:s₀.heap.get? x with
  | none=>rfl
  | some o=>
   let#[o',j]:=u.there x o z (by simp);rcases a.new with y | y
   .exact absurd y (i x o z)
   .rw [y] at j;cases j
 .obtain ⟨o',j⟩:=u.there b o q (by simp);show J b o' j (S b o q h) (i b o q)
end
abbrev fP (X:Cx) (sc:Scope) (N':List Str) (cl:List (Str×Addr)) (C:Addr) (s:Shared) (H:Hp) (fp:List Addr) (pins:List (Addr×Obj)) (xe:Value->Shared->Prop):Cx:={ blk X sc N' cl C s H fp pins with xe:=xe }
section
variable {prog:Program} {w:World} {A:Around} {R:Result->Shared->Prop} {s:Shared} {EE:Value->Shared->Prop}
theorem lD {l a g:Expr} {z k:Value} {env:Env} (I:Nat->Shared->Prop) (B: ∀e s,EE e s->notedBy (model prog w) A env (λ e s'=>R (.error e) s') e s)
  (y: ∀n s,I n s->wpAny (model prog w) A (pyNext z) (λ r s₁=>match r with
   | none=>R (.ok .next) s₁
   | some v=>wpAny (model prog w) A (letOwnedTupleGo a z v) (λ _ b=>wpAny (model prog w) A (assign a env v) (λ _ s₂=>
     wpAny (model prog w) A (forIn ifs true λ c r=>if r=true then do let ok <- isTrue c env (eval c env);pure (ForInStep.yield ok) else pure (ForInStep.yield r)) (λ ok d=>
      if ok=true then wpAny (model prog w) A (eval l env) (λ x i=>
       wpAny (model prog w) A (call (.builtin "list.append") [k,x]) (λ _ j=> ∃m,m<n/\I m j) EE i) EE d
      else ∃m,m<n/\I m d) EE s₂) EE b) EE s₁) EE s)
  (n:Nat) (h:I n s):
  codeAny (model prog w) A (.compLoop (.ListComp l [#[a,g,ifs,0]] scope pos) 0 z k env) R s:=by
 refine codeAny_loop rfl I (λ n s C=> ?_) n h;change wpAny _ A ((compTurn (.ListComp l [#[a,g,ifs,0]] scope pos) 0 z k env).onRaise (λ x=>do noteFrame x env;theTreesLotGoes x)) _ _ s;refine wpAny_noted ?_;rw [compTurn_list];refine Yd (E:=EE) ?_ (λ _ _ q=>q) B;refine Qr (Wj (Qr (Yd (y n s C) (λ r s₁ h₁=> ?_) λ _ _ h'=>h')))
 cases r with
 | none=>show Zi h₁
 | some v=>
  refine Qr (Yd h₁ (λ _ b o=> ?_) λ _ _ h'=>h');refine Qr (Yd o (λ _ s₂ p=>Qr (Yd p (λ ok d f=> ?_) λ _ _ h'=>h')) λ _ _ h'=>h')
  cases ok with
  | false=>show Zi #[rfl,f]
  | true=>
   show Qr (Qr (Yd f (λ x i t=>Qr (Yd t (λ _ j u=>Zi (Zi #[rfl,u])) λ _ _ h'=>h')) λ _ _ h'=>h'))
end
section
variable {X:Cx} {pins:List (Addr×Obj)} {σ:St} {H2:Hp} {s₂:Shared} {tg iter elt:Expr} {ifs:List Expr} {sc:Scope} {pos:Pos} {N':List Str} {κ:List (Option Nat)} {cl:List (Str×Addr)} {it:Addr} {fp:List Addr} {tn:Nat->Heap->Prop} {J:It} {g:TG} {tc:TT} {te:TE} {E:XK}
theorem Inv.blkIn {σ':St} {s:Shared} (I:Inv (blk X sc N' cl C s₂ H2 fp pins) pl σ' H s):Inv (fP X sc N' cl C s₂ H2 fp pins xe) pl σ' H s:=
 ⟨⟨I.ok.mod,I.ok.kind,I.ok.glob,I.ok.blt,I.ok.above,I.ok.inj,I.ok.has,I.ok.cab,I.ok.hd,I.ok.frames,I.ok.stk,I.ok.exf,I.ok.bs,I.ok.bsz,I.ok.noex,I.ok.exfs,I.ok.funs,I.ok.frf⟩,
  I.os,I.bare,I.base,I.loc,I.cell,I.free,I.freeC,I.pin,I.hok,I.len⟩
def gF (X:Cx) (fp:List Addr) (H2:Hp) (s₂:Shared) (E:XK) (C:Addr) (e:Value) (s':Shared):Prop:=
 ∃ (x:Addr) (cc a0:Value) (B:Heap) (H':Hp),e= .ref x/\Air X.prog X.w fp X.stack H2 s₂ E x cc a0 B H' s'/\H' C=none/\(∃u,B.get? C=some u)/\ ∃m,s'.heap.Ns C m
theorem rK (l:C∉frs X.stack):dR (iK X.prog X.w) (fP X sc N' cl C s₂ H2 fp pins (gF X fp H2 s₂ E C)) E:=by
 intro pl σ' H s e s' I h;let#[x,rfl,#[t,a0,B,j,G,F,un,g,J,d,K,a,y,q],v]:=h;have i:Un (frs X.stack) fp H2 H s₂.heap s.heap:=I.base;have un:Un (frs X.stack) [] H j s.heap s'.heap:=un;have a: ∀b o,s.heap.get? b=some o->b∉frs X.stack-> ∃u,B.get? b=some u:=a;have p:H C=none:=I.free;let#[m,n,_]:=I.loc;let#[r,k]: ∃o,s.heap.get? C=some o:=by
  have:=n;let#[o,_,_,A,_]:=this;show#[o,A]
 refine#[x,t,a0,B,j,rfl,#[G.trans I.os,F,i.trans (un.mono (λ _ z=>z) (λ _ z=>nomatch z)),g,J,#[#[d.1,d.2.1,d.2.2.1,_,d.2.2.2],v],?_,λ b o e D f=> ?_,y,q],un.free C r k p (by simp),a C r k l,m,n.at' λ o e=> ?_]
 .by_cases f:x∈fp
  .exact .inl f
  .refine .inr ?_
   cases z:s₂.heap.get? x with
   | none=>rfl
   | some o=>
    let#[o',c]:=i.there x o z f;rw [K] at c;cases c
 .obtain ⟨o',c⟩:=i.there b o e f;show a b o' c D
 .exact un.keep C o e p l (by simp)
theorem ym (hc:X.calm=true) (I:Inv X pins σ H2 s₂) (T:Turn X.prog X.w X.K tg J fp it tn) (st:tn 0 s₂.heap) (O: ∀b∈fp,jt X pins H2 b)
  (S:CScope X.env.scope sc) (ay:capOk κ N' X.N sc=true) (G: ∀x c,cl.lookup x=some c->X.env.cells.lookup x=some c) (a1: ∀x c,X.env.cells.lookup x=some c->(x,NameKind.free)∈sc.names->cl.lookup x=some c)
  (hg: ∀C,C∉frs X.stack->PG (fP X sc N' cl C s₂ H2 fp pins (gF X fp H2 s₂ E C)) tg g) (hi: ∀C,C∉frs X.stack->qT (fP X sc N' cl C s₂ H2 fp pins (gF X fp H2 s₂ E C)) ifs tc) (he: ∀C,C∉frs X.stack->PE (fP X sc N' cl C s₂ H2 fp pins (gF X fp H2 s₂ E C)) elt te)
  {W:Nat->Nat->List V->Hp->Prop} {Q:VK} {m0:Nat} (w0:W 0 m0 [] H2)
  (a7: ∀i m ys H,W i m ys H->(J.stop i H/\ ∀p,H p=none->Q (.ref p) (upd H p (.lst ys)))\/
   (J.go i H/\ys.length<sizeLine/\ ∃N:List V->Hp->Prop,(∀a8 H',N a8 H'-> ∃m',m'<m/\W (i+1) m' a8 H')/\ ∀x H',J.yld i H x H'->g x (cap κ σ) H' λ ar H2=>mU (cap κ σ) ar/\tc ar H2 λ b H3=>if b=true then te ar H3 λ y H4=>N (ys++[y]) H4 else N ys H3))
  (am:X.stack=X.env::X.outer) (bk:X.env.frame=some X.env.locals)
  (be: ∀D C e s1,s₂.heap.objs.size<=C->C∉frs X.stack->gF X fp H2 s₂ E C e s1->RR (.ref D) C (.error e) s1)
  (bg: ∀D C H' s1,Left X pins σ C H' s1->Q (.ref D) H'->RR (.ref D) C (.ok .next) s1):
  wpAny (model X.prog X.w) X.A (newList []) (λ aw F=>wpAny (model X.prog X.w) X.A (newFunctionEnv sc X.env.globals cl [] X.env.qual none .none (some X.env)) (λ ad a6=>
   codeAny (model X.prog X.w) X.A (.compStart (.ListComp elt [#[tg,iter,ifs,0]] sc pos) 0 (.ref it) aw { ad with scope:=relabel sc X.env }) (RR aw ad.locals) a6) EV F) EV s₂:=by
 refine We (wpAny_newFunctionEnv S.nocell (by intro y hy;simp at hy) (λ h₁ l j=> ?_) S.kind);dsimp only at l j ⊢;generalize hH2:s₂.heap.push { cls:= .type "list",dict:=none,data:= .seq ([]:List Value).toArray }=P2 at l j ⊢;have R:P2.objs.size=s₂.heap.objs.size+1:=by rw [<- hH2,Heap.size_push]
 generalize hCe:P2.objs.size=C at l j R ⊢;generalize hDe:s₂.heap.objs.size=D at R ⊢;have U:D≠C:=by rw [R];show Yn (Nat.lt_succ_self _)
 have hC:s₂.heap.objs.size<=C:=by rw [hDe,R];show ó _
 have hD:s₂.heap.objs.size<=D:=by rw [hDe];show Zo _
 have f: ∀b,b<s₂.heap.objs.size->b≠C/\b≠D:=λ b k=>#[Nat.ne_of_lt (Zt k hC),Yn (Zt k hD)]
 have a3: ∀b o,s₂.heap.get? b=some o->h₁.get? b=some o:=λ b o e=>j.extBut b o (f b (Zl e)).1 (Zd _ (hH2▸Zd _ e))
 have ax:h₁.get? D=some { cls:= .type "list",data:= .seq ([]:List Value).toArray ([]:List Value).length }:=by
  have q:P2.get? s₂.heap.objs.size=some { cls:= .type "list",data:= .seq ([]:List Value).toArray 0 }:=hH2▸Zw _ rfl;rw [hDe] at q;show j.extBut _ _ U (Zd _ q)
 have fl: ∀b∈fp,b<s₂.heap.objs.size:=λ b k=>by
  let#[o,e,_]:=T.obj 0 _ st b k;show Zl e
 have L:tn 0 h₁:=T.keep 0 _ _ st λ b _ o e=>a3 b o e
 have P:C∉frs X.stack:=λ z=>by
  rcases Zx.mp (I.stkSub C z) with y | y
  .exact absurd I.lt (by rw [show X.env.locals=C from y.symm];show ì.mpr hC)
  .exact absurd y (I.nofs hC)
 have IB: ∀tk,Inv (fP X sc N' cl C s₂ H2 fp pins (gF X fp H2 s₂ E C)) [] (cap κ σ) H2 { s₂ with heap:=h₁,toks:=tk }:=λ tk=>(ul I O fl S ay G a1 hC l a3).blkIn
 have ai: ∀x c,cl.lookup x=some c->c<s₂.heap.objs.size:=λ x c Y=>by
  let#[v,o,e,_]:=I.cell x c (G x c Y);show Zl e
 have ag: ∀p∈X.pn++pins,p.1<s₂.heap.objs.size:=λ p t=>Zl (I.pin p t).1
 have ah: ∀ {H':Hp} {pl:List (Addr×Obj)},(∀b∈fp,H' b=none)->(∀p∈pl,p.1=D)-> ∀b∈fp,jt (fP X sc N' cl C s₂ H2 fp pins (gF X fp H2 s₂ E C)) pl H' b:=λ {H' pl} hn bp b k=>by
  refine#[hn b k,(f b (fl b k)).1,λ z=> ?_, .inl k,λ x c Y=>(O b k).2.2.2.2.1 x c (G x c Y),λ p t=> ?_]
  .rcases Zx.mp (I.stkSub b z) with z | z
   .exact (O b k).2.1 z
   .exact (O b k).2.2.1 z
  .rcases Zh.mp t with z | z
   .exact (O b k).2.2.2.2.2 p z
   .rw [bp p z];show Ne.symm (f b (fl b k)).2
 have a4: ∀ {s':Shared} {σ':St} {H':Hp} {o:Obj},Inv (fP X sc N' cl C s₂ H2 fp pins (gF X fp H2 s₂ E C)) [] σ' H' s'->s'.heap.get? D=some o->H' D=none->(∀v,o.data≠ .cell v)->Inv (fP X sc N' cl C s₂ H2 fp pins (gF X fp H2 s₂ E C)) [(D,o)] σ' H' s':=λ {s' σ' H' o} I' e n d=>
  I'.pins_of λ p t=>by
   rw [Za.mp t];refine#[e,n,U,λ z=> ?_,d];have z':D<s₂.heap.objs.size:=by
    rcases Zx.mp (I.stkSub D z) with y | y
    .have y':D=X.env.locals:=y;rw [y'];show I.lt
    .exact absurd y (I.nofs hD)
   show absurd z' (ì.mpr hD)
 have af : ∀ F : Shared, F = { s₂ with heap := h₁, toks := s₂.toks + ([] : List (Str × Value)).length } ->
   codeAny (model X.prog X.w) X.A (.compLoop (.ListComp elt [#[tg,iter,ifs,0]] sc pos) 0 (.ref it) (.ref D) (compEnvC sc cl C X.env)) (RR (.ref D) C) F:=by
  rintro F rfl;have al: ∀e s,gF X fp H2 s₂ E C e s->notedBy (model X.prog X.w) X.A (compEnvC sc cl C X.env) (λ e s'=>RR (.ref D) C (.error e) s') e s:=by
   rintro e s ⟨x,cc,a0,B,H',rfl,a,nC,bC,m,hn⟩;change wpAny (model X.prog X.w) X.A (noteFrame (.ref x) (compEnvC sc cl C X.env)) _ _ s;rw [vX (env:=X.env) (env':=compEnvC sc cl C X.env) rfl];have fr:X.A.frames=some (X.env::X.outer):=by rw [<- am];show I.ok.frames
   have ha:km B (X.env::X.outer) x cc a0 s.heap:=by rw [<- am];show a.air
   refine yl fr bk ha λ h' n up=>be D C _ _ hC P #[x,cc,a0,B,H',rfl,a.step (by rw [am];show n) up,nC,bC,m,up.ns hn]
  refine lD (EE:=gF X fp H2 s₂ E C) (λ n s'=> ∃ (i:Nat) (ys:List V) (h:List Value) (H':Hp),Inv (fP X sc N' cl C s₂ H2 fp pins (gF X fp H2 s₂ E C)) [] (cap κ σ) H' s'/\tn i s'.heap/\(∀b∈fp,H' b=none)/\
   s'.heap.get? D=some { cls:= .type "list",data:= .seq h.toArray h.length }/\Vals ys h/\H' D=none/\ys.length<=sizeLine/\W i n ys H') al ?_ m0
   #[0,[],[],H2,IB _,L,λ b k=>(O b k).1,ax, .nil,I.hok.fresh hD,Yv _,w0]
  rintro n s3 ⟨i,ys,h,H3,I3,a5,bc,d3,v3,n3,z3,w3⟩;have av:=a4 I3 d3 n3 (by intro v z;cases z);have ff:=ah (pl:=[(D,({ cls:= .type "list",data:= .seq h.toArray h.length }:Obj))]) bc (λ p t=>by rw [Za.mp t]);rcases a7 i n ys H3 w3 with ⟨stop,qn⟩ | ⟨go,hlt,N,hN,step⟩
  .refine bA (T.done (fP X sc N' cl C s₂ H2 fp pins (gF X fp H2 s₂ E C)) rfl rfl rfl hc i _ s3 (cap κ σ) H3 _ av ff a5 stop) λ r s4 ⟨hr,I4⟩=> ?_
   subst hr;change RR (.ref D) C (.ok .next) s4;let#[dD,nD,_]:=I4.pin (D,_) (Yb _ Zp);have nC:H3 C=none:=I4.free;have Z:=I4.base;have bn:HOk X.prog X.w (upd H3 D (.lst ys)) s4.heap:=HOk.track I4.hok nD #[z3,h,h.length,v3,dD];have un:Un (frs X.stack) fp H2 (upd H3 D (.lst ys)) s₂.heap s4.heap:=
    ⟨Z.keep,Z.slot,λ b o q n Y=>by rw [aC (f b (Zl q)).2];show Z.free b o q n Y,Z.there,
     λ b xs q=>by rw [aC (aP (Z.tups b xs q) nD)];show Z.tups b xs q,
     λ b o x q=>by rw [aC (aP (Z.frzs b o x q) nD)];show Z.frzs b o x q,
     λ b ps q=>by
      let#[m1,e1]:=Z.tbls b ps q;show⟨m1,by rw [aC (aP e1 nD)];show e1⟩⟩
   have IX:Inv X pins σ (upd H3 D (.lst ys)) s4:=I.call' (by show I4.os) un bn I4.bare λ b k=>#[(O b k).2.2.2.1,(O b k).2.1,(O b k).2.2.2.2]
   let#[m4,bl,_]:=I4.loc;refine bg D C _ s4 #[IX,#[m4,bl],by rw [aC (Ne.symm U)];show nC,Ne.symm (f _ I.lt).1,I.nofs hC,Zy I.sz hC,λ x c Y=> ?_,λ p t=>(f _ (ag p t)).1] (qn D nD);let#[v,o,e,_]:=I.cell x c Y;show(f c (Zl e)).1
  .refine bA (T.item (fP X sc N' cl C s₂ H2 fp pins (gF X fp H2 s₂ E C)) rfl rfl rfl hc i _ s3 (cap κ σ) H3 _ av ff a5 go) λ r s4 ⟨u,hr,h4⟩=> ?_
   subst hr;refine bA h4 λ _ s5 ⟨x,H5,I5,r5,y5,ap,bd⟩=> ?_
   have bb:=ah (pl:=[(D,({ cls:= .type "list",data:= .seq h.toArray h.length }:Obj))]) bd (λ p t=>by rw [Za.mp t]);have ba:=I5.pinned bb (T.obj _ _ ap);refine bA (hg C P _ s5 (cap κ σ) H5 x u _ ba r5 (step x H5 y5)) λ _ s6 ⟨ac,H6,I6,M,q6⟩=> ?_
   refine bA (hi C P _ s6 ac H6 _ I6 q6) λ ok s7 ⟨H7,I7,q7⟩=> ?_
   have ae: ∀ {a9:St} {H8:Hp} {s8:Shared},Inv (fP X sc N' cl C s₂ H2 fp pins (gF X fp H2 s₂ E C)) ([(D,({ cls:= .type "list",data:= .seq h.toArray h.length }:Obj))]++j4 fp s5.heap) a9 H8 s8->
     tn (i+1) s8.heap/\(∀b∈fp,H8 b=none)/\s8.heap.get? D=some { cls:= .type "list",data:= .seq h.toArray h.length }/\H8 D=none:=λ {a9 H8 s8} I8=>by
    refine#[T.keep _ _ _ ap λ b k o e=>(I8.pin (b,o) (Yb _ (Yb _ (cT k e)))).1,λ b k=> ?_,?_]
    .obtain ⟨o,e,d⟩:=T.obj _ _ ap b k;show(I8.pin (b,o) (Yb _ (Yb _ (cT k e)))).2.1
    .obtain ⟨e,n,_⟩:=I8.pin (D,_) (Yb _ (Yw _ Zp));show#[e,n]
   cases ok with
   | false=>
    have an:N ys H7:=by simpa using q7
    let#[m',hm,w7]:=hN _ _ an;let#[t8,f8,d8,n8]:=ae I7;change ∃m,m<n/\_;show#[m',hm,i+1,ys,h,H7,(I7.pins_of (pins':=[]) (λ p t=>nomatch t)).weak M.1.symm M.2,t8,f8,d8,v3,n8,z3,w7]
   | true=>
    have an:te ac H7 λ y H4=>N (ys++[y]) H4:=by simpa using q7
    change wpAny _ _ (eval elt (compEnvC sc cl C X.env)) _ _ s7;refine bA (he C P _ s7 ac H7 _ I7 an) λ v s8 ⟨y,H8,I8,r8,q8⟩=> ?_
    let#[m',hm,w8]:=hN _ _ q8;let#[t8,f8,d8,n8]:=ae I8;refine append_at (hsz:=by rw [Zs,<- v3.length];show z3) d8 λ h9 a2 bi=> ?_
    have I9:Inv (fP X sc N' cl C s₂ H2 fp pins (gF X fp H2 s₂ E C)) [] ac H8 { s8 with heap:=h9,toks:=s8.toks }:=by
     refine(I8.pins_of (pins':=[]) (λ p t=>nomatch t)).turned (λ b o k e=>a2.extBut b o k e) n8 U (.inr hD) (λ x c Y=>(f c (ai x c Y)).2) λ p t=> ?_
     have bo:p∈X.pn++pins:=by simpa using t
     show(f _ (ag p bo)).2
    refine#[m',hm,i+1,ys++[y],h++[v],H8,I9.weak M.1.symm M.2,T.keep _ _ _ t8 λ b k o e=>a2.extBut b o (f b (fl b k)).2 e,f8,?_,Vals.append v3 (.cons r8 .nil),n8,?_,w8]
    .show h9.get? D=_;rw [bi];simp
    .rw [Zf,Yf];show hlt
 show codeAny_compStart_list (af _ rfl) (T.self X.A 0 _ _ _ L (af _ rfl))
theorem yo {wi:TI} (κ:List (Option Nat)) (i:List Str) (hl:Cr X E) (L:X.stack=X.env::X.outer) (G:X.env.frame=some X.env.locals) (hc:X.calm=true) (K:PI X tg iter wi) (S:CScope X.env.scope sc) (j:capOk κ i X.N sc=true)
  (hg: ∀cl C s H fp pins xe,PG (fP X sc i cl C s H fp pins xe) tg g) (hi: ∀cl C s H fp pins xe,qT (fP X sc i cl C s H fp pins xe) ifs tc)
  (he: ∀cl C s H fp pins xe,dR (iK X.prog X.w) (fP X sc i cl C s H fp pins xe) E->PE (fP X sc i cl C s H fp pins xe) elt te)
  (hs: ∀x,foldedSetIterable iter X.env x=pure x:=by intro _;rfl):PE X (.ListComp elt [#[tg,iter,ifs,0]] sc pos) (lu κ wi g tc te):=by
 intro pins s σ H Q I h;let#[cl,f,k,p]:=mR (sc:=sc) (env:=X.env) λ y hy hf=>I.ok.has y.1 (S.frees y hy hf)
 rw [eval_ListComp];refine Ï (use:=none) rfl hs f S.kind S.locs (bA (K pins s σ H _ I h) λ v s1 h1=>bA h1 λ ad A h2=> ?_);let#[it,fp,tn,J,H2,e,O,T,M,Y,W,#[m0,w0],t]:=h2;subst e;refine ym (E:=E) hc O T M Y S j k p (λ C _=>hg cl C A H2 fp pins _) (λ C _=>hi cl C A H2 fp pins _) (λ C c=>he cl C A H2 fp pins _ (rK c)) w0 t L G ?_ λ D C F s1 l q=> ?_
 .rintro D C e s3 Z c ⟨x,cc,a0,B,F,rfl,a,nC,P,m,u⟩;have r: ∀o vs,s3.heap.get? C=some o->o.data≠ .fields vs:=λ o vs e z=>by
   let#[o',_,_,U,d',_]:=u;rw [e] at U;cases U;rw [z] at d';cases d'
  refine#[m,u,λ h' d R _=>rJ (a.other Z nC c P r d).air λ ac n up=> ?_];show hl pins σ H2 A _ fp x cc a0 _ F O (λ b hb=>(Y b hb).2.2.2.1) ((a.other Z nC c P r d).step n up)
 .obtain ⟨m,u⟩:=l.ns;show#[m,u,λ h' d=>#[V.ref D,F,l.go d,rfl,q]]
end
section
variable {X:Cx} {n k i:Nat} {x y:Str} {ps:List Str} {sp:Sp} {p py pos pos':Pos} {e:Expr} {es:List Expr} {t:TA} {E:XK}
theorem Cu (c:CalX X.prog X.w X.K X.mg X.base n x ps sp) (S:Room k X.A) (Q:n<=k) (O:Gl X x) (J: ∀pins xe,PA (g8 X pins xe) (e::es) t) (G:X.N.Nodup) (P:X.N[i]? =some y) (d:X.env.scope.names.lookup y=some .local)
  (j:(x==("__debug__":Str))=false:=by decide)
  (M:starEach (e::es) X.env=(false,eval e X.env)::starEach es X.env:=by rfl) (l:(backTo pos (starEach es X.env)).any (·.1)=false:=by rfl)
  (T:swapsWith (.Call (.Name x p) (e::es) [] pos) (some (.Name y py)) pos'.line X.env=pure false:=by rfl):OD X E [.Assign [.Name y py] (.Call (.Name x p) (e::es) [] pos) pos'] (aO (aJ sp [] E t) (aA i)):=by
 intro pins xe o U s H D I h;let#[f,fd,F,L,Y,R]:=c.ex;have m:wpAny (model X.prog X.w) X.A (eval (.Call (.Name x p) (e::es) [] pos) X.env) (EP (g8 X pins xe) [] o λ v H1=>aA i v o H1 D.nx) xe s:=by
  refine Xx (dI (X:=g8 X pins xe) I O R ?_ j);refine PySem.W.callWith_K (h₀:=X.base) I.ok.mod.kin Y (bA (J pins xe pos [] s o H _ I h) λ us g ⟨vs,H1,a,r,q⟩=>#[a.kIn,?_]) M l;have B:Vals (vs++[]) (us++[]):=r.append .nil;have d:(us++[]).length=ps.length:=by rw [<- B.length];show F.len _ _ _ _ q
  refine wpAny_call (ë (F.run X.A X.stack g H1 #[us,[]] (us++[]) (vs++[]) _ E (S.mono Q) a.env0 (L g us a.kIn d) B q) λ r' s' b=> ?_)
  cases r' with
  | error e'=>show U H1 g e' s' a b
  | ok fl=>
   cases fl with
   | ret u=>show a.after b
   | next=>show False.elim b
   | brk=>show False.elim b
   | cont=>show False.elim b
 refine ã (wpAny_Assign_Name (bA m λ v g ⟨z,H1,a,r1,Z⟩=> ?_) T);show fQ (X:=g8 X pins xe) a G P (.inl d) r1 (λ s2 C=>Wv #[_,H1,C,Z]) (.inr d)
end
theorem gP:entryFor table "proto.unchain"=some Builtin.«proto.unchain»:=entryFor_of_fast (by kernel_rfl)
theorem Ch.keepsM {h:Heap}: ∀ {l:List Addr},(∀y∈l,∀v,F2 h y v->F2 h' y v)->Ch h l->Ch h' l
 | [_],k,c=>k _ Zp _ c
 | _::_::_,k,c=>#[k _ Zp _ c.1,Ch.keepsM (λ y a=>k y (Zu _ a)) c.2]
section
variable {prog:Program} {w:World} {A:Around} {E:Value->Shared->Prop} {s:Shared}
theorem ik {e:Addr} {R:Result->Shared->Prop} (g:R (.ok (.ret .none)) s): ∀ (O:List Addr) (x:Addr) (m:List Addr) (z:Addr) (S:List Addr) (b:Bool),z::S=m++x::O->(z::S).Nodup->Ch s.heap (z::S)->Ch s.heap (x::O)->e∉z::S->(b=true->m≠[])->codeAny (model prog w) A (.builtin "proto.unchain" #[[.ref e, .ref x, .ref z, .bool b],[]]) R s
 | [],x,m,z,S,b,_,_,_,c,_,_=>by
  let#[o,k,vs,i,d]:=c;refine Wc gP ?_;unfold Builtin.«proto.unchain»;dsimp only;refine Qr (Wi k i d ?_);rw [if_pos (show(Value.none==Value.none)=true by simp)];show Zi g
 | v :: O, x, m, z, S, b, hS, hn, hc, c, he, hb => by
  let#[#[o,k,vs,i,d],p]:=c;refine Wc gP ?_;unfold Builtin.«proto.unchain»;dsimp only;refine Qr (Wi k i d ?_);have y:v∈m++x::v::O:=by simp
  have B:v≠e:=λ q=>he (by rw [hS,<- q];show y)
  have C:v≠z:=λ q=>by
   subst q
   cases m with
   | nil=>
    let#[rfl,rfl]:=ù hS;show(Ym.mp hn).1 (Zp)
   | cons a m=>
    let#[rfl,rfl]:=ù hS;show(Ym.mp hn).1 (by simp)
  rw [if_neg (show ¬ (Value.ref v==Value.none)=true by simp),if_neg (show ¬ (Value.ref v==Value.ref e)=true by simpa using B),if_neg (show ¬ (Value.ref v==Value.ref z)=true by simpa using C)]
  cases b with
  | true=>
   cases m with
   | nil=>show absurd rfl (hb rfl)
   | cons a m=>
    let#[t,f]:=ù hS;subst t;replace f:S=m++x::v::O:=f;subst f;let#[u,T,r]: ∃u T,m++x::v::O=u::T:=by
     cases m with
     | nil=>show#[_,_,rfl]
     | cons u m=>show#[_,_,rfl]
    rw [r] at hc hn he;let#[#[D,l,E,j,n],h]:=hc;rw [if_pos rfl];refine Qr (Wi l j n ?_);show Zi #[by first | rfl | decide | kernel_rfl,ik g O v (m++[x]) u T _ (by rw [<- r,ñ];rfl) (Ym.mp hn).2 h p (λ q=>he (Zu _ q)) (λ q=>by cases q)]
  | false=>
   rw [if_neg (by decide)];refine Qr (Zi ?_);show Zi #[by first | rfl | decide | kernel_rfl,ik g O v (m++[x]) z S _ (by rw [hS,ñ];rfl) hn hc p he (λ _ q=>by simp at q)]
theorem nM {l:List Addr} {Q:Value->Shared->Prop} (b:(y::l).Nodup) (c:Ch s.heap (y::l)) (a:e∉y::l) (h:Q .none s):wpAny (model prog w) A (runValue (.builtin "proto.unchain" #[[.ref e, .ref y, .ref y, .bool false],[]])) Q E s:=
 wpAny_runValue (ik h l y [] y l _ rfl b c c a λ q=>by cases q)
theorem pU {b:Type} {l:List Addr} {vs:Array Value} {Q:b->Shared->Prop} (g:A.handled=some (.ref y)) (i:(y::l).Nodup) (c:Ch s.heap (y::l)) (a:e∉y::l) (f:s.heap.get? e=some oe) (d:oe.data= .fields vs) (hsz:2<vs.size)
  (h:E (.ref e) { s with heap:=s.heap.update e (Obj.mapFields (·.setIfInBounds 2 (.ref y))) }):wpAny (model prog w) A (raiseNew (.ref e):Sem b) Q E s:=by
 unfold raiseNew;refine Qr (wpAny_handled ?_);rw [g];dsimp only;rw [if_pos (show(Value.ref y !=Value.ref e)=true by simpa using λ q:y=e=>a (by rw [q];show Zp))];refine Qr (Yt (nM i c a ?_));change wpAny _ _ (do setField (.ref e) 2 (.ref y);throw (.ref e)) _ _ _;show Qr (Ý f d hsz (Ĉ h))
variable {nm q:Str} {C N:Addr} {bs bm:List Value} {hdct:Bool} {sn:List Str} {sub:List Value} {ab:Bool} {col:Option Bool} {dd:Option Addr} {k0 k1 k2 k3 k5:Option Value} {newId:String} {env:Env}
theorem kI {x c:Sem Value} (f:bm.contains (.type "BaseException")=true) (L:A.handled=some (.ref y))
  (h:wpAny (model prog w) A x (λ v s₁=> ∃e t l,v= .ref e/\s₁.heap.get? C=some (excClassObj nm q C N bs bm hdct sn sub ab col dd k0 k1 k2 k3 k5 newId)/\
   s₁.heap.get? e=some { cls:= .ref C,data:= .fields ([.ref t, .none, .none, .none, .bool false, .none].toArray) }/\e∉y::l/\(y::l).Nodup/\Ch s₁.heap (y::l)/\wpAny (model prog w) A c (λ v s₂=>v= .none/\s₂=s₁) E s₁/\
   ∀h',h'.get? e=some { cls:= .ref C,data:= .fields ([.ref t, .none, .ref y, .none, .bool true, .none].toArray) }->(∀b o,b≠e->s₁.heap.get? b=some o->h'.get? b=some o)->E (.ref e) { s₁ with heap:=h' }) E s):
  wpAny (model prog w) A (raiseStmt env (some x) (some c)) Q E s:=by
 have B:(Value.ref C::bm).contains (.type "BaseException")=true:=by rw [List.contains_cons,f,Bool.or_true]
 unfold raiseStmt;refine Qr (Yd h (λ v s₁ h₁=> ?_) λ _ _ x=>x);let#[e,t,l,rfl,k,n,D,M,H,K,J]:=h₁;dsimp only;refine Qr (Yt (Yd K (λ v s₂ m=> ?_) λ _ _ x=>x));let#[rfl,j]:=m;subst j;refine Qr (Zi ?_);let#[p,g,d,P,O]:=s₂;repeat (first | with_reducible refine ø n ?_ | with_reducible refine ø k ?_ | (with_reducible refine wpAny_isSubtype_exc k ?_;rw [B]) | wp_step)
 have u:e≠C:=λ z=>by
  subst z;rw [n] at k
  cases k
 have I:=Xf (Obj.mapFields (·.setIfInBounds 3 Value.none)) (show p.get? e=some _ from n) rfl;have j:=Xf (Obj.mapFields (·.setIfInBounds 4 (Value.bool true))) I rfl;have i: ∀b,b≠e->((p.update e (Obj.mapFields (·.setIfInBounds 3 Value.none))).update e (Obj.mapFields (·.setIfInBounds 4 (Value.bool true)))).get? b=p.get? b:=λ b a=>by
  rw [Yy _ _ (Ne.symm a),Yy _ _ (Ne.symm a)]
 refine ø ((i C (Ne.symm u)).trans k) ?_;refine Zi ?_;rw [if_pos (show((excClassObj nm q C N bs bm hdct sn sub ab col dd k0 k1 k2 k3 k5 newId).cls==Value.type "type")=true by rfl)];refine Zi ?_;unfold setFlight;refine Qr (Qr (Wi j rfl (x:= .none) rfl ?_));rw [if_neg (by decide)];refine Zi ?_;refine pU L M ?_ D j rfl (by simp) (J _ ?_ λ b o a q=> ?_)
 .refine H.keeps λ b v ⟨o,r,vs,F,G⟩=> ?_
  by_cases a:b=e
  .subst a;rw [show p.get? b=some _ from n] at r
   cases r
   cases F;show#[_,j,_,rfl,G]
  .exact #[o,(i b a).trans r,vs,F,G]
 .exact Xf (Obj.mapFields (·.setIfInBounds 2 (Value.ref y))) j rfl
 .rw [Yy _ _ (Ne.symm a)];show(i b a).trans q
structure MadeIn (h h':Heap) (e y:Addr) (C:Value) (t:Addr):Prop where
 keeps: ∀b o,h.get? b=some o->h'.get? b=some o
 new:h.get? e=none
 there:h'.get? e=some { cls:=C,data:= .fields ([.ref t, .none, .ref y, .none, .bool true, .none].toArray) }
 cn:Cn e h'
theorem vZ {B:String} (F:ExcBaseFacts B newId initId bmB) {x:Str} {S c G:Pos} {kk:Nat}
  (k:bm.contains (.type "BaseException")=true) (Y:A.handled=some (.ref y)) (j:(backTo c (starEach args env)).any (·.1)=false) (M:mN "__init__"=none)
  (h:wpAny (model prog w) A (eval (.Name x S) env) (λ f s₁=>f= .ref C/\wpAny (model prog w) A (evalArgs (.ref C) true (backTo c (starEach args env)) [])
   (λ a s₂=>a.kw=[]/\a.pos.length<=sizeLine/\s₂.heap.get? C=some (excClassObj nm q C N bs bm hdct sn sub ab col dd k0 k1 k2 k3 k5 newId)/\s₂.heap.Ns N mN/\OwnTail s₂.heap bmB bm/\Cn y s₂.heap/\
    ∀h' e t,MadeIn s₂.heap h' e y (.ref C) t->E (.ref e) { s₂ with heap:=h' }) E s₁) E s):
  wpAny (model prog w) A (exec (.Raise (some (.Call (.Name x S) args [] c)) (some (.Constant .none kk G)) pos) env) Q E s:=by
 rw [arm_exec_Raise];simp only [evalOpt,Option.map];refine Qr (Wj (kI (C:=C) (nm:=nm) (q:=q) (N:=N) (bs:=bs) (bm:=bm) (hdct:=hdct) (sn:=sn) (sub:=sub) (ab:=ab) (col:=col) (dd:=dd) (k0:=k0) (k1:=k1) (k2:=k2) (k3:=k3) (k5:=k5) (newId:=newId) k Y ?_));refine Qr (Yd (wpAny_Call_ofName (Yd h (λ f s₁ h₁=> ?_) λ _ _ x=>x)) (λ v U D=>Qr (Wj (Zi D))) λ _ _ x=>x);let#[rfl,h₁]:=h₁;unfold callWith;refine Qr (Yt (Yd h₁ (λ a s₂ i=>Qr (Wj ?_)) λ _ _ x=>x));let#[O,H]:=a;let#[L,u,K,Z,T,#[l,R,cl],i]:=i;obtain rfl:H=[]:=L;let#[hp,g,d,tk,os]:=s₂;simp only [j];refine Qr (wpAny_keeperOf_exc K ?_);refine Qr (wpAny_call_exc_subT (hrest:=u) F T K Z M λ h' e p=>Qr (Yt (wpAny_point (Zi ?_))));let#[t,ht,_,_]:=p.there;have n:e∉y::l:=λ m=>by
  let#[o,W]:=cl.there e m;have:=p.new;rw [W] at this;cases this
 have r:=cl.keeps λ b v ⟨o,I,f⟩=>#[o,p.keeps _ _ I,f]
 refine#[e,t,l,rfl,p.keeps _ _ K,ht,n,R,r,Qr (Zi (Qr (Wj (Zi #[rfl,rfl])))),λ J P k2=>i J e t #[λ b o z=>k2 b o (λ y=> ?_) (p.keeps b o z),p.new,P,y::l,Ym.mpr #[n,R],#[_,P,_,rfl,rfl],?_]]
 .subst y;have:=p.new;rw [z] at this;cases this
 .refine Ch.keepsM (λ b X v ⟨o,I,f⟩=>#[o,k2 b o (λ z=> ?_) I,f]) r;subst z;show n X
end
section
variable {M:Model} {A:Around} {E:Value->Shared->Prop} {s:Shared} {B:Heap} {env:Env} {l outer:List Env} {L x e:Addr} {C a0:Value} {Q:Unit->Shared->Prop}
theorem rM (a:km B l x C a0 s.heap) (b: ∀h',km B l x C a0 h'->s.heap.UpToSlots h'->Q Unit.unit { s with heap:=h' }):wpAny M A (setFlight (.ref x) fr) Q E s:=
 Yd ((eG _ _).any (gf (Q:=λ _ s'=> ∃h',s'={ s with heap:=h' }/\iU B l x C a0 h'/\s.heap.UpToSlots h') (E:=λ _ _=>False) a.1 λ h' n up=>⟨h',rfl,n,up⟩) a.2)
  (λ _ s' ⟨⟨h',e,n,up⟩,c⟩=>by subst e;show b h' #[n,c] up) λ _ _ z=>z.1.elim
theorem rN {vs:Array Value} (b:A.frames=some (env::outer)) (i:env.frame=some L) (m:s.heap.FunFrames B (env::outer)) (d:B.StaysIn s.heap) (a:B.get? e=none) (h:s.heap.get? e=some oe) (g:oe.data= .fields vs) (k:vs[0]? =some a0) (f:vs[1]? =some .none) (j:Cn e s.heap)
  (l: ∀h',km B (env::outer) e oe.cls a0 h'->s.heap.UpToSlots h'->Q Unit.unit { s with heap:=h' }):wpAny M A (noteFrame (.ref e) env) Q E s:=by
 refine Yd ((jA _ _).any (Q:=λ _ s'=> ∃h',s'={ s with heap:=h' }/\iU B (env::outer) e oe.cls a0 h'/\s.heap.UpToSlots h') (E:=λ _ _=>False) ?_ j)
  (λ _ s' ⟨⟨h',e,n,up⟩,c⟩=>by subst e;show l h' #[n,c] up) λ _ _ z=>z.1.elim
 unfold noteFrame;simp only [i];refine Qr (Wi h g f ?_);rw [if_neg (by decide)];show wpAny_entryW b m i h d a g (Xz.mp f).1 k λ h' ⟨o,p,q,r⟩=>#[h',rfl,#[o,a,p,_,q],r]
end
section
variable {X:Cx} {E:XK}
theorem yp (U:Cr X E) (f:X.stack=X.env::X.outer) (F:X.env.frame=some X.env.locals) {s:Shared} (I:Inv X pins σ H s) {t:Addr} {C:Value} (m:MadeIn s.heap h' e y C t) (R:E C none H) (Q:A'.frames=X.A.frames):
  notedBy (model X.prog X.w) A' X.env (cameBackBy (model X.prog X.w) X.A X.env X.xe) (.ref e) { s with heap:=h' }:=by
 have P:X.A.frames=some (X.env::X.outer):=by rw [<- f];show I.ok.frames
 have G:s.heap.FunFrames X.base X.stack:=I.stack;have N: ∀b∈frs X.stack,H b=none:=I.stkFree;let#[B,g]: ∃B,B=PySem.W.hideAll s.heap (frs X.stack):=#[_,rfl];have h:B.StaysIn s.heap:=λ b o q=>Ô _ (by rw [<- g];show q)
 have l:s.heap.FunFrames B X.stack:=by rw [g];show PySem.W.funFrames_hide G λ e D a S=>Õ.mpr #[e,D,S]
 have p:B.get? e=none:=by
  cases q:B.get? e with
  | none=>rfl
  | some o=>have:=h e o q;rw [m.new] at this;cases this
 have r:B.StaysIn h':=λ b o q=>m.keeps b o (h b o q)
 change wpAny _ A' (noteFrame (.ref e) X.env) _ _ _;refine rN (L:=X.env.locals) (B:=B) (a0:= .ref t) (oe:={ cls:=C,data:= .fields ([.ref t, .none, .ref y, .none, .bool true, .none].toArray) }) (Q.trans P) F (by rw [<- f];show l.of_keeps λ b o d _=>#[o,m.keeps b o d,rfl]) r p m.there rfl rfl rfl m.cn λ h1 J Y=> ?_
 change wpAny _ X.A _ _ _ _;let#[#[_,_,_,_,oe,vs,T,_,_,D,_,x,k,_],_]:=id J;refine Qr (Wi D x k ?_);rw [if_neg (show ¬ ((Value.ref T==Value.none)=true) from by simp)];refine rM J λ j K Z=> ?_
 have up:h'.UpToSlots j:=Y.trans Z;have kept: ∀b o,s.heap.get? b=some o->b∉frs X.stack->j.get? b=some o:=λ b o q d=>K.1.1 b o (by rw [g];show Yz _ q d)
 have slots: ∀b o,s.heap.get? b=some o->b∈frs X.stack-> ∃O,j.get? b=some { o with slots:=O }:=λ b o q d=>by
  let#[_,o',M,x]:=G.mem d;rw [q] at M
  cases M;show up b o (m.keeps b o q) x
 refine U pins σ H s { s with heap:=j } [] e C (.ref t) B H I (λ b d=>nomatch d) ⟨rfl,I.bare,⟨λ b o q _ d _=>kept b o q d,λ b o q _ d _=>slots b o q d,λ _ _ _ n _=>n,λ b o q _=> ?_,λ _ _ q=>q,λ _ _ _ q=>q,λ b ps q=>⟨([].toArray),by simpa using q⟩⟩,λ a o q=> ?_,?_,by rw [f];show K, .inr m.new,λ b o q d _=>#[o,by rw [g];show Yz _ q d],λ b o q=> ?_,R⟩
 .by_cases d:b∈frs X.stack
  .obtain ⟨O,z⟩:=slots b o q d;show#[_,z]
  .exact #[_,kept b o q d]
 .refine (I.hok a o q).stay (λ c v u z=>kept c v z λ i=> ?_) (λ _ z=>z) λ _ _ z=>z
  have n:=N c i;rcases u with rfl | u
  .rw [q] at n;cases n
  .rw [u] at n;cases n
 .cases q:H e with
  | none=>rfl
  | some o=>
   let#[v,z]:=(I.hok e o q).there;have:=m.new;rw [z] at this;cases this
 .obtain ⟨v,z⟩:=(I.hok b o q).there;have i:b∉frs X.stack:=λ i=>by rw [N b i] at q;cases q
  show#[v,by rw [g];show Yz _ z i]
end
section
variable {X:Cx} {E:XK} {body:List Stmt} {c d msg:Str} {np dp jp cpos kpos rpos hpos pos:Pos} {j kk:Nat} {tb:TS} {Cc C:Addr} {bm:List Value} {B newId initId:String}
def yq (K:W.Frag) (Cc:Addr) (Eh E:XK) (C:Addr) (tb:TS):TS:=λ D σ H=>tb D σ H/\ ∀C' H',Eh C' none H'->PySem.W.exmOne K C' (.ref Cc)=some true/\ ∀x,H' x=none->E (.ref C) none (upd H' x (mY x C'))
theorem ux (Eh:XK) (hl:Cr X E) (o:X.stack=X.env::X.outer) (ae:X.env.frame=some X.env.locals) (hg:Gl X c) (hm:X.mg c=some (.ref Cc)) (FB:ExcBaseFacts B newId initId bm) (ax:Gl X d) (ay:X.mg d=some (.ref C)) (hq:PySem.W.excIn X.K C bm newId=true)
  (hb: ∀pins xe,dR (iK X.prog X.w) (g8 X pins xe) Eh->PSs (g8 X pins xe) body tb) (av:(c==("__debug__":Str))=false:=by decide) (ad:(d==("__debug__":Str))=false:=by decide):
  PS X (.Try body [.ExceptHandler (some (.Name c np)) none [.Raise (some (.Call (.Name d dp) [.Constant (.str msg) j jp] [] cpos)) (some (.Constant .none kk kpos)) rpos] hpos] [] [] pos) (yq X.K Cc Eh E C tb):=by
 intro pins s σ H D I h;let#[h1,h2]:=h;refine wpAny_Try_except ?_;have hp:dR (iK X.prog X.w) (g8 X pins λ e ah=>wpAny (model X.prog X.w) X.A (noteFrame e X.env) (λ _ ai=>wpAny (model X.prog X.w) X.A (setFlight e none) (λ _ al=>wpAny (model X.prog X.w) X.A (handleBy e X.env [.ExceptHandler (some (.Name c np)) none [.Raise (some (.Call (.Name d dp) [.Constant (.str msg) j jp] [] cpos)) (some (.Constant .none kk kpos)) rpos] hpos]) (SP X pins D) X.xe al) X.xe ai) X.xe ah) Eh:=by
  intro pins' σ' H1 s1 e s' I1 hx;let#[x,rfl,#[b,a0,J,H',ho,af,un,ag,P,fl,sx,d1,d2,q],cn]:=hx;have fr:X.A.frames=some (X.env::X.outer):=by rw [<- o];show I.ok.frames
  have ap:Heap.FlyingW J X.stack x b a0 s'.heap:=fl;have ar:Heap.FlyingW J (X.env::X.outer) x b a0 s'.heap:=by rw [<- o];show ap
  let#[aw,a2]:=h2 b H' q;change wpAny (model X.prog X.w) X.A (noteFrame (.ref x) X.env) _ X.xe s';refine Yd ((jA _ _).any (Q:=λ _ s4=> ∃F,s4={ s' with heap:=F }/\Heap.HeldW J (X.env::X.outer) x b a0 X.env.locals F/\s'.heap.UpToSlots F) (E:=λ _ _=>False) (wpAny_looks_onW fr ae ar λ F n p=>⟨F,rfl,n,p⟩) cn) (λ _ s4 z=> ?_) λ _ _ z=>z.1.elim
  let#[#[F,rfl,n,p],c4]:=z;refine Yd ((eG _ _).any (Q:=λ _ s5=> ∃i,s5={ s' with heap:=i }/\Heap.FlyingW J (X.env::X.outer) x b a0 i/\F.UpToSlots i) (E:=λ _ _=>False) (wpAny_landsW (s:={ s' with heap:=F }) n λ i g r=>⟨i,rfl,g,r⟩) c4) (λ _ s5 z=> ?_) λ _ _ z=>z.1.elim
  let#[#[i,rfl,g,r],c5]:=z;have Z:Heap.FlyingW J X.stack x b a0 i:=by rw [o];show g
  have I5:Inv X pins σ' (upd H' x (mY x b)) { s' with heap:=i }:=(jB (Y:=g8 X pins _) I1 ho af un ag P fl sx d1 d2 Z (p.trans r)).tryOut;have am:=I5.hanIn x;let#[oe,vs,e1,e2,e3,_]:=g.first;have LT:PySem.W.Looks (model X.prog X.w) i (typeOf (.ref x)) b:=e2▸(PySem.W.Looks.ld e1).andThen .now;refine wpAny_handleBy_cons (codeAny_handlers_test (dI (X:=qZ X x pins) am hg hm ?_ av)) (by intro z;cases z);refine(PySem.W.exm_one I5.kIn LT aw).here ?_;change codeAny _ _ (.handlers (.ref x) [.ExceptHandler none none [.Raise (some (.Call (.Name d dp) [.Constant (.str msg) j jp] [] cpos)) (some (.Constant .none kk kpos)) rpos] hpos] X.env) _ _;refine codeAny_handlers_suite ?_;refine Yd ((eG _ _).any (Q:=λ _ s6=> ∃l,s6={ s' with heap:=l }/\Heap.FlyingW J (X.env::X.outer) x b a0 l/\i.UpToSlots l) (E:=λ _ _=>False) (lands_againW (s:={ s' with heap:=i }) g λ l O S=>⟨l,rfl,O,S⟩) c5) (λ _ s6 z=> ?_) λ _ _ z=>z.1.elim
  let#[#[l,rfl,O,S],c6]:=z;have ac:Heap.FlyingW J X.stack x b a0 l:=by rw [o];show O
  have U:Inv X pins σ' (upd H' x (mY x b)) { s' with heap:=l }:=(jB (Y:=g8 X pins _) I1 ho af un ag P fl sx d1 d2 ac ((p.trans r).trans S)).tryOut;have an:=U.hanIn x;let#[tl,N,nm,qn,bs,hd,sn,sub,ab,col,dd,k0,k1,k2,k3,k5,hK,ht,G,a1]:=ur hq;have T:=í U.kIn ht;have hN:l.Ns N (l.nsMap N):= .of_isNs (PySem.W.isNs_of_in U.kIn G);refine ã (vZ (C:=C) (nm:=nm) (q:=qn) (N:=N) (bs:=bs) (bm:=tl) (hdct:=hd) (sn:=sn) (sub:=sub) (ab:=ab) (col:=col) (dd:=dd) (k0:=k0) (k1:=k1) (k2:=k2) (k3:=k3) (k5:=k5) (y:=x)
   FB (mN:=l.nsMap N) (T.hasType FB.hasBase) rfl rfl (PySem.W.nsMap_none_of_in U.kIn G a1) (dI (X:=qZ X x pins) an ax ay #[rfl,?_] ad))
  refine Å (Wq (Calls.Constant_str (k:=j) (pos:=jp) (Ú ?_)));show#[rfl,(show 1<=sizeLine by decide),U.kIn _ _ hK,hN,T,c6,λ h' e t m=>yp hl o ae (U.tok _) m (a2 x P) rfl]
 refine Yd (hb pins _ hp [] s σ H D (I.tryIn _) h1) (λ f s1 hs=> ?_) (λ e s1 z=>z)
 cases f with
 | next=>let#[a,L,M,R]:=hs;show Wv #[a,L,M.tryOut,R]
 | brk=>let#[a,L,M,R]:=hs;show#[a,L,M.tryOut,R]
 | cont=>let#[a,L,M,R]:=hs;show#[a,L,M.tryOut,R]
 | ret u=>let#[v,a,L,M,r8,R]:=hs;show#[v,a,L,M.tryOut,r8,R]
end
end L2
end
section
namespace PySem
open PyProof.Rows
section
variable {prog:Program} {w:World} {A:Around} {E:Value->Shared->Prop} {s:Shared}
def Heap.IsRevT (h:Heap) (a t:Addr) (i:Int):Prop:= ∃o,h.get? a=some o/\o.cls= .type "reversed"/\o.data= .fields ([.ref t,rawInt i].toArray)
end
end PySem
namespace L2
open PySem PySem.Spec PyProof.Rows
def Ju (K:W.Frag) (a:Addr) (n:Nat):It where
 go:=λ i H=> ∃xs x,SqT K H a xs/\xs.length=n/\i<n/\xs[n-1-i]? =some x
 yld:=λ i H x H'=>H'=H/\ ∀ys,SqT K H a ys->ys[n-1-i]? =some x
 stop:=λ i _=>i=n
def OJ (K:W.Frag) (ta:TA):TI:=λ σ H R=>ta σ H λ vs H1=> ∃a xs,vs=[.ref a]/\SqT K H1 a xs/\R (Ju K a xs.length) H1
def P0 (K:W.Frag) (a:Addr) (o:Nat):It:=
 ⟨λ i H=> ∃xs x,SqL K H a xs/\xs[i]? =some x,
  λ i H v H'=> ∃p x,H p=none/\v= .ref p/\H'=upd H p (.tup [.int ((i+o:Nat):Int),x])/\ ∀xs,SqL K H a xs->xs[i]? =some x,
  λ i H=> ∃xs,SqL K H a xs/\xs.length=i⟩
structure EnSf (e it a:Addr) (o i:Nat) (h:Heap):Prop where
 he: ∃old,IsEnum h e it ((i+o:Nat):Int) old
 h1:h.IsListIter it a i
def MK (K:W.Frag) (ta tk:TA):TI:=λ σ H R=>ta σ H λ vs H1=>tk σ H1 λ ks H2=> ∃a xs o,vs=[.ref a]/\ks=[.int ((o:Nat):Int)]/\o<=1000000000/\SqL K H2 a xs/\R (P0 K a o) H2
def Qu (r:V->V->Hp->VK->Prop) (ta tk:TA):TE:=λ σ H Q=>ta σ H λ vs H1=>tk σ H1 λ ks H2=> ∃x y,vs=[x]/\ks=[y]/\r x y H2 Q
def Jv (K:W.Frag) (a b:Addr):It:=
 ⟨λ i H=> ∃xs ys x y,SqT K H a xs/\SqT K H b ys/\xs[i]? =some x/\ys[i]? =some y,
  λ i H v H'=> ∃p x y,H p=none/\v= .ref p/\H'=upd H p (.tup [x,y])/\(∀xs,SqT K H a xs->xs[i]? =some x)/\ ∀ys,SqT K H b ys->ys[i]? =some y,
  λ i H=> ∃xs ys,SqT K H a xs/\SqT K H b ys/\(xs.length<=i\/ys.length<=i)⟩
structure ZipStU (z TI TO i1 i2 a b:Addr) (i:Nat) (h:Heap):Prop where
 hz:IsZip h z TI TO .none
 hTI:IsPair h TI (.ref i1) (.ref i2)
 hTO: ∃u v,IsPair h TO u v
 h1:h.IsTupleIter i1 a i
 h2:h.IsTupleIter i2 b i
 aTO:a≠TO
 bTO:b≠TO
def Pa (K:W.Frag) (ta:TA):TI:=λ σ H R=>ta σ H λ vs H1=> ∃a b xs ys,vs=[.ref a, .ref b]/\SqT K H1 a xs/\SqT K H1 b ys/\R (Jv K a b) H1
def Pb (te:TE):TE:=λ σ H Q=>te σ H λ x H1=> ∃n:Nat,x= .int (n:Int)/\n<=1000000/\ ∀p,H1 p=none->Q (.ref p) (upd H1 p (.tup ((List.range n).map λ i:Nat=>V.int (i:Int))))
end L2
end
section
namespace Sm
open PySem PyProof.Rows Sx
def Jw:Bool->Keyed->Array Keyed->Nat->Nat->Nat->StateT SortSt Sem (Option Nat):=sortPriv%PySem.Builtin.gallop
def MN:Nat->StateT SortSt Sem Unit:=sortPriv%PySem.Builtin.setMinGallop
def Sd (B:Keyed->Keyed->Bool) (l:List Keyed):Prop:=l.Pairwise λ x y=>B y x=false
def Sg (z st:SortSt):Prop:= ∃g,z=SortSt.mk' (kindOf st) (arrOf st) (pendingOf st) g (failedOf st)
structure Mg (B:Keyed->Keyed->Bool) (A1 A2 B1 B2 o:List Keyed):Prop where
 pm:o.Perm (A1++B1)
 sd:Sd B o
 le: ∀x∈o,∀y,y∈A2\/y∈B2->B y x=false
section
variable {α β γ τ:Type}
inductive Se (D:Array Keyed->Prop) (P:Nat->α->β->γ->Prop) (n:Nat):Option (Array Keyed)×α×β×γ×τ->Prop
 | dn {x:Array Keyed} {t:α×β×γ×τ} (h:D x):Se D P n (some x,t)
 | go {a:α} {b:β} {c:γ} {t:τ} (h:P n a b c):Se D P n (none,a,b,c,t)
inductive Sy (P:Nat->α->β->γ->Prop) (n:Nat):Option (Array Keyed)×α×β×γ×τ->Prop
 | go {a:α} {b:β} {c:γ} {t:τ} (h:P n a b c):Sy P n (none,a,b,c,t)
def Sr (D:Array Keyed->Prop) (P:Nat->α->β->γ->Prop) (n:Nat):ForInStep (Option (Array Keyed)×α×β×γ×τ)->Prop
 | .done c=>Se D P n c
 | .yield c=>Sy P n c
abbrev TF (α β γ:Type):=Nat->α->β->γ->Nat->Nat->StateT SortSt Sem (ForInStep (Option (Array Keyed)×α×β×γ×Nat×Nat))
abbrev TG (α β γ:Type):=α->β->γ->Nat->Nat->Nat->StateT SortSt Sem (ForInStep (Option (Array Keyed)×α×β×γ×Nat×Nat×Nat))
structure Gn (prog:Program) (w:World) (A:Around) (E:Value->Shared->Prop) (s:Shared) (st:SortSt) (D:Array Keyed->Prop) (P:Nat->α->β->γ->Prop) (tot:Nat) (F:TF α β γ) (G:TG α β γ):Prop where
 mo: ∀ {n m a b c},m<=n->P n a b c->P m a b c
 lt: ∀ {n a b c},P n a b c->n<tot
 f: ∀ {n a b c mg ac bc z},Sg z st->P n a b c->wpS (model prog w) A E s (F mg a b c ac bc) (λ r z'=>z'=z/\Sr D P (n+1) r) z
 g: ∀ {n a b c mg ac bc z},Sg z st->P n a b c->wpS (model prog w) A E s (G a b c mg ac bc) (λ r z'=>Sg z' st/\Sr D P (n+1) r) z
variable {prog:Program} {w:World} {A:Around} {E:Value->Shared->Prop} {s:Shared} {st:SortSt} {D:Array Keyed->Prop} {P:Nat->α->β->γ->Prop} {tot:Nat} {F:TF α β γ} {G:TG α β γ}
end
def F1 (a b:Array Keyed) (mg:Nat) (o:Array Keyed) (p q ac bc:Nat):StateT SortSt Sem (ForInStep (Option (Array Keyed)×Array Keyed×Nat×Nat×Nat×Nat)):=do
 let y <- elem' b q
 let x <- elem' a p
 match <- lt' y x with
 | some bw=>
  if bw=true then do
   let u <- elem' b q
   if (q+1==b.size)=true then pure (.done (some (o.push u++a.extract p a.size++b.extract (q+1) b.size),o.push u,p,q+1,0,bc+1))
   else if bc+1>=mg then pure (.done (none,o.push u,p,q+1,0,bc+1))
   else pure (.yield (none,o.push u,p,q+1,0,bc+1))
  else do
   let u <- elem' a p
   if (p+1+1==a.size)=true then pure (.done (some (o.push u++b.extract q b.size++a.extract (p+1) a.size),o.push u,p+1,q,ac+1,0))
   else if ac+1>=mg then pure (.done (none,o.push u,p+1,q,ac+1,0))
   else pure (.yield (none,o.push u,p+1,q,ac+1,0))
 | _=>pure (.done (some (o++a.extract p a.size++b.extract q b.size),o,p,q,ac,bc))
structure Ml (B:Keyed->Keyed->Bool) (L1 L2 A1 A2 B1 B2 o:List Keyed):Prop where
 e1:L1=A1++A2
 e2:L2=B1++B2
 mg:Mg B A1 A2 B1 B2 o
section
variable {prog:Program} {w:World} {A:Around} {E:Value->Shared->Prop} {s:Shared} {kd:SortKind} {a0:Array Keyed} {B:Keyed->Keyed->Bool} {st:SortSt} {L1 L2:List Keyed}
def Gd (B:Keyed->Keyed->Bool) (L1 L2:List Keyed) (r:Array Keyed):Prop:= ∃l:List Keyed,r=l.toArray/\l.Perm (L1++L2)/\Sd B l
inductive PL (B:Keyed->Keyed->Bool) (L1 L2:List Keyed) (n:Nat):Array Keyed->Nat->Nat->Prop
 | mk {A1 A2 B1 B2 o:List Keyed} (m:Ml B L1 L2 A1 A2 B1 B2 o) (h1:2<=A2.length) (h2:1<=B2.length) (h3:n+1<=A1.length+B1.length):PL B L1 L2 n o.toArray A1.length B1.length
end
abbrev HS:=ForInStep (Option (Array Keyed)×Nat×Nat×Array Keyed×Nat×Nat×Nat)
def H3 (a b o:Array Keyed) (p q mg ac k:Nat):StateT SortSt Sem HS:=do
 let u <- elem' a (p-1)
 if (p-1==0)=true then
  pure (.done (some (a.extract 0 (p-1)++b.extract 0 q++(o.push u).reverse),p-1,q,o.push u,mg,ac,k))
 else if (decide (ac<7)&&decide (k<7))=true then pure (.done (none,p-1,q,o.push u,mg,ac,k))
 else pure (.yield (none,p-1,q,o.push u,mg,ac,k))
def H2 (a b o:Array Keyed) (p q mg ac bc:Nat):StateT SortSt Sem HS:=do
 let u <- elem' b (q-1)
 if (q-1==1)=true then
  pure (.done (some (b.extract 0 (q-1)++a.extract 0 p++(o.push u).reverse),p,q-1,o.push u,mg,ac,bc))
 else do
  let v <- elem' a (p-1)
  let x <- Jw true v b 0 (q-1) (q-1-1)
  match x with
  | some f=>
   if q-1-f>0 then
    if (f==1)=true then
     pure (.done (some (b.extract 0 f++a.extract 0 p++(o.push u++(b.extract f (q-1)).reverse).reverse),p,f,o.push u++(b.extract f (q-1)).reverse,mg,ac,q-1-f))
    else if (f==0)=true then
     pure (.done (some (a.extract 0 p++b.extract 0 f++(o.push u++(b.extract f (q-1)).reverse).reverse),p,f,o.push u++(b.extract f (q-1)).reverse,mg,ac,q-1-f))
    else H3 a b (o.push u++(b.extract f (q-1)).reverse) p f mg ac (q-1-f)
   else H3 a b (o.push u) p (q-1) mg ac (q-1-f)
  | _=>pure (.done (some (a.extract 0 p++b.extract 0 (q-1)++(o.push u).reverse),p,q-1,o.push u,mg,ac,bc))
def H1 (a b o:Array Keyed) (p q mg ac bc:Nat):StateT SortSt Sem HS:=do
 MN mg
 let u <- elem' b (q-1)
 let x <- Jw false u a 0 p (p-1)
 match x with
 | some f=>
  if p-f>0 then
   if (f==0)=true then
    pure (.done (some (a.extract 0 f++b.extract 0 q++(o++(a.extract f p).reverse).reverse),f,q,o++(a.extract f p).reverse,mg,p-f,bc))
   else H2 a b (o++(a.extract f p).reverse) f q mg (p-f) bc
  else H2 a b o p q mg (p-f) bc
 | _=>pure (.done (some (a.extract 0 p++b.extract 0 q++o.reverse),p,q,o,mg,ac,bc))
structure Mh (B:Keyed->Keyed->Bool) (L1 L2 A1 A2 B1 B2 o:List Keyed):Prop where
 e1:L1=A1++A2
 e2:L2=B1++B2
 pm:o.Perm (A2++B2)
 sd:Sd B o
 le: ∀x∈o,∀y,y∈A1\/y∈B1->B x y=false
section
variable {prog:Program} {w:World} {A:Around} {E:Value->Shared->Prop} {s:Shared} {kd:SortKind} {a0:Array Keyed} {B:Keyed->Keyed->Bool} {st:SortSt} {L1 L2:List Keyed}
inductive PH (B:Keyed->Keyed->Bool) (L1 L2:List Keyed) (n:Nat):Nat->Nat->Array Keyed->Prop
 | mk {A1 A2 B1 B2 o:List Keyed} (m:Mh B L1 L2 A1 A2 B1 B2 o) (h1:1<=A1.length) (h2:2<=B1.length) (h3:n+1<=A2.length+B2.length):PH B L1 L2 n A1.length B1.length o.reverse.toArray
end
end Sm
namespace Sm
open PySem PyProof.Rows
open Sx (Wk gt)
def gl (xs:Array Keyed) (lo i:Nat):Keyed:=gt xs (lo+i)
def Up (B:Keyed->Keyed->Bool) (xs:Array Keyed) (lo k:Nat):Prop:= ∀i j,i<=j->j<k->B (gl xs lo j) (gl xs lo i)=false
def Dn (B:Keyed->Keyed->Bool) (xs:Array Keyed) (lo k:Nat):Prop:= ∀i j,i<=j->j<k->B (gl xs lo i) (gl xs lo j)=false
def Eb (B:Keyed->Keyed->Bool) (xs:Array Keyed) (lo l k:Nat):Prop:= ∀i j,l<=i->i<k->l<=j->j<k->B (gl xs lo i) (gl xs lo j)=false
structure Bl (kd:SortKind) (a0 x0:Array Keyed) (lo:Nat) (pe:Array (Nat×Nat×Nat)) (st:SortSt):Prop where
 pm:(arrOf st).Perm a0
 kn:kindOf st=kd
 fl:failedOf st=none
 pe:pendingOf st=pe
 pf: ∀i,i<lo->(arrOf st)[i]? =x0[i]?
def Rn (B:Keyed->Keyed->Bool):Nat->List (Nat×Nat×Nat)->List Keyed->Prop
 | _,[],T=>T=[]
 | a,r::t,T=>r.1=a/\1<=r.2.1/\ ∃L T',T=L++T'/\L.length=r.2.1/\Sd B L/\Rn B (a+r.2.1) t T'
structure Jn (kd:SortKind) (a0:Array Keyed) (B:Keyed->Keyed->Bool) (st:SortSt) (T S:List Keyed):Prop where
 kn:kindOf st=kd
 fl:failedOf st=none
 pm:(arrOf st).Perm a0
 ar:arrOf st=(T++S).toArray
 rn:Rn B 0 (pendingOf st).toList T
end Sm
end
section
namespace L2
open PySem PySem.Spec PyProof.Rows
def Jx (td:TE):TE:=λ σ H Q=>td σ H λ x H1=> ∃ (a:Addr) (kvs:List (Str×V)),x= .ref a/\H1 a=some (.dK (kvs.map λ p=>(Sum.inr p.1,p.2)))/\kvs.length<100000/\ ∀r (zs:List (Addr×Str×V)) (H2:Hp),(zs.map (·.2)).Perm kvs->(zs.map (·.2.1)).Pairwise jC->H1 r=none->Same H1 H2->H2 r=some (.lst (zs.map λ z=>V.ref z.1))->(∀z∈zs,H2 z.1=some (.tup [.str z.2.1,z.2.2]))->Q (.ref r) H2
structure FunD (K:W.Frag) (x qual:Str) (st:Stmt) (f:Addr) (fd:FuncData) (T:Addr) (ds:List Value):Prop where
 ex: ∃ (oc:Value) (od:Option Addr) (kV doc pm:Value) (an:Option Addr) (cdv ct:Value) (osl:Array (Option Value)),
  fd=W.fnOf x qual (cX st) (cA st) (az st) (.ref T) kV doc pm an cdv ct/\K.lookup f=some #[oc,od, .func fd,osl]/\W.codeIn K cdv qual=true
 kp:W.keepIn K (.ref f)=true
 tp: ∃ (o:Obj) (n:Nat),K.lookup T=some o/\o.data= .seq ds.toArray n
structure CalD (P:Program) (w:World) (K:W.Frag) (mg:Str->Option Value) (base:Heap) (n:Nat) (x:Str) (ps:List Str) (dvs:List V) (sp:Sp):Prop where
 ex: ∃ (f:Addr) (fd:FuncData) (ds:List Value),FnOk P w K mg base DG n f fd ps sp/\Binds K fd ps ds/\Vals dvs ds/\W.keepIn K (.ref f)=true/\mg x=some (.ref f)
structure CalXD (P:Program) (w:World) (K:W.Frag) (mg:Str->Option Value) (base:Heap) (n:Nat) (x:Str) (ps:List Str) (dvs:List V) (sp:Sp):Prop where
 ex: ∃ (f:Addr) (fd:FuncData) (ds:List Value),FnOk P w K mg base (iK P w) n f fd ps sp/\Binds K fd ps ds/\Vals dvs ds/\W.keepIn K (.ref f)=true/\mg x=some (.ref f)
def Q8 (K:W.Frag) (a:Addr) (xs:List V):Prop:= ∃ (o:Obj) (its:Array Value) (n:Nat),K.lookup a=some o/\o.cls= .type "tuple"/\o.data= .seq its n/\its.size<=sizeLine/\Vals xs its.toList
def Jy (x:Str) (o:Nat):It:=
 ⟨λ i _=>i<x.cps.size,
  λ i H v H'=> ∃p c,H p=none/\v= .ref p/\H'=upd H p (.tup [.int ((i+o:Nat):Int), .str #[([c].toArray)]])/\x.cps[i]? =some c,
  λ i _=>i=x.cps.size⟩
structure EnSs (e it:Addr) (x:Str) (u:Tok) (o i:Nat) (h:Heap):Prop where
 he: ∃old,IsEnum h e it ((i+o:Nat):Int) old
 h1:h.IsStrIter it (strIterType x) x u i
def MP (ta tk:TA):TI:=λ σ H R=>ta σ H λ vs H1=>tk σ H1 λ ks H2=> ∃x o,vs=[.str x]/\ks=[.int ((o:Nat):Int)]/\o<=1000000000/\R (Jy x o) H2
def Jz (K:W.Frag) (a:Addr):It:=
 ⟨λ i H=> ∃xs x,SqT K H a xs/\xs[i]? =some x,
  λ i H v H'=> ∃p x,H p=none/\v= .ref p/\H'=upd H p (.tup [.int (i:Int),x])/\ ∀xs,SqT K H a xs->xs[i]? =some x,
  λ i H=> ∃xs,SqT K H a xs/\i=xs.length⟩
structure EnSt3 (e it a:Addr) (i:Nat) (h:Heap):Prop where
 he: ∃old,IsEnum h e it (i:Int) old
 h1:h.IsTupleIter it a i
def MT (K:W.Frag) (ta:TA):TI:=λ σ H R=>ta σ H λ vs H1=> ∃a xs,vs=[.ref a]/\SqT K H1 a xs/\R (Jz K a) H1
def N5 (tk tv:TE):TE:=λ σ H Q=> ∀p,H p=none->tk σ (upd H p (.dT [])) λ x H1=>tv σ H1 λ v H2=>H2 p=some (.dT [])/\ ∃k b,x= .ref b/\H2 b=some (.tup (k.map kV))/\Q (.ref p) (upd H2 p (.dT [(k,v)]))
def JB (K:W.Frag) (a b:Addr):It:=
 ⟨λ i H=> ∃xs ys x y,SqL K H a xs/\SqT K H b ys/\xs[i]? =some x/\ys[i]? =some y,
  λ i H v H'=> ∃p x y,H p=none/\v= .ref p/\H'=upd H p (.tup [x,y])/\(∀xs,SqL K H a xs->xs[i]? =some x)/\ ∀ys,SqT K H b ys->ys[i]? =some y,
  λ i H=> ∃xs ys,SqL K H a xs/\SqT K H b ys/\(xs.length<=i\/ys.length<=i)⟩
structure ZipStL (z TI TO i1 i2 a b:Addr) (i:Nat) (h:Heap):Prop where
 hz:IsZip h z TI TO .none
 hTI:IsPair h TI (.ref i1) (.ref i2)
 hTO: ∃u v,IsPair h TO u v
 h1:h.IsListIter i1 a i
 h2:h.IsTupleIter i2 b i
 aTO:a≠TO
 bTO:b≠TO
def Ph (K:W.Frag) (ta:TA):TI:=λ σ H R=>ta σ H λ vs H1=> ∃a b xs ys,vs=[.ref a, .ref b]/\SqL K H1 a xs/\SqT K H1 b ys/\R (JB K a b) H1
end L2
end
section
namespace HT
open PySem PySem.Spec PyProof.Rows
theorem jg:fillsNumberSlot (.type "tuple") "mul"=pure false:=
 PySem.fillsNumberSlot_seq (id:="tuple.__mul__") (r:=some (.builtin "tuple.__rmul__")) F.slot_tuple_mul.lookup (by ac_nf) F.slot_tuple_rmul.lookup (by ac_nf)
theorem nO:seqRepeat? (.type "tuple")=pure (some (.builtin "tuple.__mul__")):=by
 unfold seqRepeat?;rw [PySem.seqSlot_of (T:="tuple") (name:="__mul__") (id:="tuple.__mul__") F.slot_tuple_mul.lookup (by ac_nf),PySem.seqSlot_of (T:="tuple") (name:="__rmul__") (id:="tuple.__rmul__") F.slot_tuple_rmul.lookup (by ac_nf)];rfl
theorem fC (a:Int) (t:Tok) (l:Addr) (o:Obj) (b:Array Value) (n:Nat) (c:o.data= .seq b n):
  Meets (Builtin.«int.__rmul__» #[[.int a t, .ref l],[]]) (λ _ R s=>s.heap.get? l=some o/\R (.ok (.ret Value.notImplemented)) s):=
 .of_wp λ prog w A R s h=>by
  let#[f,g,d,j,i]:=s;let#[e,h]:=h
  wp_walk
  rw [c]
  wp_walk
  show#[_,rfl,h]
theorem eO (l:Addr) (o:Obj) (a:Array Value) (n:Nat) (x:Int) (u:Tok) (v:o.cls= .type "tuple") (k:o.data= .seq a n) (e:a.isEmpty=false) (t:2<=x) (z:x<2^63) (i:a.size*x.toNat<=sizeLine):
  Meets (Builtin.«tuple.__mul__» #[[.ref l, .int x u],[]]) (λ _ R s=>s.heap.get? l=some o/\R (.ok (.ret (Value.ref s.heap.objs.size))) { s with heap:=s.heap.push { cls:=Value.type "tuple",data:=Data.seq (List.foldl (λ b c=>b++c) ([].toArray) (List.replicate x.toNat a)) },toks:=s.toks }):=
 .of_wp λ prog w A R s h=>by
  let#[y,g,d,C,B]:=s;let#[p,h]:=h;have r:=PySem.AutoSeq1.idx_int
  wp_walk
  have f:(a.size:Int)*x=((a.size*x.toNat:Nat):Int):=by rw [Int.natCast_mul,Int.toNat_of_nonneg ()]
  have q:(a.size*x.toNat:Nat)<=1000000000000:=Zy i (by decide);rw [if_neg (by simp;rfl')];change wpAny _ _ (Builtin.Tuple.tupleItemsOf (.ref l) >>= _) _ _ _;refine Qr (wpAny_tupleItemsOf p k ?_);rw [if_neg (by rw [e];simp;rfl')];change wpAny _ _ (if (decide (x<=0)||a.isEmpty)=true then _ else _) _ _ _;rw [if_neg (by rw [e];simp;rfl')];change wpAny _ _ (if (a.size:Int)*x>(2^63-1) / 8 then _ else _) _ _ _;rw [if_neg (by rw [f];rfl')];change wpAny _ _ (if Builtin.Tuple.tupleTooMany ((a.size:Int)*x)=true then _ else _) _ _ _;rw [if_neg (by unfold Builtin.Tuple.tupleTooMany;rw [f,Yj ()];show Zq)];change wpAny _ _ (Builtin.Tuple.tupleExact _ >>= _) _ _ _;have j:List.foldl (λ b c=>b++c) ([].toArray) (List.replicate x.toNat a)=(List.replicate x.toNat a.toList).flatten.toArray:=by
   have:=L2.foldl_rep a.toList x.toNat [];rw [Ð,Array.toArray_toList] at this;show this
  have hsz:(List.foldl (λ b c=>b++c) ([].toArray) (List.replicate x.toNat a)).size<=sizeLine:=by
   rw [j,Zs,L2.len_rep,Xa,Nat.mul_comm];show i
  show Qr (m:=Builtin.Tuple.tupleExact _) (We (Zi #[_,rfl,h]) hsz)
end HT
namespace L2
open PySem PySem.Spec PyProof.Rows
def uy (K:W.Frag):R2:=λ x y H Q=> ∃a k xs,x= .ref a/\y= .int k/\SqT K H a xs/\xs≠[]/\2<=k/\k<2^63/\xs.length*k.toNat<=sizeLine/\ ∀p,H p=none->Q (.ref p) (upd H p (.tup (List.replicate k.toNat xs).flatten))
theorem Cv {X:Cx}:eY X (binaryOp .Mult) (uy X.K):=by
 intro m s L H x y v u Q I D E h;let#[a,k,xs,rfl,rfl,C,w,z,g,l,q]:=h
 cases D;let#[t,rfl]:=E;let#[c,r,B,_]:=I.tuple C;let#[o,e,f,n,j]:=id B;have A:c.length=xs.length:=r.length.symm;have i:c.toArray.isEmpty=false:=by
  cases c with
  | nil=>show absurd (r.nil_iff.mp rfl) w
  | cons a b=>rfl
 have d:c.toArray.size*k.toNat<=sizeLine:=by rw [Zs,A];show l
 refine wpAny_binaryOp_repeat_ref (T:="tuple") (U:="int") (by decide) #[o,e,f] (λ s'=>typeIs_int s' k t) HT.jg F.fills_int_mul é HT.nO F.slot_int_index.lookup
  (ä é (typeIs_int s k t) F.entry_int_rmul (F.args_int_rmul_2 _ _) (HT.fC k t a o c.toArray n j)
   #[e,rfl,#[o,e,f],ä F.slot_tuple_mul #[o,e,f] F.entry_tuple_mul (F.args_tuple_mul_2 _ _) (HT.eO a o c.toArray n k t f j i z g d) #[e,?_]])
 have p:List.foldl (λ G J=>G++J) ([].toArray) (List.replicate k.toNat c.toArray)=(List.replicate k.toNat c).flatten.toArray:=by
  have:=foldl_rep c k.toNat [];rw [Ð] at this;show this
 rw [p];refine#[.ref s.heap.objs.size,_,I.laid (t':=s.toks) (o:= .tup (List.replicate k.toNat xs).flatten) (λ b ob q=>Zd _ q) (Zo _) ?_,rfl,q _ (I.hok.fresh (Zo _))];show#[by rw [len_rep,Nat.mul_comm];show l,_,r.rep k.toNat,IsTup.new _ _]
theorem pW {X:Cx} (K:W.Frag) (a:X.K=K):eY X (binaryOp .Mult) (uy K):=a▸Cv
end L2
end
section
namespace Nk
open PySem PySem.Spec PyProof.Rows
abbrev yr:=Int×Int×List Int
section
variable {prog:Program} {w:World} {A:Around} {E:Value->Shared->Prop} {s:Shared}
def N6 (prog:Program) (w:World) (h:Heap) (k:yr) (a:Addr):Prop:= ∃o n v1 v2 b,h.get? a=some o/\o.cls= .type "tuple"/\o.data= .seq ([v1,v2, .ref b].toArray) n/\(intKind prog w).is k.1 v1=true/\(intKind prog w).is k.2.1 v2=true/\IsTupleKey (intKind prog w) h k.2.2 b
def JC (cs:List Int):Int:=reduceHash (Builtin.Tuple.tupleHashOf (cs.map hashInt))
def DW (k:yr):Int:=reduceHash (Builtin.Tuple.tupleHashOf [hashInt k.1,hashInt k.2.1,JC k.2.2])
end
end Nk
namespace L2
open PySem PySem.Spec PyProof.Rows Nk
abbrev Sk:=Int×Int×List Int
def N7 (x:Sk×Addr×Value):DictEntry:=#[DW x.1, .ref x.2.1,x.2.2]
def Q9 (a:Addr) (kvs:List (Addr×Sk×V)) (h:Heap):Prop:=kvs.length<=sizeLine/\(a==sysModules)=false/\ ∃xs:List (Sk×Addr×Value),Paired (λ (p:Addr×Sk×V) (q:Sk×Addr×Value)=>p.2.1=q.1/\p.1=q.2.1/\RelV p.2.2 q.2.2) kvs xs/\
 ∃o es ep,h.get? a=some o/\o.ExactDict/\o.data= .dict es ep/\es.toList=xs.map N7/\(xs.map (·.1)).Nodup
abbrev lw (a:Addr) (kvs:List (Addr×Sk×V)):HO:= .ext (Q9 a kvs)
def JD (H:Hp) (b:Addr) (k:Sk):Prop:= ∃c,H b=some (.tup [.int k.1, .int k.2.1, .ref c])/\H c=some (.tup (k.2.2.map V.int))
def JF (kvs:List (Addr×Sk×V)) (k:Sk):Option V:=(kvs.find? λ p=>decide (p.2.1=k)).map (·.2.2)
def N8 (kvs:List (Addr×Sk×V)) (b:Addr) (k:Sk) (v:V):List (Addr×Sk×V):=if (JF kvs k).isSome then kvs.map λ p=>if p.2.1=k then (p.1,p.2.1,v) else p else kvs++[(b,k,v)]
def yt (H:Hp) (a:Addr) (y:V) (r:Option V):Prop:= ∃kvs k b,Rd H a (lw a kvs)/\(∀p∈kvs,JD H p.1 p.2.1)/\y= .ref b/\JD H b k/\r=JF kvs k
def Nb (H:Hp) (a:Addr) (y v:V) (H':Hp):Prop:= ∃kvs k b,H a=some (lw a kvs)/\(∀p∈kvs,JD H p.1 p.2.1)/\y= .ref b/\JD H b k/\kvs.length<sizeLine/\H'=upd H a (lw a (N8 kvs b k v))
section
variable {P:Program} {w:World} {H:Hp} {h:Heap} {a b:Addr}
abbrev KS:List (Addr×Sk×V)->List (Sk×Addr×Value)->Prop:=Paired λ p q=>p.2.1=q.1/\p.1=q.2.1/\RelV p.2.2 q.2.2
end
end L2
end
section
namespace Nk
open PySem PySem.Spec PyProof.Rows Sx
def Fn (h:Heap) (f:Value->yr) (v:Value):Prop:= ∃b ob its n t1 t2 c oc ics nc,v= .ref b/\h.get? b=some ob/\ob.cls= .type "tuple"/\ob.data= .seq its n/\its.toList=[.int (f v).1 t1, .int (f v).2.1 t2, .ref c]/\h.get? c=some oc/\oc.cls= .type "tuple"/\oc.data= .seq ics nc/\IntsAre ics.toList (f v).2.2
end Nk
namespace L2
open PySem PySem.Spec PyProof.Rows Sx Nk
section
variable {prog:Program} {w:World} {A:Around} {E:Value->Shared->Prop} {s:Shared} {d:Addr} {od:Obj} {es:Array DictEntry} {ep:Nat}
def stOf (h:Heap) (v:Value):yr:=open Classical in if e: ∃k,Fn h (λ _=>k) v then e.choose else (0,0,[])
end
end L2
namespace L2
open PySem PySem.Spec PyProof.Rows Nk
def Pj:TE:=λ _ H Q=> ∀p,H p=none->Q (.ref p) (upd H p (lw p []))
def Pk (td ty:TE):TE:=λ σ H Q=>td σ H λ x H1=>ty σ H1 λ y H2=> ∃a v,x= .ref a/\yt H2 a y (some v)/\Q v H2
def Qa (ty td:TE):TE:=λ σ H Q=>ty σ H λ y H1=>td σ H1 λ x H2=> ∃a o,x= .ref a/\yt H2 a y o/\Q (.bl o.isSome) H2
def Mf (ty td:TE):TE:=λ σ H Q=>ty σ H λ y H1=>td σ H1 λ x H2=> ∃a o,x= .ref a/\yt H2 a y o/\Q (.bl (!o.isSome)) H2
def Pn (td ty tv:TE):TS:=λ D σ H=>tv σ H λ v H1=>td σ H1 λ x H2=>ty σ H2 λ y H3=> ∃a H4,x= .ref a/\Nb H3 a y v H4/\D.nx σ H4
section
variable {X:Cx} {o i e value:Expr} {pos pos' tpos:Pos} {td ty tv:TE}
def Nf (td ty tx:TE):TE:=λ σ H Q=>td σ H λ x H1=> ∃a kvs,x= .ref a/\Rd H1 a (lw a kvs)/\ty σ H1 λ y H2=>tx σ H2 λ z H3=> ∃o,yt H3 a y o/\Q (o.getD z) H3
end
end L2
end
section
namespace St
open PySem PySem.Spec PyProof.Rows
def yu (h:Heap) (a:Addr) (es:Array (Int×Value)) (ep:Nat) (t:SetTable):Prop:= ∃o,h.get? a=some o/\o.ExactSet/\o.data= .set es ep t/\t.fits es.size=true
def Qc (h:Heap) (I:Addr) (f0:Value) (i:Nat) (a:Addr) (n ep:Nat):Prop:= ∃o,h.get? I=some o/\o.cls= .type "set_iterator"/\o.data= .fields ([f0, .int i 0, .ref a, .int n 0, .int ep 0].toArray)
section
variable {prog:Program} {w:World} {A:Around} {E:Value->Shared->Prop} {s:Shared}
structure Go (prog:Program) (w:World) (A:Around) (s:Shared) (a:Addr) (vs:List Value) (n:Nat) (I:Addr) (s1:Shared):Prop where
 ex: ∃ (fp:List Addr) (P:Nat->Value->Prop) (St:Nat->Heap->Prop),Walks prog w A I fp [I] n P St/\St 0 s1.heap/\(∀b∈fp,b=a\/s.heap.objs.size<=b)/\ ∀acc:Array Value,ItemsOf P acc n->acc.toList.Perm vs
 keep: ∀b o,s.heap.get? b=some o->s1.heap.get? b=some o
 fresh:s.heap.objs.size<=I
 rest: ∃d,s1={ s with heap:=s1.heap,drawn:=d }
def vd (prog:Program) (w:World) (a:Addr) (es:Array (Int×Value)) (ep:Nat) (t:SetTable):Prop:= ∀ {A:Around} {E:Value->Shared->Prop} {s:Shared} {Q:Value->Shared->Prop},A.handled=none->yu s.heap a es ep t->(∀I s1,Go prog w A s a (es.toList.map (·.2)) es.size I s1->Q (.ref I) s1)->wpAny (model prog w) A (pyIter (.ref a)) Q E s
def tx:Value->Str
 | .str x _=>x
 | _=>#[([].toArray)]
structure SetS (prog:Program) (w:World) (h:Heap) (a:Addr) (ls:List Str) (es:Array (Int×Value)) (ep:Nat) (t:SetTable):Prop where
 at_:yu h a es ep t
 el:ElemsOf (PySem.strKind prog w) es.toList
 pm:(es.toList.map λ e=>tx e.2).Perm ls
 nd:ls.Nodup
 sz:es.size<4096
 led:w.params.followText "set-order"=false->t.led=true
 pl:1<=es.size->t.plain=false
end
end St
end
section
namespace Tb
open PySem
def g5:Nat->Nat
 | 0=>0
 | n+1=>5*g5 n+1
def f5 (M:Nat):Nat->Nat->Nat
 | 0,x=>x%M
 | n+1,x=>(5*f5 M n x+1)%M
def Qd (xs:Array Nat):Prop:= ∀i k,i<k->k<xs.size->xs.getD i 0<xs.getD k 0
def lp (mask:Nat) (h:Int):Nat->Nat×Nat
 | 0=>(SetTable.bits h%(mask+1),SetTable.bits h)
 | n+1=>SetTable.leap mask (lp mask h n).1 (lp mask h n).2
def rn (mask:Nat) (h:Int) (n:Nat):Nat:=SetTable.runEnd mask (lp mask h n).1-(lp mask h n).1
def po (mask:Nat) (h:Int) (n r:Nat):Nat:=(lp mask h n).1+r
def pr (mask:Nat) (h:Int) (n r:Nat):SetTable.Probe:={ j:=po mask h n r,more:=rn mask h n-r,i:=(lp mask h n).1,perturb:=(lp mask h n).2,dummy:=none }
def Pq (t:SetTable) (j:Nat):Prop:= ∃i:Nat,t.place[i]? =some j
def JG (n r n' r':Nat):Prop:=n<n'\/(n=n'/\r<r')
def Pass (t:SetTable) (ha:Nat->Int) (h:Int) (n0 r0 n r:Nat):Prop:= ∀n' r',r'<=rn t.mask h n'-> ¬JG n' r' n0 r0->JG n' r' n r-> ∃i:Nat,t.place[i]? =some (po t.mask h n' r')/\ha i≠h
inductive Meets (t:SetTable) (ha:Nat->Int) (h:Int) (n0 r0:Nat):SetTable.Met->Prop
 | empty {n r:Nat} (hr:r<=rn t.mask h n) (ps:Pass t ha h n0 r0 n r) (no: ¬Pq t (po t.mask h n r)):Meets t ha h n0 r0 (.empty (po t.mask h n r) none)
 | cand {n r i:Nat} (hr:r<=rn t.mask h n) (ge: ¬JG n r n0 r0) (ps:Pass t ha h n0 r0 n r) (hi:t.place[i]? =some (po t.mask h n r)) (he:ha i=h):Meets t ha h n0 r0 (.candidate (po t.mask h n r) i (t.advance (pr t.mask h n r)))
section
variable {β:Type}
structure Ok (t:SetTable) (es:Array (Int×β)):Prop where
 pw: ∃k,t.mask+1=2^k
 dm:t.dummies= ([].toArray)
 as:Qd t.place
 le: ∀i j:Nat,t.place[i]? =some j->j<=t.mask
 sz:t.place.size=es.size
 rm:es.size<=t.mask
 pt: ∀ (i j:Nat) e,t.place[i]? =some j->es[i]? =some e-> ∃n r,r<=rn t.mask e.1 n/\po t.mask e.1 n r=j/\ ∀n' r',r'<=rn t.mask e.1 n'->JG n' r' n r->Pq t (po t.mask e.1 n' r')
end
def stp (mask:Nat) (acc:Option (Array (Option Nat)×Nat)) (h:Int):Option (Array (Option Nat)×Nat):=do
 let (owner,k) <- acc
 let j <- SetTable.layClean.free mask owner (SetTable.turns mask) (SetTable.bits h%(mask+1)) (SetTable.bits h)
 pure (owner.setIfInBounds j (some k),k+1)
structure Lay (mask:Nat) (hs:List Int) (owner:Array (Option Nat)):Prop where
 size:owner.size=mask+1
 val: ∀j k:Nat,owner[j]? =some (some k)->k<hs.length
 uq: ∀j j' k:Nat,owner[j]? =some (some k)->owner[j']? =some (some k)->j=j'
 ex: ∀ (k:Nat) h,hs[k]? =some h-> ∃n r,r<=rn mask h n/\owner[po mask h n r]? =some (some k)/\ ∀n' r',r'<=rn mask h n'->JG n' r' n r-> ∃k',owner[po mask h n' r']? =some (some k')
end Tb
end
section
namespace Ts
open PySem PySem.Spec PyProof.Rows
section
variable {prog:Program} {w:World} {A:Around} {E:Value->Shared->Prop} {s:Shared} {K:Type} [DecidableEq K] {knd:HeapKind prog w K}
structure SetK (knd:HeapKind prog w K) (h:Heap) (a:Addr) (ks:List (K×Addr)) (es:Array (Int×Value)) (ep:Nat) (t:SetTable):Prop where
 at_:St.yu h a es ep t
 ok:Tb.Ok t es
 lo:es.size*5<t.mask*3
 ms:t.mask=7\/t.mask=31\/t.mask=127\/t.mask=511\/t.mask=2047\/t.mask=8191
 ee:es.toList=ks.map λ p=>(knd.hash p.1,Value.ref p.2)
 is: ∀p∈ks,knd.is h p.1 p.2
 nd:(ks.map (·.1)).Nodup
 led:w.params.followText "set-order"=false->t.led=true
structure Calm (knd:HeapKind prog w K):Prop where
 cs: ∀ {A:Around} {E:Value->Shared->Prop} {s:Shared} {k:K} {a:Addr} {Q:Bool->Shared->Prop},knd.is s.heap k a->Q false s->wpAny (model prog w) A (ofAClassStatement 8 (.ref a)) Q E s
 hv: ∀ {A:Around} {E:Value->Shared->Prop} {s:Shared} {k:K} {a:Addr} {Q:Bool->Shared->Prop},knd.is s.heap k a->(∀b,Q b s)->wpAny (model prog w) A (hashByValue 8 (.ref a)) Q E s
 kp: ∀ {h h':Heap} {k:K} {a d:Addr} {o:Obj},knd.is h k a->h.get? d=some o->o.cls≠ .type "tuple"->(∀c o',c≠d->h.get? c=some o'->h'.get? c=some o')->knd.is h' k a
 ke: ∀ {h h':Heap} {k:K} {a:Addr},knd.is h k a->(∀c o',h.get? c=some o'->h'.get? c=some o')->knd.is h' k a
end
end Ts
end
section
namespace Ck
open PySem PySem.Spec PyProof.Rows Nk
abbrev JH:=Int×yr
section
variable {prog:Program} {w:World} {A:Around} {E:Value->Shared->Prop} {s:Shared}
def Qe (prog:Program) (w:World) (h:Heap) (k:JH) (a:Addr):Prop:= ∃o n v1 b,h.get? a=some o/\o.cls= .type "tuple"/\o.data= .seq ([v1, .ref b].toArray) n/\(intKind prog w).is k.1 v1=true/\N6 prog w h k.2 b
def JK (k:JH):Int:=reduceHash (Builtin.Tuple.tupleHashOf [hashInt k.1,DW k.2])
end
end Ck
end
section
namespace L2
open PySem PySem.Spec PyProof.Rows Sx Nk Ck
abbrev uz:=Int×Int×Int×List Int
def Pr (H:Hp) (b:Addr) (k:uz):Prop:= ∃c,H b=some (.tup [.int k.1, .ref c])/\JD H c k.2
def Ng (x:uz×Addr×Value):DictEntry:=#[JK x.1, .ref x.2.1,x.2.2]
def Qf (a:Addr) (kvs:List (Addr×uz×V)) (h:Heap):Prop:=kvs.length<=sizeLine/\(a==sysModules)=false/\ ∃xs:List (uz×Addr×Value),Paired (λ (p:Addr×uz×V) (q:uz×Addr×Value)=>p.2.1=q.1/\p.1=q.2.1/\RelV p.2.2 q.2.2) kvs xs/\
 ∃o es ep,h.get? a=some o/\o.ExactDict/\o.data= .dict es ep/\es.toList=xs.map Ng/\(xs.map (·.1)).Nodup
abbrev Nh (a:Addr) (kvs:List (Addr×uz×V)):HO:= .ext (Qf a kvs)
def Ni (kvs:List (Addr×uz×V)) (k:uz):Option V:=(kvs.find? λ p=>decide (p.2.1=k)).map (·.2.2)
def Nj (kvs:List (Addr×uz×V)) (b:Addr) (k:uz) (v:V):List (Addr×uz×V):=if (Ni kvs k).isSome then kvs.map λ p=>if p.2.1=k then (p.1,p.2.1,v) else p else kvs++[(b,k,v)]
def Nm (H:Hp) (a:Addr) (y v:V) (H':Hp):Prop:= ∃kvs k b,H a=some (Nh a kvs)/\(∀p∈kvs,Pr H p.1 p.2.1)/\y= .ref b/\Pr H b k/\kvs.length<sizeLine/\H'=upd H a (Nh a (Nj kvs b k v))
section
variable {P:Program} {w:World} {H:Hp} {h:Heap} {a b:Addr}
abbrev KC:List (Addr×uz×V)->List (uz×Addr×Value)->Prop:=Paired λ p q=>p.2.1=q.1/\p.1=q.2.1/\RelV p.2.2 q.2.2
end
def Pu:TE:=λ _ H Q=> ∀p,H p=none->Q (.ref p) (upd H p (Nh p []))
def Px (td ty tv:TE):TS:=λ D σ H=>tv σ H λ v H1=>td σ H1 λ x H2=>ty σ H2 λ y H3=> ∃a H4,x= .ref a/\Nm H3 a y v H4/\D.nx σ H4
end L2
end
section
namespace L2
open PySem PySem.Spec PyProof.Rows Nk
def Cw (od:Obj) (a:Addr) (kvs:List (Addr×Sk×V)):It where
 go:=λ i H=>H a=some (.frz od (lw a kvs))/\i<kvs.length
 yld:=λ i H v H'=>H'=H/\ ∃p,kvs[i]? =some p/\v= .ref p.1
 stop:=λ i H=>H a=some (.frz od (lw a kvs))/\kvs.length<=i
def Np (tl:TE):TI:=λ σ H R=>tl σ H λ x H1=> ∃a kvs,x= .ref a/\((H1 a=some (lw a kvs)/\ ∀od,R (Cw od a kvs) (upd H1 a (.frz od (lw a kvs))))\/ ∃od,H1 a=some (.frz od (lw a kvs))/\R (Cw od a kvs) H1)
def Cy (od:Obj) (a:Addr) (kvs:List (Addr×Sk×V)):It where
 go:=λ i H=>H a=some (.frz od (lw a kvs))/\i<kvs.length
 yld:=λ i H v H'=> ∃p q,H p=none/\kvs[i]? =some q/\v= .ref p/\H'=upd H p (.tup [.ref q.1,q.2.2])
 stop:=λ i H=>H a=some (.frz od (lw a kvs))/\kvs.length<=i
def Mi (tl:TE):TI:=λ σ H R=>tl σ H λ x H1=> ∃a kvs,x= .ref a/\((H1 a=some (lw a kvs)/\ ∀od,R (Cy od a kvs) (upd H1 a (.frz od (lw a kvs))))\/ ∃od,H1 a=some (.frz od (lw a kvs))/\R (Cy od a kvs) H1)
def Py (td ty:TE):TE:=λ σ H Q=>td σ H λ x H1=> ∃a,x= .ref a/\Iz H1 a/\ty σ H1 λ y H2=> ∃kvs k b v,H2 a=some (.dT kvs)/\y= .ref b/\H2 b=some (.tup (k.map kV))/\dh kvs k=some v/\Q v (upd H2 a (.dT (Je kvs k)))
def PB (td ty tx:TE):TE:=λ σ H Q=>td σ H λ x H1=> ∃a,x= .ref a/\Iz H1 a/\ty σ H1 λ y H2=>tx σ H2 λ z H3=> ∃kvs k b,H3 a=some (.dT kvs)/\y= .ref b/\H3 b=some (.tup (k.map kV))/\kvs.length<sizeLine/\
 (∀v,dh kvs k=some v->Q v H3)/\(dh kvs k=none->Q z (upd H3 a (.dT (kvs++[(k,z)]))))
end L2
end
section
namespace Nk
open PySem PySem.Spec PyProof PyProof.Rows
mutual
def Qg:PyData->PyData->Bool
 | .int a, .int b=>decide (a<b)
 | .str x, .str y=>decide (x.cps.toList<y.cps.toList)
 | .tuple xs, .tuple ys=>JL xs ys
 | _,_=>false
def JL:List PyData->List PyData->Bool
 | [],[]=>false
 | [],_::_=>true
 | _::_,[]=>false
 | x::xs,y::ys=>if PyData.eqv x y=true then JL xs ys else Qg x y
end
mutual
inductive CmpD:PyData->PyData->Prop where
 | int (a b:Int):CmpD (.int a) (.int b)
 | str (x y:Str):CmpD (.str x) (.str y)
 | tup {xs ys:List PyData}:CmpDs xs ys->CmpD (.tuple xs) (.tuple ys)
inductive CmpDs:List PyData->List PyData->Prop where
 | nil {ys:List PyData}:CmpDs [] ys
 | over {xs:List PyData}:CmpDs xs []
 | cons {x y:PyData} {xs ys:List PyData}:CmpD x y->CmpDs xs ys->CmpDs (x::xs) (y::ys)
end
end Nk
end
section
namespace L2
open PySem PySem.Spec PyProof.Rows Nk
def Nq (td ty:TE):TE:=λ σ H Q=>td σ H λ x H1=> ∃a kvs,x= .ref a/\Rd H1 a (lw a kvs)/\ty σ H1 λ y H2=> ∃o,yt H2 a y o/\Q (o.getD .non) H2
end L2
end
set_option linter.all false
namespace Mm
variable {k:Nat}
theorem cJ (x:Int) (m:Nat) (h:0<m): ∃n:Nat,x%(m:Int)=(n:Int)/\n<m:=by
 have a:=Xi x (b:=(m:Int)) ();have c:=Xk x (b:=(m:Int)) ();show#[(x%(m:Int)).toNat,(),()]
theorem uA (x:Int) (k:Nat): ∃n:Nat,x%(2^k:Int)=(n:Int)/\n<2^k:=by
 have e:((2^k:Nat):Int)=(2^k:Int):=by simp
 rw [<- e];show cJ x (2^k) (Nat.two_pow_pos k)
def col (h:Nat) (i:Int):Nat:=(i*2862933555777941757 / 16%2^h).toNat
theorem FQ (h:Nat) (i:Int):i*2862933555777941757 / 16%2^h=(col h i:Int):=by
 let#[n,e,_]:=uA (i*2862933555777941757 / 16) h;unfold col;rw [e];simp
theorem FT (h:Nat) (i:Int):col h i<2^h:=by
 let#[n,e,l]:=uA (i*2862933555777941757 / 16) h;unfold col;rw [e];simpa using l
theorem Cz (k:Nat):(0:Int)<1*2^k:=by
 rw [Int.one_mul];show Int.pow_pos (by decide)
theorem cL {a b:Type} (f:a->Option b) (xs:List a) (x:a):(xs++[x]).filterMap f=xs.filterMap f++(f x).toList:=by
 rw [List.filterMap_append]
 cases h:f x<;>simp [h]
def cellAt (ns:List Int) (k:Nat):Int:=ns.getD k 0
def hgt (c:Int):Nat:=if c%2=0 then (1+c / 2%6).toNat else (1+c / 2%60).toNat
theorem getD_some {ns:List Int} {z:Int} (h:ns[k]? =some z):cellAt ns k=z:=by
 unfold cellAt;rw [Zz,h];rfl
theorem getD_none {ns:List Int} (h:ns.length<=k):cellAt ns k=0:=by
 unfold cellAt;rw [Zz,List.getElem?_eq_none h];rfl
def On (h n:Nat) (s:Int×Int):Prop:=0<=s.1/\s.1<n/\0<=s.2/\s.2<h
instance decOn (h n:Nat) (s:Int×Int):Decidable (On h n s):=by unfold On;show inferInstance
def pX (c:Int):Nat:=if c%4=3 then (1+c / 4%60).toNat else (1+c / 4%6).toNat
theorem CG (c:Int):pX c<=60:=by unfold pX;split<;>rfl'
end Mm
section
namespace L2
open PySem
variable {E:XK} {g:TG} {t:TA} {u:TS} {σ:St} {n:Nat} {wi:TI} {A:Prop} {D:Ends} {b:Bool} {H H':Hp} {v x y:V} {T:String} {d:PyData} {i j k:Int} {a e p:Addr} {cs:List Nat} {qs:List Addr} {ys zs:List V} {f:Int->Int->V} {hi:Option Int} {ds:List PyData} {C:Int->Int->Prop} {R:Bool->Hp->Prop} {κ:List (Option Nat)} {ta tb td te tl to:TE} {r:V->Option Int->Option Int->Hp->VK->Prop}
theorem JM {B:Prop} (h:B):if (!true)=true then A else B:=xj h
theorem JN {B:Prop} (h:A):if (!false)=true then A else B:=xm h
theorem eQ {p B:Prop} [Decidable p] (a:p->A) (b: ¬p->B):if decide p=true then A else B:=by
 by_cases h:p
 .rw [Yi h];show xm (a h)
 .rw [Yj h];show xj (b h)
theorem iW {p B:Prop} [Decidable p] (a: ¬p->A) (b:p->B):if (!decide p)=true then A else B:=by
 by_cases h:p
 .rw [Yi h];show xj (b h)
 .rw [Yj h];show xm (a h)
theorem JP {B:Prop} (a:b=true->A) (c:b=false->B):if b=true then A else B:=by
 cases b with
 | true=>show xm (a rfl)
 | false=>show xj (c rfl)
theorem JQ {p B:Prop} [Decidable p] (a:p) (h:A):if decide p=true then A else B:=eQ (λ _=>h) λ n=>absurd a n
theorem JR {p B:Prop} [Decidable p] (a: ¬p) (h:B):if decide p=true then A else B:=eQ (λ n=>absurd n a) λ _=>h
theorem rO {p B:Prop} [Decidable p] (a:p) (h:B):if (!decide p)=true then A else B:=iW (λ n=>absurd a n) λ _=>h
theorem FW {b:Type} [DecidableEq b] {a:b} {B:Prop} (h:B):if (!decide (a=a))=true then A else B:=rO rfl h
theorem rP {p B:Prop} [Decidable p] (a: ¬p) (h:A):if (!decide p)=true then A else B:=iW (λ _=>h) λ n=>absurd n a
theorem Same.new {a:Hp} {o:HO} (e:Same a H) (h:H p=none):Same a (upd H p o):=λ b u q=>by rw [aC (aP (e b u q) h)];show e b u q
theorem Same.tup {K:W.Frag} {xs:List V} (e:Same H H') (h:SqT K H a xs):SqT K H' a xs:=by
 rcases h with (h | ⟨o,h⟩) | h
 .exact .inl (.inl (e _ _ h))
 .exact .inl (.inr #[o,e _ _ h])
 .exact .inr h
theorem gC {K:W.Frag} {o:HO} {xs:List V} (h:H p=none) (q:SqL K H a xs):SqL K (upd H p o) a xs:=Same.seq (Same.new (Same.refl H) h) q
theorem Nr {r:St}:mU (none::r) (some v::r):=⟨rfl,λ j u z=>by
 match j,z with
 | j+1,z=>show z⟩
theorem DX (a b:Int):decide (V.int a=V.int b)=decide (a=b):=by simp
theorem CJ {xs:List V} (h:0<=k) (a:0<=j):oY xs (some k) (some j)=(xs.take j.toNat).drop k.toNat:=by
 unfold oY;change(xs.drop (if k<0 then (k+(xs.length:Int)).toNat else min k.toNat xs.length)).take ((if j<0 then (j+(xs.length:Int)).toNat else min j.toNat xs.length)-(if k<0 then (k+(xs.length:Int)).toNat else min k.toNat xs.length))=_;rw [if_neg (Int.not_lt.mpr h),if_neg (Int.not_lt.mpr a),List.drop_take];generalize k.toNat=k;generalize j.toNat=j;rcases Nat.le_total k xs.length with c | c
 .rw [ć c,List.take_eq_take_iff,É];rcases Nat.le_total j xs.length with d | d
  .rw [ć d]
  .rw [þ d,Nat.min_self,þ (Nat.sub_le_sub_right d k)]
 .rw [þ c,ß (Zo _),ß c,List.take_nil,List.take_nil]
theorem pY (ns:List Int):(ns.map V.int).all dB=true:=by
 rw [List.all_map];simp [Function.comp_def,dB]
theorem FZ {a:Type} {xs:List a} (h:xs≠[]):oG xs (-1)=some (xs.getLast h):=by
 have e:=iB xs.dropLast (xs.getLast h);rwa [List.dropLast_concat_getLast] at e
theorem yw {b:Type} {xs:List b} (c:0<=i) (a:i.toNat<xs.length):oG xs i=some xs[i.toNat]:=by
 have e:=bf (xs:=xs) (j:=i.toNat) (v:=xs[i.toNat]) (Zc a);rwa [show((i.toNat:Nat):Int)=i by rfl'] at e
theorem uB (xs:List Nat):xs.map (λ i:Nat=>V.int (i:Int))=(xs.map λ i:Nat=>(i:Int)).map V.int:=by rw [Zj];rfl
section
variable {σ:St} {H:Hp} {Q:VK} {D:Ends} {K:W.Frag}
theorem JS {t:TS} (h:t { D with nx:=u D } σ H):aG t u D σ H:=h
theorem JT (h:te σ H λ x H1=>g x σ H1 D.nx):aO te g D σ H:=h
theorem JV (h:te σ H D.rt):bh te D σ H:=h
theorem G3 (h:D.nx σ H):aW D σ H:=h
theorem G4 (h:te σ H λ _ H1=>D.nx σ H1):cD te D σ H:=h
theorem JW {c:TT} {t:TS} (h:c σ H λ b H1=>if b=true then t D σ H1 else u D σ H1):bL c t u D σ H:=h
theorem JX {i:Nat} (e:σ[i]? =some (some v)) (h:Q v H):ak i σ H Q:=#[v,e,h]
theorem Qh (h:Q v H):tC v σ H Q:=h
theorem Nt {r:R2} (h:ta σ H λ x H1=>tb σ H1 λ y H2=>r x y H2 Q):aK r ta tb σ H Q:=h
theorem Nu {r:V->Hp->VK->Prop} (h:ta σ H λ x H1=>r x H1 Q):Et r ta σ H Q:=h
theorem Nv {r:List V->Hp->VK->Prop} (h:t σ H λ vs H1=>r vs H1 Q):cz r t σ H Q:=h
theorem s_call {sp:Sp} (h:t σ H λ vs H1=>sp vs H1 Q E):aJ sp [] E t σ H Q:=by
 unfold aJ;simpa only [è] using h
theorem JZ {R:List V->Hp->Prop} (h:R [] H):au σ H R:=h
theorem G5 {a:TA} {R:List V->Hp->Prop} (h:ta σ H λ x H1=>a σ H1 λ xs H2=>R (x::xs) H2):aa ta a σ H R:=h
theorem G6 (h:te σ H λ x H'=> ∃k,x= .bl k/\R k H'):b7 te σ H R:=h
theorem K1 (h:te σ H λ x H'=> ∃k,wM K x H' k/\R k H'):ie K te σ H R:=h
theorem Nx {R:Bool->Prop} (h:R b): ∃k,V.bl b= .bl k/\R k:=#[b,rfl,h]
theorem K3 {R:Bool->Prop} (h:R b): ∃k,wM K (.bl b) H k/\R k:=#[b,rfl,h]
theorem K4 {t:TT} (h:t σ H λ c H1=>R (!c) H1):iy t σ H R:=h
theorem K5 {t u:TT} (h:t σ H λ c H1=>if c=true then u σ H1 R else R false H1):wz t u σ H R:=h
theorem Ny {t u:TT} (h:t σ H λ c H1=>if c=true then R true H1 else u σ H1 R):J4 t u σ H R:=h
theorem G7 (h:ta σ H λ x H1=> ∃c,x= .bl c/\if c=true then tb σ H1 Q else Q (.bl false) H1):lH ta tb σ H Q:=h
theorem G8 (h:ta σ H λ x H1=> ∃c,x= .bl c/\Q (.bl (!c)) H1):u5 ta σ H Q:=h
theorem K6 (h:R true H):jc σ H R:=h
theorem CK {i:Nat} {R:St->Hp->Prop} (h:R (σ.set i (some v)) H):aA i v σ H R:=h
theorem G9 {R:St->Hp->Prop} (h:R σ H):wD [] σ H R:=#[rfl,h]
theorem CN {t:TG} {u:Bd} {r:List V} {R:St->Hp->Prop} (h:t v σ H λ σ' H'=>u r σ' H' R):jh t u (v::r) σ H R:=#[v,r,rfl,h]
theorem rQ {t:Bd} {xs:List V} {R:St->Hp->Prop} (c:SqT K H a xs) (b:xs.length=n) (h:t xs σ H R):uZ K n t (.ref a) σ H R:=#[a,xs,rfl,c,b,h]
theorem Ga {a:TE} {t:wC} {R:St->Hp->Prop} (h:to σ H λ o H1=>a σ H1 λ i H2=>t o i v H2 λ H3=>R σ H3):Bo to a t v σ H R:=h
theorem K7 (h:Q (f i j) H):vm f (.int i) (.int j) H Q:=#[i,j,rfl,rfl,h]
theorem Nz (c:C i j) (h:Q (f i j) H):rI C f (.int i) (.int j) H Q:=#[i,j,rfl,rfl,c,h]
theorem NB {f:Int->V} (h:Q (f i) H):rU f (.int i) H Q:=#[i,rfl,h]
theorem K8 (h:Q (.bl (decide (i=j))) H):qt (.int i) (.int j) H Q:=#[rfl,by rw [DX];show h]
theorem K9 (h:Q (.bl (!decide (i=j))) H):Dv (.int i) (.int j) H Q:=#[rfl,by rw [DX];show h]
theorem Ka (h:t σ H λ xs H1=>xs.length<=sizeLine/\ ∀p,H1 p=none->Q (.ref p) (upd H1 p (.tup xs))):dH t σ H Q:=h
theorem Kc (h:t σ H λ xs H1=>xs.length<=sizeLine/\ ∀p,H1 p=none->Q (.ref p) (upd H1 p (.lst xs))):cC t σ H Q:=h
theorem Kd {a b:St} {P:Prop} (e:mU a b) (h:P):mU a b/\P:=#[e,h]
theorem Ke {P:Prop} (e:n<=1000) (h:P):n<=sizeLine/\P:=#[small e,h]
theorem NK {b a:TO} (h:te σ H λ x H1=>b σ H1 λ l H2=>a σ H2 λ u H3=>r x l u H3 Q):Fd r te b a σ H Q:=h
theorem yx {R:Option Int->Hp->Prop} (h:R none H):gr σ H R:=h
theorem Gb {t:TE} {R:Option Int->Hp->Prop} (h:t σ H λ x H1=> ∃i,x= .int i/\R (some i) H1):ji t σ H R:=h
theorem Ge {R:Int->Prop} (h:R i): ∃k,V.int i= .int k/\R k:=#[i,rfl,h]
theorem NP {r:V->List V->Hp->VK->Prop} (h:to σ H λ x H1=>Iw K T x H1/\t σ H1 λ xs H2=>r x xs H2 Q):qu K T r to t σ H Q:=h
theorem dN {xs:List V} {P:Prop} (e:SqL K H a xs) (h:P):Iw K "list" (.ref a) H/\P:=#[.inl #[rfl,xs,e],h]
def yz (g:TG) (tb:TS) (D:Ends) (σ:St):It->Hp->Prop:=λ J H1=> ∃W:Nat->Nat->St->Hp->Prop,(∃m,W 0 m σ H1)/\ ∀i m σ H,W i m σ H->
 (J.stop i H/\D.nx σ H)\/(J.go i H/\ ∃N:St->Hp->Prop,(∀σ' H',N σ' H'-> ∃m',m'<m/\W (i+1) m' σ' H')/\ ∀x H',J.yld i H x H'->g x σ H' λ σ2 H2=>tb { D with nx:=N,ct:=N,bk:=D.nx } σ2 H2)
theorem Kf {a:TS} (h:wi σ H (yz g a D σ)):dO wi g a D σ H:=h
def yC (κ:List (Option Nat)) (g:TG) (tc:TT) (te:TE) (σ:St) (Q:VK):It->Hp->Prop:=λ J H1=> ∃W:Nat->Nat->List V->Hp->Prop,(∃m,W 0 m [] H1)/\ ∀i m ys H,W i m ys H->
 (J.stop i H/\ ∀p,H p=none->Q (.ref p) (upd H p (.lst ys)))\/
 (J.go i H/\ys.length<sizeLine/\ ∃N:List V->Hp->Prop,(∀ys' H',N ys' H'-> ∃m',m'<m/\W (i+1) m' ys' H')/\ ∀x H',J.yld i H x H'->g x (cap κ σ) H' λ σ2 H2=>mU (cap κ σ) σ2/\tc σ2 H2 λ b H3=>if b=true then te σ2 H3 λ y H4=>N (ys++[y]) H4 else N ys H3)
theorem NQ {a:TT} (h:wi σ H (yC κ g a te σ Q)):lu κ wi g a te σ H Q:=h
def iL (K:W.Frag) (R:It->Hp->Prop) (x:V) (H:Hp):Prop:= ∃a,x= .ref a/\(∃xs,SqL K H a xs)/\R (Bp K a) H
def iT (K:W.Frag) (R:It->Hp->Prop) (x:V) (H:Hp):Prop:= ∃a,x= .ref a/\(∃xs,SqT K H a xs)/\R (Iu K a) H
def iR (R:It->Hp->Prop) (vs:List V) (H:Hp):Prop:= ∃j:Int,vs=[.int j]/\ -(2^62)<=j/\j<2^62/\R (vd 0 j.toNat) H
def Qv (R:It->Hp->Prop) (vs:List V) (H:Hp):Prop:= ∃i j:Int,vs=[.int i, .int j]/\(-(2^62)<=i/\i<2^62/\ -(2^62)<=j/\j<2^62)/\R (vd i (j-i).toNat) H
theorem CP {R:It->Hp->Prop} (h:tl σ H (iL K R)):cO K tl σ H R:=h
theorem Gf {R:It->Hp->Prop} (h:tl σ H (iT K R)):oO K tl σ H R:=h
theorem CQ {a:TA} {R:It->Hp->Prop} (h:a σ H (iR R)):iz a σ H R:=h
def iS (R:It->Hp->Prop) (x:V) (H:Hp):Prop:= ∃z,x= .str z/\R (Mz z) H
theorem Gg {R:It->Hp->Prop} (h:tl σ H (iS R)):jU tl σ H R:=h
def iZ (K:W.Frag) (R:It->Hp->Prop) (vs:List V) (H:Hp):Prop:= ∃a b xs ys,vs=[.ref a, .ref b]/\SqL K H a xs/\SqL K H b ys/\R (Ol K a b) H
end
section
variable {σ:St} {H:Hp} {Q:VK} {D:Ends} {K:W.Frag} {g:TG} {tb:TS} {κ:List (Option Nat)} {tc:TT} {te:TE}
theorem jq {f:Type} (c:f->V) {zs:List f} (n:SqL K H a (zs.map c)) (b:Nat->St->Hp->Prop) (j:b 0 σ H) (l: ∀i σ H',b i σ H'->SqL K H' a (zs.map c))
  (m: ∀ (i:Nat) z σ H',zs[i]? =some z->b i σ H'->g (c z) σ H' λ d H2=>tb { D with nx:=b (i+1),ct:=b (i+1),bk:=D.nx } d H2) (k: ∀σ H',b zs.length σ H'->D.nx σ H'):iL K (yz g tb D σ) (.ref a) H:=by
 refine#[a,rfl,#[_,n],wI (K:=K) (a:=a) (xs:=zs.map c) b j (λ i σ H _ h=>l i σ H h) ?_ ?_]
 .intro i x σ H' e p;rw [Zm] at e;let#[z,o,rfl]:=Yk.mp e;show m i z σ H' o p
 .intro σ H' p;rw [Qb] at p;show k σ H' p
theorem yD {f:Type} (c:f->V) {zs:List f} (n:SqT K H a (zs.map c)) (b:Nat->St->Hp->Prop) (j:b 0 σ H) (l: ∀i σ H',b i σ H'->SqT K H' a (zs.map c))
  (m: ∀ (i:Nat) z σ H',zs[i]? =some z->b i σ H'->g (c z) σ H' λ d H2=>tb { D with nx:=b (i+1),ct:=b (i+1),bk:=D.nx } d H2) (k: ∀σ H',b zs.length σ H'->D.nx σ H'):iT K (yz g tb D σ) (.ref a) H:=by
 refine#[a,rfl,#[_,n],Br (K:=K) (a:=a) (xs:=zs.map c) b j (λ i σ H _ h=>l i σ H h) ?_ ?_]
 .intro i x σ H' e p;rw [Zm] at e;let#[z,o,rfl]:=Yk.mp e;show m i z σ H' o p
 .intro σ H' p;rw [Qb] at p;show k σ H' p
theorem uC {n:Int} (m:Nat) (e:n.toNat=m) (j:m<=1000000000) (k: -1000000000<=n) (a:Nat->St->Hp->Prop) (c:a 0 σ H)
  (h: ∀ (i:Nat) σ H',i<m->a i σ H'->g (.int (i:Int)) σ H' λ b H2=>tb { D with nx:=a (i+1),ct:=a (i+1),bk:=D.nx } b H2) (d: ∀σ H',a m σ H'->D.nx σ H'):iR (yz g tb D σ) [.int n] H:=by
 refine#[n,rfl,(),(),?_];rw [e];refine vh a c (λ i σ H' f p=> ?_) d;rw [Int.zero_add];show h i σ H' f p
theorem Gh {n:Int} (m:Nat) (e:n.toNat=m) (k:m<=1000000) (q: -1000000000<=n) (a:Nat->List V->Hp->Prop) (f:a 0 [] H) (o: ∀i ys H',a i ys H'->ys.length<=i)
  (l: ∀ (i:Nat) ys H',i<m->a i ys H'->g (.int (i:Int)) (cap κ σ) H' λ c H2=>mU (cap κ σ) c/\tc c H2 λ b H3=>if b=true then te c H3 λ y d=>a (i+1) (ys++[y]) d else a (i+1) ys H3)
  (h: ∀ys H',a m ys H'-> ∀p,H' p=none->Q (.ref p) (upd H' p (.lst ys))):iR (yC κ g tc te σ Q) [.int n] H:=by
 refine#[n,rfl,(),(),?_];rw [e];refine xF a f (Zy k (by decide)) o (λ i ys H' j p=> ?_) h;rw [Int.zero_add];show l i ys H' j p
theorem Kg {n:Int} (m:Nat) (e:n.toNat=m) (k:m<=1000000) (l: -1000000000<=n) (f:Nat->V)
  (r: ∀i,i<m-> ∀ (A:VK),A (f i) H->g (.int (i:Int)) (cap κ σ) H λ a H2=>mU (cap κ σ) a/\te a H2 A)
  (h: ∀p,H p=none->Q (.ref p) (upd H p (.lst ((List.range m).map f)))):iR (yC κ g jc te σ Q) [.int n] H:=by
 refine Gh m e k l (λ i ys b=>b=H/\ys=(List.range i).map f) #[rfl,rfl] ?_ ?_ ?_
 .rintro i ys _ ⟨rfl,rfl⟩;simp
 .rintro i ys b j ⟨d,rfl⟩;subst d;have q:=r i j (λ y c=>c=b/\(List.range i).map f++[y]=(List.range (i+1)).map f) #[rfl,by rw [List.range_succ,Zb];rfl];simpa only [jc,ð] using q
 .rintro ys _ ⟨rfl,rfl⟩ p o;show h p o
theorem rR {j:Type} (c:j->V) {zs:List j} (r:SqL K H a (zs.map c)) (o:zs.length<=1000000) (d:Nat->List V->Hp->Prop) (l:d 0 [] H) (n: ∀i ys H',d i ys H'->SqL K H' a (zs.map c)) (f: ∀i ys H',d i ys H'->ys.length<=i)
  (q: ∀ (i:Nat) z ys H',zs[i]? =some z->d i ys H'->g (c z) (cap κ σ) H' λ e H2=>mU (cap κ σ) e/\tc e H2 λ b H3=>if b=true then te e H3 λ y k=>d (i+1) (ys++[y]) k else d (i+1) ys H3)
  (m: ∀ys H',d zs.length ys H'-> ∀p,H' p=none->Q (.ref p) (upd H' p (.lst ys))):iL K (yC κ g tc te σ Q) (.ref a) H:=by
 refine#[a,rfl,#[_,r],BV (K:=K) (a:=a) (xs:=zs.map c) d l (by rw [Qb];show Zy o (by decide)) (λ i ys H' _ p=>n i ys H' p) f ?_ ?_]
 .intro i x ys H' h p;rw [Zm] at h;let#[z,f,rfl]:=Yk.mp h;show q i z ys H' f p
 .intro ys H' p;rw [Qb] at p;show m ys H' p
end
section
variable {σ:St} {H:Hp} {Q:VK} {D:Ends} {K:W.Frag} {g:TG} {tb:TS} {κ:List (Option Nat)} {tc:TT} {te:TE}
theorem uE {z:Str} (a:Nat->St->Hp->Prop) (j:a 0 σ H)
  (l: ∀ (i:Nat) c σ H',z.cps[i]? =some c->a i σ H'->g (.str #[([c].toArray)]) σ H' λ d H2=>tb { D with nx:=a (i+1),ct:=a (i+1),bk:=D.nx } d H2) (k: ∀σ H',a z.cps.size σ H'->D.nx σ H'):iS (yz g tb D σ) (.str z) H:=by
 refine#[z,rfl,λ i m σ H=>m=z.cps.size-i/\i<=z.cps.size/\a i σ H,#[z.cps.size,by simp,Yv _,j],?_];rintro i m σ H ⟨rfl,o,p⟩;by_cases b:i<z.cps.size
 .refine .inr #[b,a (i+1),λ σ' H' n=>#[z.cps.size-(i+1),(),rfl,b,n],λ x H' y=> ?_];let#[e,c,f,h]:=y;subst e h;show l i c σ _ f p
 .have e:i=z.cps.size:=()
  subst e;show .inl #[rfl,k σ H p]
end
def Thing (H:Hp):V->Prop
 | .non=>True
 | .bl _=>True
 | .int _=>True
 | .str x=>x.length<=100000
 | .ref a=>(∃xs,H a=some (.lst xs))\/(∃xs,H a=some (.tup xs))\/ ∃kvs,H a=some (.dK kvs)
 | _=>False
def isI:V->Bool
 | .int _=>true
 | _=>false
theorem Thing.same (s:Same H H'): ∀ {x:V},Thing H x->Thing H' x
 | .non,_=>True.intro
 | .bl _,_=>True.intro
 | .int _,_=>True.intro
 | .str _,h=>h
 | .ref a,h=>h.elim (λ ⟨xs,e⟩=> .inl #[xs,s _ _ e]) λ h=>h.elim (λ ⟨xs,e⟩=> .inr (.inl #[xs,s _ _ e])) λ ⟨xs,e⟩=> .inr (.inr #[xs,s _ _ e])
theorem Thing.ty {K:W.Frag}: ∀ {x:V},Thing H x->(∃b,x= .bl b)\/(∃i,x= .int i)\/(∃s:Str,x= .str s/\s.length<=100000)\/ ∃n:String,TyOf K H x (.type n)/\(n="NoneType"\/n="list"\/n="tuple"\/n="dict")/\isI x=false/\(∀s,x≠ .str s)
 | .non,_=> .inr (.inr (.inr #[_, .non, .inl rfl,rfl,λ _ e=>nomatch e]))
 | .bl b,_=> .inl #[b,rfl]
 | .int i,_=> .inr (.inl #[i,rfl])
 | .str s,h=> .inr (.inr (.inl #[s,rfl,h]))
 | .ref a,h=> .inr (.inr (.inr (h.elim (λ ⟨xs,e⟩=>#[_, .lst e, .inr (.inl rfl),rfl,λ _ e=>nomatch e]) λ h=>h.elim (λ ⟨xs,e⟩=>#[_, .tup e, .inr (.inr (.inl rfl)),rfl,λ _ e=>nomatch e]) λ ⟨xs,e⟩=>#[_, .dK e, .inr (.inr (.inr rfl)),rfl,λ _ e=>nomatch e])))
theorem di {K:W.Frag} {Q:VK} {t:Value} (a:TyOf K H x t) (e:PySem.W.kitOne K t (.type T)=some b) (h:Q (.bl b) H):dj K [x, .ty T] H Q:=#[T,x,t,b,rfl,a,e,h]
section
variable {σ:St} {H:Hp} {Q:VK} {D:Ends} {K:W.Frag}
theorem yE (a b:Str):decide (V.str a=V.str b)=decide (a=b):=by simp
theorem Kh {a b:Str} (h:Q (.bl (decide (a=b))) H):qt (.str a) (.str b) H Q:=#[rfl,by rw [yE];show h]
theorem Kl {a b:Str} (h:Q (.bl (!decide (a=b))) H):Dv (.str a) (.str b) H Q:=#[rfl,by rw [yE];show h]
theorem Km {i j:Str} (h:Q (.bl (!(decide (j.cps.toList<i.cps.toList)))) H):jW (.str i) (.str j) H Q:=#[i,j,rfl,rfl,h]
theorem kJ {i j:Str} (e:i.length+j.length<=1000000) (h:Q (.str (i++j)) H):dw (.str i) (.str j) H Q:=#[i,j,rfl,rfl,Zy e (by decide),h]
theorem cM {xs:List V} (e:SqL K H a xs) (h:Q (.int xs.length) H):cV K [.ref a] H Q:=#[_,_,rfl, .inl #[xs,e,rfl],h]
theorem il {xs:List V} (e:SqT K H a xs) (h:Q (.int xs.length) H):cV K [.ref a] H Q:=#[_,_,rfl, .inr #[xs,e,rfl],h]
theorem rT {x:Str} (e:x.length<=1000000) (h:Q (.int x.length) H):cV K [.str x] H Q:=#[_,_,rfl,#[Nat.le_trans e (by decide),rfl],h]
theorem Ko {x:Str} (e:x.length=1) (h:Q (.int (x.cps.getD 0 0:Nat)) H):DQ [.str x] H Q:=#[x,rfl,e,h]
theorem cQ {xs:List V} (e:SqL K H a xs) (b:oG xs i=some v) (h:Q v H):dU K (.ref a) (.int i) H Q:=#[a,xs,i,v,rfl,rfl,e,b,h]
theorem gQ {xs:List V} (e:SqT K H a xs) (b:oG xs i=some v) (h:Q v H):cF K (.ref a) (.int i) H Q:=#[a,xs,i,v,rfl,rfl,e,b,h]
theorem yF {x:Str} {c:Nat} (e:x.length<=1000000) (a:oG x.cps.toList i=some c) (h:Q (.str #[([c].toArray)]) H):wX (.str x) (.int i) H Q:=#[x,i,c,rfl,rfl,Zy e (by decide),a,h]
theorem CT (h: ∀p,H p=none->Q (.ref p) (upd H p (.dK []))):jQ σ H Q:=h
end
section
variable {σ:St} {H:Hp} {Q:VK} {R:Bool->Hp->Prop} {b c:Bool}
theorem yG {r a:R2} {d:TE} {z:V} (e: ∀R:VK,R x H->ta σ H R) (f: ∀R:VK,R y H->tb σ H R) (g: ∀R:VK,R z H->d σ H R) (i: ∀R:VK,R (.bl b) H->r x y H R) (j: ∀R:VK,R (.bl c) H->a y z H R) (h:Q (.bl (b&&c)) H):j6 r a ta tb d σ H Q:=by
 refine e _ (f _ (i _ #[b,rfl,?_]))
 cases b with
 | true=>rw [if_pos rfl];rw [Bool.true_and] at h;show g _ (j _ h)
 | false=>rw [if_neg Zq];rw [Ä] at h;show h
end
def Sb (ps:List Addr) (H H':Hp):Prop:= ∀b o,b∉ps->H b=some o->H' b=some o
theorem Sb.of {a:List Addr} (s:Same H H'):Sb a H H':=λ b o _ e=>s b o e
theorem Sb.same {a:List Addr} {H1 H2:Hp} (e:Sb a H H1) (s:Same H1 H2):Sb a H H2:=λ b o n q=>s b o (e b o n q)
theorem Sb.new {a:List Addr} {H1:Hp} {o:HO} (e:Sb a H H1) (h:H1 p=none):Sb a H (upd H1 p o):=e.same (aD h o)
theorem Sb.set {a:List Addr} {H1:Hp} {o:HO} (e:Sb a H H1) (h:p∈a):Sb a H (upd H1 p o):=λ b u n q=>by
 rw [aC (show b≠p from λ z=>n (by rw [z];show h))];show e b u n q
theorem Sb.get {b:List Addr} {H1:Hp} {o:HO} (e:Sb b H H1) (n:a∉b) (h:H a=some o):H1 a=some o:=e a o n h
theorem Sb.more {a:List Addr} {H1:Hp} (e:Sb a H H1) (h: ∀p∈a,p∈qs):Sb qs H H1:=λ b o n q=>e b o (λ z=>n (h b z)) q
theorem Sb.seq {b:List Addr} {K:W.Frag} {H1:Hp} {xs:List V} (e:Sb b H H1) (d: ∀p∈b,H p=none) (h:SqL K H a xs):SqL K H1 a xs:=by
 have c: ∀o,H a=some o->a∉b:=λ o q z=>by rw [d a z] at q;cases q
 rcases h with (h | ⟨o,h⟩) | h
 .exact .inl (.inl (e a _ (c _ h) h))
 .exact .inl (.inr #[o,e a _ (c _ h) h])
 .exact .inr h
theorem Sb.at {b:List Addr} {H H1:Hp} {a:Addr} {o:HO} (e:Sb b H H1) (c: ∀p∈b,H p=none) (h:H a=some o):H1 a=some o:=e a o (λ z=>by rw [c a z] at h;cases h) h
section
variable {σ:St} {H:Hp} {Q:VK} {D:Ends} {K:W.Frag} {g:TG} {tb:TS} {κ:List (Option Nat)} {tc:TT} {te:TE}
def Qw (R:It->Hp->Prop) (vs:List V) (H:Hp):Prop:= ∃ (i j c:Int) (n:Nat),vs=[.int i, .int j, .int c]/\c≠0/\Builtin.Range.small i j c=true/\Builtin.divisionGoesByPylong (j-i) c=false/\Builtin.Range.rangeSize i j c=(n:Int)/\R (Jj i c n) H
end
section
variable {σ:St} {H:Hp} {Q:VK} {D:Ends} {K:W.Frag}
theorem Kq {ns:List Int} (e:SqL K H a (ns.map V.int)) (h:Q (.int ns.sum) H):Fw K [.ref a] H Q:=#[a,ns,rfl,e,h]
theorem Kr (h:Q (.int (if j>i then j else i)) H):xO [.int i, .int j] H Q:=#[i,j,rfl,h]
theorem kO (e:SqL K H p ys) (h: ∀l,H l=none->Q (.ref l) (upd H l (.lst ys))):cH K [.ref p] H Q:=#[p,ys,rfl, .inl e,h]
theorem eU {l:Addr} {xs:List V} (e:H l=some (.lst xs)) (n:xs.length<=1000000) (h:Q .non (upd H l (.lst (xs++[y])))):bY (.ref l) [y] H Q:=#[l,xs,y,rfl,rfl,e,Yg n (by decide),h]
theorem Gi {l:Addr} {xs:List V} {R:Hp->Prop} (j:Nat) (e:H l=some (.lst xs)) (a:k=(j:Int)) (b:j<xs.length) (h:R (upd H l (.lst (xs.set j v)))):ph (.ref l) (.int k) v H R:=by
 refine#[l,xs,k,j,rfl,rfl,e,?_,h];subst a;unfold wW;rw [if_pos (),if_pos ()];simp
end
mutual
theorem eqv_refl: ∀d:PyData,d.canLay0=true->PyData.eqv d d=true
 | .none,_=>by simp [PyData.eqv]
 | .bool b,_=>by simp [PyData.eqv]
 | .int i,_=>by simp [PyData.eqv]
 | .str x,_=>by simp [PyData.eqv]
 | .list xs,h=>by
  simp only [PyData.eqv];show eqvAll_refl xs (by simpa only [PyData.canLay0] using h)
 | .tuple xs,h=>by
  simp only [PyData.eqv];show eqvAll_refl xs (by simpa only [PyData.canLay0] using h)
 | .dict kvs,h=>by simp [PyData.canLay0] at h
theorem eqvAll_refl: ∀ds:List PyData,PyData.canLayAll0 ds=true->PyData.eqvAll ds ds=true
 | [],_=>by simp [PyData.eqvAll]
 | d::r,h=>by
  simp only [PyData.canLayAll0,Xm] at h;simp only [PyData.eqvAll,eqv_refl d h.1,eqvAll_refl r h.2,Bool.and_self]
end
def Sh (n:Nat) (d:PyData):Prop:=d.canLay0=true/\d.depth<=n
theorem rY {n:Nat}: ∀ {ds:List PyData},(∀d∈ds,Sh n d)->PyData.canLayAll0 ds=true/\PyData.depthAll ds<=n
 | [],_=>#[by simp [PyData.canLayAll0],by simp [PyData.depthAll]]
 | d::r,h=>by
  let#[a,f]:=h d Zp;let#[b,g]:=rY (ds:=r) λ e c=>h e (Zu _ c)
  show#[by simp [PyData.canLayAll0,a,b],by simp only [PyData.depthAll];rfl']
theorem gD (h: ∀d∈ds,Sh n d):Sh (n+1) (.list ds):=by
 let#[a,b]:=rY h;show#[by simp only [PyData.canLay0];show a,by simp only [PyData.depth];rfl']
theorem yH (h: ∀d∈ds,Sh n d):Sh (n+1) (.tuple ds):=by
 let#[a,b]:=rY h;show#[by simp only [PyData.canLay0];show a,by simp only [PyData.depth];rfl']
theorem Gj (n:Nat) (i:Int):Sh n (.int i):=#[by simp [PyData.canLay0],by simp [PyData.depth]]
theorem Ks (n:Nat) (b:Bool):Sh n (.bool b):=#[by simp [PyData.canLay0],by simp [PyData.depth]]
theorem CV (ns:List Int):Sh 1 (.list (ns.map PyData.int)):=gD λ d a=>by
 let#[i,_,rfl]:=Ze.mp a;show Gj 0 i
theorem yI (a:List (List Int)):Sh 2 (.list (a.map λ ns=> .list (ns.map PyData.int))):=gD λ d b=>by
 let#[ns,_,rfl]:=Ze.mp b;show CV ns
theorem Sh.shaped (h:Sh n d) (a:n<=64):SeqAt.shaped d=true:=by
 unfold SeqAt.shaped;rw [h.1,Yi (Zy h.2 a)];rfl
section
variable {H:Hp} {Q:VK} {K:W.Frag} {x y:V} {d:PyData} {n:Nat}
theorem rEqD.same (c:Dp K H x d) (e:Dp K H y d) (a:Sh n d) (b:n<=64) (q:Q (.bl true) H):rEqD K x y H Q:=#[d,d,c,e,a.shaped b,a.shaped b,by rw [eqv_refl d a.1];show q]
theorem rNeD.same (c:Dp K H x d) (e:Dp K H y d) (a:Sh n d) (b:n<=64) (q:Q (.bl false) H):rNeD K x y H Q:=#[d,d,c,e,a.shaped b,a.shaped b,by rw [eqv_refl d a.1];show q]
theorem Dp.nats {xs:List Nat} (h:SqL K H a (xs.map λ i:Nat=>V.int (i:Int))):Dp K H (.ref a) (.list ((xs.map λ i:Nat=>(i:Int)).map PyData.int)):=Dp.ints (by rw [<- uB];show h)
structure RefF (K:W.Frag) (C B:Addr) (ds es:List Addr):Prop where
 ex:ExcK K C
 em:PySem.W.exmOne K (.ref C) (.ref C)=some true
 kb:PySem.W.kitOne K (.ref C) (.ref B)=some true
 kv:PySem.W.kitOne K (.ref C) (.type "ValueError")=some true
 k1:PySem.W.kitAny K (.ref C) (ds.map Value.ref)=some false
 k2:PySem.W.kitAny K (.ref C) (es.map Value.ref)=some false
theorem kW {C D:Addr} (a:H e=some (mY e (.ref C))) (z:ExcK K C) (k:PySem.W.kitOne K (.ref C) (.ref D)=some b) (h:Q (.bl b) H):cj K [.ref e, .ref D] H Q:=#[e,C,_,b,rfl,a,z, .inr (.inl #[D,rfl,k]),h]
theorem yJ {C:Addr} {ds:List Addr} (c:H e=some (mY e (.ref C))) (z:ExcK K C) (a:H p=some (.tup (ds.map V.ref))) (k:PySem.W.kitAny K (.ref C) (ds.map Value.ref)=some b) (h:Q (.bl b) H):cj K [.ref e, .ref p] H Q:=#[e,C,_,b,rfl,c,z, .inr (.inr #[p,ds,rfl,a,k]),h]
theorem CW {C:Addr} (h:t σ H λ vs H1=>vs.length<=sizeLine/\E (.ref C) none H1):cW E C t D σ H:=h
theorem gh {l b:Addr} {xs:List V} (a:H l=some (.lst xs)) (c:H b=some (.lst zs)) (d:xs.length+zs.length<=1000000) (h: ∀p,H p=none->Q (.ref p) (upd H p (.lst (xs++zs)))):j8 (.ref l) (.ref b) H Q:=#[l,b,xs,zs,rfl,rfl,a,c,Zy d (by decide),h]
theorem Ku {xs:List V} {lo:Option Int} (e:SqL K H a xs) (h: ∀p,H p=none->Q (.ref p) (upd H p (.lst (oY xs lo hi)))):By K (.ref a) lo hi H Q:=#[a,xs,rfl,e,h]
end
theorem Kv {i:Nat} (h:D.nx (σ.set i none) H):(behind i D).nx σ H:=h
theorem Sb.off {a:List Addr} (e:Sb a H H') (c: ∀p∈a,H p=none):Same H H':=λ b o q=>e.at c q
def Qx (K:W.Frag) (H:Hp) (q:Addr) (ss:List (Int×Int)):Prop:= ∃zs:List (Addr×Int×Int),zs.map (·.2)=ss/\SqL K H q (zs.map λ z=>V.ref z.1)/\ ∀z∈zs,SqT K H z.1 [.int z.2.1, .int z.2.2]
theorem Sh.more {m:Nat} (h:Sh n d) (e:n<=m):Sh m d:=#[h.1,Zy h.2 e]
theorem yK {t:TS} (J:St->Hp->Prop) (b: ∀σ' H',J σ' H'->u D σ' H') (a: ∀N:St->Hp->Prop,(∀σ' H',J σ' H'->N σ' H')->t { D with nx:=N } σ H):aG t u D σ H:=a _ b
def tx (cs:List Nat):Str:=#[cs.toArray]
theorem nP (a b:List Nat):tx a++tx b=tx (a++b):=by
 change(#[a.toArray++b.toArray]:Str)=#[(a++b).toArray];simp
theorem bK (a:List Nat):(tx a).length=a.length:=by change a.toArray.size=_;simp
theorem nQ (a:List Nat):(tx a).cps.toList=a:=rfl
theorem ir {a b:List Nat}:tx a=tx b↔a=b:=by
 constructor
 .intro h;have:=Zk (λ s:Str=>s.cps.toList) h;simpa [tx] using this
 .intro h;rw [h]
theorem uF {j:Nat} (h:j<=cs.length):Txt.slice (tx cs) none (some (j:Int))=tx (cs.take j):=by
 have:=ā.mp (PyProof.Rows.slice_closes_to (x:=tx cs) (j:=(j:Int)) #[(),by rw [nQ];rfl']);rw [this];simp [tx]
theorem uG {j:Nat} (h:j<=cs.length):Txt.slice (tx cs) (some (j:Int)) none=tx (cs.drop j):=by
 have:=ā.mp (PyProof.Rows.slice_closes_from (x:=tx cs) (i:=(j:Int)) #[(),by rw [nQ];rfl']);rw [this,nQ];change tx _=tx _;rw [Yu,Xr (by rw [É];rfl')]
section
variable {σ:St} {H:Hp} {Q:VK} {D:Ends} {K:W.Frag} {g:TG} {κ:List (Option Nat)} {tc:TT} {te:TE}
theorem uH {s:Str} {lo:Option Int} (e:s.length<=1000000) (h:Q (.str (Txt.slice s lo hi)) H):vO (.str s) lo hi H Q:=#[s,rfl,Zy e (by decide),h]
def iE (K:W.Frag) (R:It->Hp->Prop) (vs:List V) (H:Hp):Prop:= ∃a xs,vs=[.ref a]/\SqL K H a xs/\R (Om K a) H
end
theorem Gk (n:Nat) (h: ∀c∈cs,c<1114112):Sh n (.str (tx cs)):=by
 refine#[?_,by simp [PyData.depth]];simp only [PyData.canLay0,PyData.strOk];change cs.toArray.all _=true;simp;show h
theorem nR {ls:List (List Nat)} (h: ∀l∈ls,∀c∈l,c<1114112):Sh 1 (.list ((ls.map tx).map PyData.str)):=gD λ d a=>by
 let#[s,e,rfl]:=Ze.mp a;let#[l,b,rfl]:=Ze.mp e;show Gk 0 (h l b)
theorem Dp.txs {K:W.Frag} {ls:List (List Nat)} (h:SqL K H a (ls.map λ l=>V.str (tx l))):Dp K H (.ref a) (.list ((ls.map tx).map PyData.str)):= .lst h (by rw [show(ls.map λ l=>V.str (tx l))=(ls.map tx).map V.str by rw [Zj];rfl];show DpAll.strs _)
section
variable {σ:St} {H:Hp} {Q:VK} {D:Ends} {K:W.Frag} {g:TG} {tb:TS}
def iD (R:It->Hp->Prop):V->Hp->Prop:=λ x H1=> ∃a kvs,x= .ref a/\H1 a=some (.dT kvs)/\ ∀od,R (Oq od a) (upd H1 a (.frz od (.dT kvs)))
theorem Gm {d c:TE} (h:c σ H λ v H1=>td σ H1 λ x H2=>d σ H2 λ y H3=> ∃a b,x= .ref a/\DPut H3 a y v b/\D.nx σ b):jP td d c D σ H:=h
theorem Gp {b:TE} (h:td σ H λ x H1=>b σ H1 λ y H2=> ∃a v,x= .ref a/\DGet H2 a y (some v)/\Q v H2):fL td b σ H Q:=h
theorem uI {b tx:TE} (h:td σ H λ x H1=> ∃a,x= .ref a/\Iz H1 a/\b σ H1 λ y H2=>tx σ H2 λ z H3=> ∃o,DGet H3 a y o/\Q (o.getD z) H3):qR td b tx σ H Q:=h
theorem yL {l b:Addr} {xs:List V} (a:H l=some (.lst xs)) (c:H b=some (.lst zs)) (d:xs.length+zs.length<=1000000) (h:Q .non (upd H l (.lst (xs++zs)))):mO (.ref l) [.ref b] H Q:=#[l,b,xs,zs,rfl,rfl,a,c,Zy d (by decide),h]
def Qy (H:Hp) (zs:List (Addr×Int×Int)):Prop:= ∀z∈zs,H z.1=some (.tup [.int z.2.1, .int z.2.2])
end
section
variable {σ:St} {H:Hp} {Q:VK} {D:Ends} {K:W.Frag}
theorem NT (h:te σ H λ x H'=> ∃k,x= .bl k/\R k H'):tB te σ H R:=h
theorem Kw (h:Q (.bl (decide (x= .non))) H):DP x .non H Q:=#[rfl,h]
theorem Gq (h:Q (.bl (!decide (x= .non))) H):qU x .non H Q:=#[rfl,h]
theorem fG (e:SqL K H p ys) (h: ∀l,H l=none->Q (.ref l) (upd H l (.tup ys))):cI K [.ref p] H Q:=#[p,ys,rfl, .inl #[e,h]]
theorem eV (e:SqT K H p ys) (h: ∀l,H l=none->Q (.ref l) (upd H l (.lst ys))):cH K [.ref p] H Q:=#[p,ys,rfl, .inr e,h]
theorem Ky {b:TE} (h:b σ H λ y H1=>td σ H1 λ x H2=> ∃a o,x= .ref a/\DGet H2 a y o/\Q (.bl o.isSome) H2):BR b td σ H Q:=h
theorem yM {b:TE} (h:b σ H λ y H1=>td σ H1 λ x H2=> ∃a o,x= .ref a/\DGet H2 a y o/\Q (.bl (!o.isSome)) H2):dM b td σ H Q:=h
theorem KD {xs:List V} (e:SqL K H p xs\/SqT K H p xs) (b:dB x=true) (a:xs.all dB=true) (h:Q (.bl (inV x xs)) H):Be K false x (.ref p) H Q:=#[p,xs,rfl,e,b,a,h]
theorem uJ {xs:List V} (e:SqL K H p xs\/SqT K H p xs) (b:dB x=true) (a:xs.all dB=true) (h:Q (.bl (!inV x xs)) H):Be K true x (.ref p) H Q:=#[p,xs,rfl,e,b,a,h]
end
theorem uK (s:Str) (ns:List Str):inV (.str s) (ns.map V.str)=decide (s∈ns):=by
 unfold inV;rw [List.any_map];induction ns with
 | nil=>simp
 | cons n r ih=>
  rw [Î,ih];by_cases h:n=s
  .subst h;simp [wY]
  .simp [wY,h,Ne.symm h]
def ov:Option Int->V
 | none=> .non
 | some i=> .int i
theorem CZ (o:Option Int):dB (ov o)=true:=by cases o<;>rfl
def DrT (K:W.Frag) (H:Hp) (a:Addr) (ps:L1S):Prop:= ∃zs:List (Addr×Str×Int),zs.map (·.2)=ps/\H a=some (.tup (zs.map λ z=>V.ref z.1))/\ ∀z∈zs,H z.1=some (.tup [.str z.2.1, .int z.2.2])
theorem DrT.same {K:W.Frag} {b:L1S} (h:DrT K H a b) (s:Same H H'):DrT K H' a b:=by
 let#[zs,e,c,d]:=h;show#[zs,e,s.get c,λ z f=>s.get (d z f)]
def PJ (K:W.Frag) (H:Hp) (a:Addr) (ds:L2S) (es:List Int):Prop:= ∃ (d e:Addr) (rs:List (Addr×L1S)),H a=some (.tup [.ref d, .ref e])/\rs.map (·.2)=ds/\H d=some (.tup (rs.map λ r=>V.ref r.1))/\(∀r∈rs,DrT K H r.1 r.2)/\H e=some (.tup (es.map V.int))
def DrG (K:W.Frag) (H:Hp) (a:Addr) (ps:L1S):Prop:= ∃zs:List (Addr×Str×Int),zs.map (·.2)=ps/\SqT K H a (zs.map λ z=>V.ref z.1)/\ ∀z∈zs,H z.1=some (.tup [.str z.2.1, .int z.2.2])
theorem DrG.same {K:W.Frag} {b:L1S} (h:DrG K H a b) (s:Same H H'):DrG K H' a b:=by
 let#[zs,e,c,d]:=h;show#[zs,e,s.tup c,λ z f=>s.get (d z f)]
def HsG (K:W.Frag) (H:Hp) (a:Addr) (ds:L2S) (es:List Int):Prop:= ∃ (d e:Addr) (rs:List (Addr×L1S)),H a=some (.tup [.ref d, .ref e])/\rs.map (·.2)=ds/\SqT K H d (rs.map λ r=>V.ref r.1)/\(∀r∈rs,DrG K H r.1 r.2)/\H e=some (.tup (es.map V.int))
theorem HsG.same {K:W.Frag} {ds:L2S} {b:List Int} (h:HsG K H a ds b) (s:Same H H'):HsG K H' a ds b:=by
 let#[d,e,l,c,f,g,i,j]:=h;show#[d,e,l,s.get c,f,s.tup g,λ r k=>(i r k).same s,s.get j]
def hsD (ds:L2S) (es:List Int):PyData:= .tuple [.tuple (ds.map λ ps=> .tuple (ps.map λ s=> .tuple [.str s.1, .int s.2])), .tuple (es.map PyData.int)]
end L2
namespace Hs
open PySem L2
variable {r:Int} {ds:L2S} {ys:List Nat}
def dr (ps:L1S) (s:Str):Option Int:=(ps.find? λ p=>decide (p.1=s)).map (·.2)
theorem jF (p:Str×Int) (r:L1S) (s:Str):dr (p::r) s=if p.1=s then some p.2 else dr r s:=by
 unfold dr;by_cases h:p.1=s
 .simp [h]
 .simp [h]
theorem yN {s:Str} {r:Int}: ∀ {ps:L1S},dr ps s=some r->(s,r)∈ps
 | [],h=>by cases h
 | p::ps,h=>by
  rw [jF] at h;by_cases e:p.1=s
  .rw [if_pos e] at h
   cases h;rw [<- e];show Zp
  .rw [if_neg e] at h;show Zu _ (yN h)
def stp (ds:L2S) (o:Option Int) (s:Str):Option Int:=o.bind λ r=>dr (ds.getD r.toNat []) s
def go (ds:L2S) (cs:List Nat):Option Int:=cs.foldl (λ o c=>stp ds o (tx [c])) (some 0)
structure Wf (ds:L2S):Prop where
 pos:0<ds.length
 rm: ∀ps∈ds,∀p∈ps,0<=p.2/\p.2<ds.length
theorem jG (ds:L2S) (a:List Nat) (c:Nat):go ds (a++[c])=stp ds (go ds a) (tx [c]):=by
 unfold go;rw [List.foldl_append];rfl
theorem uL {xs:List Nat} (h:go ds xs=none):go ds (xs++ys)=none:=by
 unfold go at h ⊢;rw [List.foldl_append,h];clear h;induction ys with
 | nil=>rfl
 | cons y r ih=>show ih
theorem getD_at {a:Type} {xs:List a} {d:a} (b:0<=r) (c:r<xs.length):xs.getD r.toNat d=xs[r.toNat]'(by rfl'):=by
 rw [Zz,Zc ()];rfl
theorem yO (w:Wf ds): ∀ {cs:List Nat},go ds cs=some r->0<=r/\r<ds.length:=by
 intro cs
 suffices ∀ (cs:List Nat) (a:Int),0<=a->a<ds.length->cs.foldl (λ o c=>stp ds o (tx [c])) (some a)=some r->0<=r/\r<ds.length by
  show this cs 0 (by decide) (by have:=w.pos;rfl')
 intro cs;induction cs with
 | nil=>intro a b d h;cases h;show#[b,d]
 | cons c rest ih=>
  intro a b d h;rw [List.foldl_cons] at h
  cases e:stp ds (some a) (tx [c]) with
  | none=>
   rw [e] at h;have: ∀l:List Nat,l.foldl (λ o c=>stp ds o (tx [c])) none=none:=λ l=>by
    induction l with
    | nil=>rfl
    | cons y r ih=>show ih
   rw [this] at h
   cases h
  | some r1=>
   rw [e] at h;have m:=yN (show dr (ds.getD a.toNat []) (tx [c])=some r1 from e);rw [getD_at b d] at m;have:=w.rm _ (Yr _) _ m;show ih r1 this.1 this.2 h
def qw:Str:=Str.ofString " !\"#$&'()*+,-./0123456789:;<=>?@ABCDEFGHIJKLMNOPQRSTUVWXYZ[\\]^_`"++Str.ofString "abcdefghijklmnopqrstuvwxyz{|}~"
def gG (n:Int):Nat:=qw.cps.toList.getD (n%94).toNat 0
def Sg (s:Str):Prop:= ∃n:Int,s=tx [gG n]
def PK (many i:Nat) (r:List (Addr×Str×Int)):Prop:=(r.map (·.2.1)).Nodup/\r.length<=i/\ ∀z∈r,Sg z.2.1/\0<=z.2.2/\z.2.2<many
end Hs
namespace L2
open PySem
variable {H:Hp} {j:Nat}
abbrev Dz:=Addr×Str×Int
variable {rows:List (Addr×List Dz)}
def Rws (H:Hp) (rows:List (Addr×List Dz)):Prop:=(rows.map (·.1)).Nodup/\ ∀row∈rows,H row.1=some (.lst (row.2.map λ z:Dz=>V.ref z.1))/\ ∀z∈row.2,H z.1=some (.tup [.str z.2.1, .int z.2.2])
theorem Rws.same {b:Hp} (h:Rws H rows) (s:Same H b):Rws b rows:=#[h.1,λ a c=>#[s.get (h.2 a c).1,λ z d=>s.get ((h.2 a c).2 z d)]]
theorem uM (a:j<rows.length) (ys:List Dz):(rows.set j (rows[j].1,ys)).map (·.1)=rows.map (·.1):=by
 apply List.ext_getElem?;intro k;rw [Zm,Zm,List.getElem?_set];by_cases e:j=k
 .subst e;rw [if_pos rfl,if_pos a,Zc a];rfl
 .rw [if_neg e]
theorem Rws.app {t:Addr} {s:Str} {r:Int} (h:Rws H rows) (g:j<rows.length) (f:H t=some (.tup [.str s, .int r])):
  Rws (upd H rows[j].1 (.lst ((rows[j].2++[(t,s,r)]).map λ z:Dz=>V.ref z.1))) (rows.set j (rows[j].1,rows[j].2++[(t,s,r)])):=by
 refine#[by rw [uM g];show h.1,λ o l=> ?_];have a:rows[j]∈rows:=Yr g;have d:=(h.2 _ a).1;rcases List.mem_or_eq_of_mem_set l with m | rfl
 .obtain ⟨k,i,e⟩:=Xn.mp l;rw [List.getElem_set] at e;by_cases q:j=k
  .rw [if_pos q] at e;subst e;refine#[aj,λ z c=> ?_];rcases Zh.mp c with w | w
   .rw [aC (fJ ((h.2 _ a).2 z w) d (by intro q;cases q))];show(h.2 _ a).2 z w
   .rw [Za.mp w];rw [aC (fJ f d (by intro q;cases q))];show f
  .rw [if_neg q] at e;subst e;rw [Ą] at i;have n:rows[k].1≠rows[j].1:=by
    intro z;have:=(È (h₀:=by simpa using i) (h₁:=by simpa using g) h.1).mp (by rw [Ê,Ê];show z);show q this.symm
   have b:rows[k]∈rows:=Yr i;refine#[by rw [aC n];show(h.2 _ b).1,λ z c=> ?_];rw [aC (fJ ((h.2 _ b).2 z c) d (by intro q;cases q))];show(h.2 _ b).2 z c
 .refine #[aj,λ z c=> ?_];rcases Zh.mp c with w | w
  .rw [aC (fJ ((h.2 _ a).2 z w) d (by intro q;cases q))];show(h.2 _ a).2 z w
  .rw [Za.mp w];rw [aC (fJ f d (by intro q;cases q))];show f
section
variable {σ:St} {H:Hp} {Q:VK} {g:TG} {κ:List (Option Nat)} {te:TE} {K:W.Frag}
theorem nT {c d:Type} {g:c->d} {l a:List d} (h:l.Perm a): ∀ {zs:List c},l=zs.map g-> ∃b:List c,b.Perm zs/\a=b.map g:=by
 induction h with
 | nil=>intro zs e;show#[zs, .refl _,e]
 | cons x _ ih=>
  intro zs e
  cases zs with
  | nil=>cases e
  | cons z zs=>
   rw [Zn] at e;injection e with e1 e2
   let#[b,p,q]:=ih e2;show#[z::b,p.cons z,by rw [Zn,q,e1]]
 | swap x y l=>
  intro zs e
  match zs,e with
  | z1::z2::r,e=>
   rw [Zn,Zn] at e;injection e with e1 e2
   injection e2 with e2 e3
   show#[z2::z1::r, .swap _ _ _,by rw [Zn,Zn,e1,e2,e3]]
 | trans _ _ ih1 ih2=>
  intro zs e;let#[b,p,q]:=ih1 e;let#[us,f,i]:=ih2 q;show#[us,f.trans p,i]
theorem pZ {a c:Type} {g:a->c} {b:List c} {zs:List a} (h:b.Perm (zs.map g)): ∃vs:List a,vs.Perm zs/\b=vs.map g:=nT h.symm rfl
end
end L2
namespace Hs
theorem yP (n:Int):gG n<1114112:=by
 unfold gG;have h: ∀c∈qw.cps.toList,c<1114112:=by ac_nf
 rw [Zz]
 cases e:qw.cps.toList[(n%94).toNat]? with
 | none=>decide
 | some c=>show h c (Zg e)
end Hs
namespace L2
open PySem
abbrev Lz:=Addr×Str×Addr×List Nat
abbrev nv (xs:List Nat):List V:=xs.map λ i:Nat=>V.int (i:Int)
def FnT (K:W.Frag) (H:Hp) (a:Addr) (ht:Nat) (ls:List (Str×List Nat)):Prop:= ∃ (l:Addr) (zs:List Lz),H a=some (.tup [.int (ht:Int), .ref l])/\zs.map (λ z:Lz=>(z.2.1,z.2.2.2))=ls/\SqT K H l (zs.map λ z:Lz=>V.ref z.1)/\ ∀z∈zs,H z.1=some (.tup [.str z.2.1, .ref z.2.2.1])/\H z.2.2.1=some (.tup (nv z.2.2.2))
theorem FnT.same {K:W.Frag} {H b:Hp} {a:Addr} {d:Nat} {ls:List (Str×List Nat)} (h:FnT K H a d ls) (s:Same H b):FnT K b a d ls:=by
 let#[l,zs,f,g,i,c]:=h;show#[l,zs,s.get f,g,s.tup i,λ z e=>#[s.get (c z e).1,s.get (c z e).2]]
def Qz (K:W.Frag) (H:Hp) (a:Addr) (ht:Nat) (ls:List (Str×List Nat)):Prop:= ∃ (l:Addr) (ob:PySem.Obj) (zs:List Lz),H a=some (.tup [.int (ht:Int), .ref l])/\zs.map (λ z:Lz=>(z.2.1,z.2.2.2))=ls/\ob.dict=none/\H l=some (.frz ob (.tup (zs.map λ z:Lz=>V.ref z.1)))/\ ∀z∈zs,H z.1=some (.tup [.str z.2.1, .ref z.2.2.1])/\H z.2.2.1=some (.tup (nv z.2.2.2))
end L2
namespace Fo
open PySem L2
variable {ht:Nat}
def lk (ls:List (Str×List Nat)) (s:Str):Option (List Nat):=(ls.find? λ p=>decide (p.1=s)).map (·.2)
theorem nU (p:Str×List Nat) (r:List (Str×List Nat)) (s:Str):lk (p::r) s=if p.1=s then some p.2 else lk r s:=by
 unfold lk;by_cases h:p.1=s
 .simp [h]
 .simp [h]
theorem bW {s:Str} {c:List Nat}: ∀ {ls:List (Str×List Nat)},lk ls s=some c->(s,c)∈ls
 | [],h=>by cases h
 | p::ps,h=>by
  rw [nU] at h;by_cases e:p.1=s
  .rw [if_pos e] at h
   cases h;rw [<- e];show Zp
  .rw [if_neg e] at h;show Zu _ (bW h)
theorem yQ {s:Str}: ∀ {ls:List (Str×List Nat)},s∈ls.map (·.1)-> ∃c,lk ls s=some c
 | p::ps,h=>by
  rw [nU];by_cases e:p.1=s
  .exact #[_,if_pos e]
  .rw [if_neg e];rcases Zx.mp h with h | h
   .exact absurd h.symm e
   .exact yQ h
def cl (ls:List (Str×List Nat)) (c:Nat):List Nat:=(lk ls (tx [c])).getD []
def fM (ls:List (Str×List Nat)) (cs:List Nat):List Nat:=cs.flatMap (cl ls)
theorem uN (ls:List (Str×List Nat)) (a b:List Nat):fM ls (a++b)=fM ls a++fM ls b:=by unfold fM;rw [List.flatMap_append]
theorem q9 (ls:List (Str×List Nat)) (a:List Nat) (c:Nat):fM ls (a++[c])=fM ls a++cl ls c:=by rw [uN];simp [fM]
structure Wf (ht:Nat) (ls:List (Str×List Nat)):Prop where
 pos:0<ls.length
 le:ls.length<=40
 up:(ls.map (·.1)).Pairwise jC
 sg: ∀p∈ls,Hs.Sg p.1
 c1: ∀p∈ls,1<=p.2.length/\p.2.length<=8
 cb: ∀p∈ls,∀x∈p.2,x<2^ht
theorem Wf.cl_le {ls:List (Str×List Nat)} (w:Wf ht ls) (c:Nat):(cl ls c).length<=8:=by
 unfold cl
 cases e:lk ls (tx [c]) with
 | none=>simp
 | some d=>show(w.c1 _ (bW e)).2
theorem Wf.pic_le {ls:List (Str×List Nat)} (w:Wf ht ls): ∀cs:List Nat,(fM ls cs).length<=8*cs.length
 | []=>by simp [fM]
 | c::r=>by
  have h:=w.pic_le r;have a:=w.cl_le c;unfold fM at h ⊢;rw [List.flatMap_cons,Zf,Wo];rfl'
end Fo
namespace L2
open PySem
variable {a:Addr} {ys:List V} {cs:List Nat} {kvs:List (Str×V)} {zs:List (Addr×Str×V)}
theorem FnT.at {K:W.Frag} {H:Hp} {d:Nat} {ls:List (Str×List Nat)} (h:FnT K H a d ls): ∃l,SqT K H a [.int (d:Int), .ref l]/\ ∃zs:List Lz,SqT K H l (zs.map λ z:Lz=>V.ref z.1)/\zs.length=ls.length/\zs.map (λ z:Lz=>(z.2.1,z.2.2.2))=ls/\ ∀z∈zs,SqT K H z.1 [.str z.2.1, .ref z.2.2.1]/\SqT K H z.2.2.1 (nv z.2.2.2):=by
 let#[l,zs,f,b,g,c]:=h;show#[l,SqT.of f,zs,g,by rw [<- b,Qb],b,λ z e=>#[SqT.of (c z e).1,SqT.of (c z e).2]]
abbrev Kz:=Str×Addr×List Nat
def Qi (kvs:List Kz):List (Key×V):=kvs.map λ p:Kz=>(Sum.inr p.1,V.ref p.2.1)
section
variable {σ:St} {H:Hp} {Q:VK} {D:Ends} {K:W.Frag} {g:TG} {κ:List (Option Nat)} {tc:TT} {te:TE}
theorem m8 (e:Rd H a (.dK (kvs.map λ p=>(Sum.inr p.1,p.2)))) (b:kvs.length<64) (h: ∀r (ns:List Str),ns.Perm (kvs.map (·.1))->ns.Pairwise jC->H r=none->Q (.ref r) (upd H r (.lst (ns.map V.str)))):jD [.ref a] H Q:=#[a,kvs,rfl,e,b,h]
theorem yR {kvs:List (Int×V)} (e:H a=some (.dK (kvs.map λ p=>(Sum.inl p.1,p.2)))) (b:kvs.length<64) (h: ∀r (ns:List Int),ns.Perm (kvs.map (·.1))->ns.Pairwise (· < ·)->H r=none->Q (.ref r) (upd H r (.lst (ns.map V.int)))):nu [.ref a] H Q:=#[a,kvs,rfl,e,b,h]
theorem Gr {p:Addr} (e:SqL K H p ys) (h: ∀l (ob:PySem.Obj),ob.dict=none->H l=none->Q (.ref l) (upd H l (.frz ob (.tup ys)))):uw K [.ref p] H Q:=#[p,ys,rfl,e,h]
theorem yS {ob:PySem.Obj} (b:ob.dict=none) (c:H a=some (.frz ob (.tup (zs.map λ z=>V.ref z.1)))) (d: ∀z∈zs,SqT K H z.1 [.str z.2.1,z.2.2]) (e:(zs.map (·.2.1)).Nodup) (f:zs.length<=1000) (h: ∀r,H r=none->Q (.ref r) (upd H r (.dK (zs.map λ z=>(Sum.inr z.2.1,z.2.2))))):jE K [.ref a] H Q:=#[a,ob,zs,rfl,b,c,d,e,f,h]
theorem NZ (s:cs.length<=1000000) (a:Nat->List V->Hp->Prop) (q:a 0 [] H) (v: ∀i ys H',a i ys H'->ys.length<=i)
  (u: ∀ (i c:Nat) ys H',cs[i]? =some c->a i ys H'->g (.str (tx [c])) (cap κ σ) H' λ h H2=>mU (cap κ σ) h/\tc h H2 λ b H3=>if b=true then te h H3 λ y l=>a (i+1) (ys++[y]) l else a (i+1) ys H3)
  (r: ∀ys H',a cs.length ys H'-> ∀p,H' p=none->Q (.ref p) (upd H' p (.lst ys))):iS (yC κ g tc te σ Q) (.str (tx cs)) H:=by
 refine#[tx cs,rfl,λ i m ys H'=>m=cs.length-i/\i<=cs.length/\a i ys H',#[cs.length,by simp,Yv _,q],?_];rintro i m ys H' ⟨rfl,w,p⟩;by_cases f:i<cs.length
 .refine .inr #[f,?_,λ j d=>a (i+1) j d,λ j d k=>#[cs.length-(i+1),(),rfl,f,k],λ x d y=> ?_]
  .exact Yg (v i ys H' p) (Zt f (Zy s (by decide)))
  .obtain ⟨e,c,n,o⟩:=y;subst e o;show u i c ys _ (by simpa [tx] using n) p
 .have e:i=cs.length:=()
  subst e;show .inl #[rfl,λ k t=>r ys H' p k t]
theorem DY {z:Str} (s:z.cps.size<=1000000) (f:Nat->Option V)
  (u: ∀ (i c:Nat),z.cps[i]? =some c-> ∀ (A:VK) (B:Hp->Prop),(∀y,f c=some y->A y H)->(f c=none->B H)->g (.str #[([c].toArray)]) (cap κ σ) H λ h H2=>mU (cap κ σ) h/\tc h H2 λ b H3=>if b=true then te h H3 A else B H3)
  (r: ∀p,H p=none->Q (.ref p) (upd H p (.lst (z.cps.toList.filterMap f)))):iS (yC κ g tc te σ Q) (.str z) H:=by
 refine#[z,rfl,λ i m ys k=>m=z.cps.size-i/\i<=z.cps.size/\k=H/\ys=(z.cps.toList.take i).filterMap f,#[z.cps.size,by simp,Yv _,rfl,rfl],?_];rintro i m ys k ⟨rfl,v,rfl,rfl⟩;by_cases d:i<z.cps.size
 .refine .inr #[d,?_,λ j a=>a=k/\j=(z.cps.toList.take (i+1)).filterMap f,λ j a o=>#[z.cps.size-(i+1),(),rfl,d,o.1,o.2],λ x a y=> ?_]
  .have:((z.cps.toList.take i).filterMap f).length<=i:=Zy (List.length_filterMap_le _ _) (by rw [Yp];rfl');show Yg this (Zt d (Zy s (by decide)))
  .obtain ⟨e,c,l,q⟩:=y;subst e q;have n:z.cps.toList.take (i+1)=z.cps.toList.take i++[c]:=by
    rw [Yc,Wx,l];rfl
   refine u i c l _ _ (λ y e=>#[rfl,?_]) (λ e=>#[rfl,?_])
   .rw [n,Mm.cL,e];rfl
   .rw [n,Mm.cL,e];simp
 .have e:i=z.cps.size:=()
  subst e;refine .inl #[rfl,λ p t=> ?_];rw [show z.cps.toList.take z.cps.size=z.cps.toList from Xr (by simp)];show r p t
end
theorem gR {c:Type} [DecidableEq c]: ∀ {xs ys:List c},xs.Nodup->(∀x∈xs,x∈ys)->xs.length<=ys.length
 | [],_,_,_=>Yv _
 | x::r,ys,hn,h=>by
  have a:=h x Zp;have:=gR (xs:=r) (ys:=ys.erase x) (Ym.mp hn).2 λ y b=>(List.mem_erase_of_ne (show y≠x from λ e=>(Ym.mp hn).1 (by rw [<- e];show b))).mpr (h y (Zu _ b))
  rw [List.length_erase_of_mem a] at this;have:0<ys.length:=Ws a;rw [Wo];rfl'
theorem rZ (a:Str): ¬jC a a:=List.lt_irrefl _
theorem qi {ns:List Str} (h:ns.Pairwise jC):ns.Nodup:=Wg (S:=λ a b=>a≠b) (λ {a b} (z:jC a b) (e:a=b)=>rZ a (by rw [<- e] at z;show z)) h
section
variable {σ:St} {H:Hp} {Q:VK} {D:Ends} {K:W.Frag} {g:TG} {κ:List (Option Nat)} {tc:TT} {te:TE}
theorem KH {r:Type} (c:r->V) {zs:List r} (C:SqT K H a (zs.map c)) (w:zs.length<=1000000) (d:Nat->List V->Hp->Prop) (t:d 0 [] H) (v: ∀i ys H',d i ys H'->SqT K H' a (zs.map c)) (D: ∀i ys H',d i ys H'->ys.length<=i)
  (B: ∀ (i:Nat) z ys H',zs[i]? =some z->d i ys H'->g (c z) (cap κ σ) H' λ j H2=>mU (cap κ σ) j/\tc j H2 λ b H3=>if b=true then te j H3 λ y s=>d (i+1) (ys++[y]) s else d (i+1) ys H3)
  (u: ∀ys H',d zs.length ys H'-> ∀p,H' p=none->Q (.ref p) (upd H' p (.lst ys))):iT K (yC κ g tc te σ Q) (.ref a) H:=by
 refine#[a,rfl,#[_,C],λ i m ys H'=>m=zs.length-i/\i<=zs.length/\d i ys H',#[zs.length,by simp,Yv _,t],?_];rintro i m ys H' ⟨rfl,E,p⟩;have q:=v i ys H' p;by_cases h:i<zs.length
 .have l:zs[i]? =some zs[i]:=Zc h;refine .inr #[#[_,c zs[i],q,by rw [Zm,l];rfl],?_,λ k f=>d (i+1) k f,λ k f n=>#[zs.length-(i+1),(),rfl,h,n],λ x f y=> ?_]
  .exact Yg (D i ys H' p) (Zt h (Zy w (by decide)))
  .obtain ⟨e,y⟩:=y;subst e;have o:=y _ q;rw [Zm,l] at o
   cases o;show B i _ ys _ l p
 .have e:i=zs.length:=()
  subst e;show .inl #[#[_,q,by simp],λ n A=>u ys H' p n A]
end
section
variable {σ:St} {H:Hp} {Q:VK} {D:Ends} {K:W.Frag}
theorem Gs {ns:List Int} (e:SqL K H a (ns.map V.int)) (b:ns≠[]) (h: ∀m,m∈ns->(∀n∈ns,n<=m)->Q (.int m) H):uv K [.ref a] H Q:=#[a,ns,rfl,e,b,h]
end
end L2
namespace Hs
open PySem L2
variable {p:List Int}
theorem KJ {f:Type} {R:f->f->Prop} (g: ∀a b,R a b->R b a->False): ∀ {d c:List f},d.Perm c->d.Pairwise R->c.Pairwise R->d=c
 | [],c,h,_,_=>by rw [List.nil_perm] at h;show h.symm
 | a :: t, c, h, h1, h2 => by
  cases c with
  | nil=>show absurd h.symm (by intro z;rw [List.nil_perm] at z;cases z)
  | cons b u=>
   have e:a=b:=by
    rcases Zx.mp (h.mem_iff.mp Zp) with e | m
    .exact e
    .rcases Zx.mp (h.mem_iff.mpr Zp) with e | m'
     .exact e.symm
     .exact (g _ _ ((Xy.mp h1).1 b m') ((Xy.mp h2).1 a m)).elim
   subst e;rw [KJ g h.cons_inv (Xy.mp h1).2 (Xy.mp h2).2]
theorem KN {c d:List Int} (e:c.Perm p) (g:c.Pairwise (· < ·)) (f:d.Perm p) (i:d.Pairwise (· < ·)):c=d:=
 KJ (λ a b (h:a<b) h'=>()) (e.trans f.symm) g i
def Qj (rows:List (Addr×List Dz)) (ds:L2S):Prop:=ds.length=rows.length/\ ∀ (j:Nat) ps row,ds[j]? =some ps->rows[j]? =some row->ps.Perm (row.2.map (·.2))/\(ps.map (·.1)).Pairwise jC
end Hs
namespace L2
open PySem
variable {a:Addr} {zs:List (Addr×Str×V)}
theorem DrT.of {K:W.Frag} {H:Hp} {t:Addr} {a:L1S} (f:H t=some (.tup (zs.map λ z=>V.ref z.1))) (g: ∀z∈zs,H z.1=some (.tup [.str z.2.1,z.2.2])) (e:zs.map (·.2)=a.map λ p=>(p.1,V.int p.2)):DrT K H t a:=by
 refine#[(zs.zip a).map λ q=>(q.1.1,q.2.1,q.2.2),?_,?_,?_]
 .rw [Zj];change(zs.zip a).map (λ q=>q.2)=a;rw [ý (by have:=Zk List.length e;simp at this;rfl')]
 .rw [Zj];have:(zs.zip a).map ((λ z:Addr×Str×Int=>V.ref z.1)∘λ q=>(q.1.1,q.2.1,q.2.2))=((zs.zip a).map (·.1)).map λ z=>V.ref z.1:=by rw [Zj];rfl
  rw [this,ü (by have:=Zk List.length e;simp at this;rfl')];show f
 .intro z k;let#[q,j,rfl]:=Ze.mp k;let#[i,h,c]:=Xn.mp j;rw [List.getElem_zip] at c;have b:i<zs.length/\i<a.length:=by rw [List.length_zip] at h;rfl'
  have d:zs[i].2=(a[i].1,V.int a[i].2):=by
   have:=Zk (λ l=>l[i]?) e;simp only [Zm,Zc b.1,Zc b.2,Wu] at this;show Zr this
  rw [<- c];have:=g _ (Yr b.1);rw [d] at this;show this
section
variable {σ:St} {H:Hp} {Q:VK} {D:Ends} {K:W.Frag}
theorem yU {b:TE} (h:b σ H λ x H1=> ∃ (a:Addr) (kvs:List (Str×V)),x= .ref a/\H1 a=some (.dK (kvs.map λ p=>(Sum.inr p.1,p.2)))/\kvs.length<64/\ ∀r (zs:List (Addr×Str×V)) (H2:Hp),(zs.map (·.2)).Perm kvs->(zs.map (·.2.1)).Pairwise jC->H1 r=none->Same H1 H2->H2 r=some (.lst (zs.map λ z=>V.ref z.1))->(∀z∈zs,H2 z.1=some (.tup [.str z.2.1,z.2.2]))->Q (.ref r) H2):nA b σ H Q:=h
end
theorem kY {a:Type} {f:a->Key} {g:a->V} {zs:List a} {k:Key} (h:k∉zs.map f):dh (zs.map λ z=>(f z,g z)) k=none:=by
 induction zs with
 | nil=>rfl
 | cons z r ih=>
  rw [Zn] at h ⊢;rw [dZ (λ e=>h (by rw [<- e];show Zp))];show ih (λ m=>h (Zu _ m))
section
variable {σ:St} {H:Hp} {Q:VK} {D:Ends} {K:W.Frag} {g:TG} {κ:List (Option Nat)} {tc:TT} {te:TE}
theorem yV {k:Type} (c:k->V) {zs:List k} (t:SqL K H a (zs.map c)) (l:zs.length<=1000000) (F:k->List V)
  (B: ∀ (i:Nat) z H',zs[i]? =some z->Same H H'-> ∀ (A:VK),(∀p,H' p=none->A (.ref p) (upd H' p (.lst (F z))))->g (c z) (cap κ σ) H' λ n H2=>mU (cap κ σ) n/\te n H2 A)
  (x: ∀p H' (bs:List (Addr×k)),Same H H'->H p=none->H' p=some (.lst (bs.map λ b=>V.ref b.1))->bs.map (·.2)=zs->(∀b∈bs,H b.1=none/\H' b.1=some (.lst (F b.2)))->(bs.map (·.1)).Nodup->p∉bs.map (·.1)->Q (.ref p) H'):iL K (yC κ g jc te σ Q) (.ref a) H:=by
 refine rR c t l (λ i ys H'=> ∃bs:List (Addr×k),ys=bs.map (λ b=>V.ref b.1)/\bs.map (·.2)=zs.take i/\Same H H'/\(∀b∈bs,H b.1=none/\H' b.1=some (.lst (F b.2)))/\(bs.map (·.1)).Nodup) #[[],rfl,rfl,Same.refl H,by simp,by simp] ?_ ?_ ?_ ?_
 .rintro i ys H' ⟨bs,rfl,_,h,_⟩;show h.seq t
 .rintro i ys H' ⟨bs,rfl,e,_⟩;have:=Zk List.length e;rw [Qb,Yp] at this;rw [Qb];rfl'
 .rintro i z ys H' v ⟨bs,rfl,e,h,j,l⟩;have q:=B i z H' v h (λ y r=> ∃f:List (Addr×k),bs.map (λ b=>V.ref b.1)++[y]=f.map (λ b=>V.ref b.1)/\f.map (·.2)=zs.take (i+1)/\Same H r/\(∀b∈f,H b.1=none/\r b.1=some (.lst (F b.2)))/\(f.map (·.1)).Nodup) λ p d=>by
   refine#[bs++[(p,z)],by simp,by rw [Zb,e,Yc,v];rfl,h.new d,λ b m=> ?_,?_]
   .rcases Zh.mp m with m | m
    .exact #[(j b m).1,aq d (j b m).2]
    .rw [Za.mp m];show#[h.free d,aj]
   .rw [Zb,Yl];refine#[l,by simp,λ u C w D s=> ?_];let#[b,o,rfl]:=Ze.mp C;rw [Za.mp (show w∈[p] from D)] at s;rw [<- s,(j b o).2] at d;cases d
  simpa only [jc,ð] using q
 .rintro ys H' ⟨bs,rfl,e,h,j,l⟩ p d;rw [Yh] at e;show x p _ bs (h.new d) (h.free d) aj e (λ b m=>#[(j b m).1,aq d (j b m).2]) l λ m=>by
   let#[b,o,rfl]:=Ze.mp m;rw [(j b o).2] at d;cases d
end
def QB (K:W.Frag) (H:Hp) (a:Addr) (ht:Nat) (ls:List (Str×List Nat)):Prop:= ∃ (l:Addr) (zs:List Lz),H a=some (.tup [.int (ht:Int), .ref l])/\zs.map (λ z:Lz=>(z.2.1,z.2.2.2))=ls/\H l=some (.tup (zs.map λ z:Lz=>V.ref z.1))/\ ∀z∈zs,H z.1=some (.tup [.str z.2.1, .ref z.2.2.1])/\H z.2.2.1=some (.tup (nv z.2.2.2))
def QC (ht:Nat) (ls:List (Str×List Nat)):PyData:= .tuple [.int (ht:Int), .tuple (ls.map λ p=> .tuple [.str p.1, .tuple ((p.2.map λ i:Nat=>(i:Int)).map PyData.int)])]
def QD (H:Hp) (p:Addr) (zs:List Lz):Prop:=H p=some (.lst (zs.map λ z:Lz=>V.ref z.1))/\ ∀z∈zs,H z.1=some (.tup [.str z.2.1, .ref z.2.2.1])/\H z.2.2.1=some (.lst (nv z.2.2.2))
def QF (ls:List (Str×List Nat)):PyData:= .list (ls.map λ p=> .tuple [.str p.1, .list ((p.2.map λ i:Nat=>(i:Int)).map PyData.int)])
section
variable {σ:St} {H:Hp} {Q:VK} {D:Ends} {K:W.Frag} {g:TG} {κ:List (Option Nat)} {tc:TT} {te:TE}
theorem uO {ns:List Str} (e:SqL K H a (ns.map V.str)) (d:ns.Nodup) (c:ns.length<64) (h: ∀r (b:List Str),b.Perm ns->b.Pairwise jC->H r=none->Q (.ref r) (upd H r (.lst (b.map V.str)))):kh K [.ref a] H Q:=#[a,ns,rfl,e,d,c,h]
end
end L2
namespace Fo
open PySem L2
structure GoodL (ht:Nat) (zs:List Lz):Prop where
 pos:1<=zs.length
 le:zs.length<=40
 nd:(zs.map λ z:Lz=>z.2.1).Nodup
 sg: ∀z∈zs,Hs.Sg z.2.1
 c1: ∀z∈zs,1<=z.2.2.2.length/\z.2.2.2.length<=8
 cb: ∀z∈zs,∀x∈z.2.2.2,x<2^ht
def Of (zs:List Lz) (ls:List (Str×List Nat)):Prop:=ls.Perm (zs.map λ z:Lz=>(z.2.1,z.2.2.2))/\(ls.map (·.1)).Pairwise jC
end Fo
namespace Hs
open PySem L2
theorem Dc {m n:Int} (h:gG m=gG n):m%94=n%94:=by
 have e:qw.cps.toList.length=94:=by ac_nf
 have a:qw.cps.toList.Nodup:=by ac_nf
 have a0:0<=m%94:=Xi _ (by decide);have b:m%94<94:=Xk _ (by decide);have c:0<=n%94:=Xi _ (by decide);have d:n%94<94:=Xk _ (by decide);unfold gG at h;rw [Zz,Zz,Zc (),Zc ()] at h;have:=(È (h₀:=()) (h₁:=()) a).mp h;rfl'
end Hs
namespace L2
open PySem
variable {H:Hp} {p:Addr} {ys:List V} {R:It->Hp->Prop} {kvs:List (Key×V)} {rows:List (Addr×List Nat)}
abbrev Gz:=Addr×V×Addr×List V
def QG (H:Hp) (p:Addr) (gs:List Gz):Prop:=H p=some (.lst (gs.map λ g:Gz=>V.ref g.1))/\ ∀g∈gs,H g.1=some (.tup [g.2.1, .ref g.2.2.1])/\H g.2.2.1=some (.lst g.2.2.2)/\Thing H g.2.1/\(∀v∈g.2.2.2,Thing H v)/\g.2.2.2.length<=1000
def QH (z:Lz):Gz:=(z.1,V.str z.2.1,z.2.2.1,nv z.2.2.2)
theorem Gu {Q:VK} {c:Int} {n m:Nat} (a:0<n) (e:c%(n:Int)=(m:Int)) (h:Q (.int (m:Int)) H):bu (.int c) (.int (n:Int)) H Q:=#[c,n,rfl,rfl,(),by change Q (.int (c%(n:Int))) H;rw [e];show h]
theorem De {l:Addr} {xs:List V} {v:V} {R:Hp->Prop} (e:H l=some (.lst xs)) (a:0<xs.length) (h:R (upd H l (.lst (xs.set (xs.length-1) v)))):ph (.ref l) (.int (-1)) v H R:=by
 refine#[l,xs,-1,xs.length-1,rfl,rfl,e,?_,h];unfold wW;rw [if_neg (by decide),if_pos ()];congr 1;rfl'
section
variable {σ:St} {H:Hp} {Q:VK} {D:Ends} {K:W.Frag} {g:TG} {tb:TS} {κ:List (Option Nat)} {tc:TT} {te:TE}
def QJ (K:W.Frag) (R:It->Hp->Prop) (vs:List V) (H:Hp):Prop:= ∃a b xs ys,vs=[.ref a, .ref b]/\SqT K H a xs/\SqL K H b ys/\R (Jp K a b) H
def QK (R:It->Hp->Prop) (vs:List V) (H:Hp):Prop:= ∃i j:Int,vs=[.int i, .int j, .int (-1)]/\(-(2^62)<=i/\i<2^62/\ -(2^62)<=j/\j<2^62)/\R (Jq i (i-j).toNat) H
def QL (K:W.Frag) (R:It->Hp->Prop) (vs:List V) (H:Hp):Prop:= ∃a b xs ys,vs=[.ref a, .ref b]/\SqL K H a xs/\SqT K H b ys/\R (JB K a b) H
def QM (K:W.Frag) (R:It->Hp->Prop) (vs:List V) (H:Hp):Prop:= ∃a xs,vs=[.ref a]/\SqL K H a xs/\R (Jt K a xs.length) H
def QQ (K:W.Frag) (R:It->Hp->Prop) (vs:List V) (H:Hp):Prop:= ∃a xs,vs=[.ref a]/\SqT K H a xs/\R (Ju K a xs.length) H
end
theorem Qk {a:Type} {P:List a->Prop} (h:P []): ∀us:List a,us.length=0->P us
 | [],_=>h
theorem ar1 {a:Type} {P:List a->Prop} (h: ∀a0:a,P [a0]): ∀us:List a,us.length=1->P us
 | [a0],_=>h a0
theorem ar2 {b:Type} {P:List b->Prop} (h: ∀a0 a:b,P [a0,a]): ∀us:List b,us.length=2->P us
 | [a0,a],_=>h a0 a
theorem PN {c:Type} {P:List c->Prop} (h: ∀a0 a b:c,P [a0,a,b]): ∀us:List c,us.length=3->P us
 | [a0,a,b],_=>h a0 a b
theorem Ql {d:Type} {P:List d->Prop} (h: ∀a0 a b c:d,P [a0,a,b,c]): ∀us:List d,us.length=4->P us
 | [a0,a,b,c],_=>h a0 a b c
theorem O1 {e:Type} {P:List e->Prop} (h: ∀a0 a b c d:e,P [a0,a,b,c,d]): ∀us:List e,us.length=5->P us
 | [a0,a,b,c,d],_=>h a0 a b c d
theorem Qm {f:Type} {P:List f->Prop} (h: ∀a0 a b c d e:f,P [a0,a,b,c,d,e]): ∀us:List f,us.length=6->P us
 | [a0,a,b,c,d,e],_=>h a0 a b c d e
structure RefN (K:W.Frag) (C B D1 D2:Addr):Prop where
 ex:ExcK K C
 em:PySem.W.exmOne K (.ref C) (.ref C)=some true
 kb:PySem.W.kitOne K (.ref C) (.ref B)=some true
 kv:PySem.W.kitOne K (.ref C) (.type "ValueError")=some true
 k1:PySem.W.kitOne K (.ref C) (.ref D1)=some false
 k2:PySem.W.kitOne K (.ref C) (.ref D2)=some false
namespace Tn
def dv (cs:List Nat):Nat:=PySem.NumText.digitsVal cs
def J0 (c:Nat):List Nat->List (List Nat)
 | []=>[[]]
 | x::r=>if x=c then []::J0 c r else match J0 c r with
  | []=>[[x]]
  | p::ps=>(x::p)::ps
def yW (c:Nat):List (List Nat)->List Nat
 | []=>[]
 | [p]=>p
 | p::q::r=>p++c::yW c (q::r)
end Tn
structure RefC (K:W.Frag) (C B D1 D2:Addr) (b1 b2:Bool):Prop where
 ex:ExcK K C
 em:PySem.W.exmOne K (.ref C) (.ref B)=some true
 kv:PySem.W.kitOne K (.ref C) (.type "ValueError")=some true
 k1:PySem.W.kitOne K (.ref C) (.ref D1)=some b1
 k2:PySem.W.kitOne K (.ref C) (.ref D2)=some b2
def PP (R:It->Hp->Prop):V->Hp->Prop:=λ x H1=> ∃a kvs,x= .ref a/\((H1 a=some (.dK kvs)/\ ∀od,R (vW od a) (upd H1 a (.frz od (.dK kvs))))\/ ∃od,H1 a=some (.frz od (.dK kvs))/\R (vW od a) H1)
section
variable {σ:St} {H:Hp} {Q:VK} {D:Ends} {K:W.Frag} {g:TG} {κ:List (Option Nat)} {tc:TT} {te:TE}
theorem yX {a:TE} (h:a σ H (PP R)):rH a σ H R:=h
theorem DGet.r {a:Addr} {k:Key} (e:Rd H a (.dK kvs)):DGet H a (kV k) (dh kvs k):= .inl #[kvs,k,e,rfl,rfl]
end
def kz (kvs:List Kz):List (Str×List Nat):=kvs.map λ p:Kz=>(p.1,p.2.2)
def QR (H:Hp) (d:Addr) (ls:List (Str×List Nat)):Prop:= ∃kvs:List Kz,Rd H d (.dK (Qi kvs))/\(∀p∈kvs,H p.2.1=some (.tup (nv p.2.2)))/\(∀s,Fo.lk (kz kvs) s=Fo.lk ls s)
structure RefD (K:W.Frag) (C B D1 D2 D3:Addr) (b1 b2 b3:Bool) (ds es:List Addr):Prop where
 ex:ExcK K C
 em:PySem.W.exmOne K (.ref C) (.ref B)=some true
 k1:PySem.W.kitOne K (.ref C) (.ref D1)=some b1
 k2:PySem.W.kitOne K (.ref C) (.ref D2)=some b2
 k3:PySem.W.kitOne K (.ref C) (.ref D3)=some b3
 ka:PySem.W.kitAny K (.ref C) (ds.map Value.ref)=some false
 kb:PySem.W.kitAny K (.ref C) (es.map Value.ref)=some false
 kv:PySem.W.kitOne K (.ref C) (.type "ValueError")=some true
namespace Tn
structure GR (W:List Nat->Nat) (wide:Int) (ws rows:List (List Nat)):Prop where
 nil:rows=[]↔ws=[]
 eq:yW 32 rows=yW 32 ws
 ok: ∀r∈rows,r≠[]/\(W r:Int)<=wide
 mx: ∀k (h:k+1<rows.length),wide<(W (rows[k]++32::(J0 32 rows[k+1]).headD []):Int)
end Tn
theorem Gv {K:W.Frag} {C:Addr} {i:Nat} {c:XK} {d e:TS} {D:Ends} {b:St} (f:d D b H) (g: ∀a H',c a none H'->PySem.W.exmOne K a (.ref C)=some true/\ ∀x,H' x=none->e (behind i D) (b.set i (some (.ref x))) (upd H' x (mY x a))):yh K C i c d e D b H:=#[f,g]
def KL (K:W.Frag) (C:Addr):List (Addr×Bool)->Prop
 | []=>True
 | p::r=>PySem.W.kitOne K (.ref C) (.ref p.1)=some p.2/\KL K C r
structure RefG (K:W.Frag) (C B:Addr) (ks:List (Addr×Bool)):Prop where
 ex:ExcK K C
 em:PySem.W.exmOne K (.ref C) (.ref B)=some true
 kv:PySem.W.kitOne K (.ref C) (.type "ValueError")=some true
 kl:KL K C ks
def KA (K:W.Frag) (C:Addr):List (List Addr)->Prop
 | []=>True
 | p::r=>PySem.W.kitAny K (.ref C) (p.map Value.ref)=some false/\KA K C r
structure RefH (K:W.Frag) (C B:Addr) (ks:List (Addr×Bool)) (ls:List (List Addr)):Prop where
 ex:ExcK K C
 em:PySem.W.exmOne K (.ref C) (.ref B)=some true
 kv:PySem.W.kitOne K (.ref C) (.type "ValueError")=some true
 kl:KL K C ks
 ka:KA K C ls
structure RefE (K:W.Frag) (C B D1 D2:Addr) (b1 b2:Bool) (ds:List Addr):Prop where
 ex:ExcK K C
 em:PySem.W.exmOne K (.ref C) (.ref B)=some true
 k1:PySem.W.kitOne K (.ref C) (.ref D1)=some b1
 k2:PySem.W.kitOne K (.ref C) (.ref D2)=some b2
 kv:PySem.W.kitOne K (.ref C) (.type "ValueError")=some true
 ka:PySem.W.kitAny K (.ref C) (ds.map Value.ref)=some false
def LL (H:Hp) (p:Addr) (rows:List (Addr×List Nat)):Prop:=H p=some (.lst (rows.map λ r:Addr×List Nat=>V.ref r.1))/\ ∀r∈rows,H r.1=some (.lst (nv r.2))
theorem LL.dp {K:W.Frag} (a:SqL K H p (rows.map λ r:Addr×List Nat=>V.ref r.1)) (b: ∀r∈rows,H r.1=some (.lst (nv r.2))):Dp K H (.ref p) (.list ((rows.map (·.2)).map λ xs=> .list ((xs.map λ i:Nat=>(i:Int)).map PyData.int))):=by
 refine .lst a ?_;clear a;induction rows with
 | nil=>show .nil
 | cons z r ih=>show .cons (Dp.nats (SqL.of (b z Zp))) (ih λ y c=>b y (Zu _ c))
theorem yZ (a:List (List Nat)):Sh 2 (.list (a.map λ xs=> .list ((xs.map λ i:Nat=>(i:Int)).map PyData.int))):=by
 have:=yI (a.map λ xs=>xs.map λ i:Nat=>(i:Int));rw [Zj] at this;show this
section
variable {σ:St} {H:Hp} {Q:VK} {D:Ends} {K:W.Frag} {g:TG} {tb:TS}
def QS (r:V->V->Hp->VK->Prop) (Q:VK) (vs ks:List V) (H:Hp):Prop:= ∃x y,vs=[x]/\ks=[y]/\r x y H Q
def QT (K:W.Frag) (R:It->Hp->Prop) (vs ks:List V) (H:Hp):Prop:= ∃a xs o,vs=[.ref a]/\ks=[.int ((o:Nat):Int)]/\o<=1000000000/\SqL K H a xs/\R (P0 K a o) H
def QV (K:W.Frag) (R:It->Hp->Prop) (vs:List V) (H:Hp):Prop:= ∃a xs,vs=[.ref a]/\SqT K H a xs/\R (Jz K a) H
def QW (R:It->Hp->Prop) (vs ks:List V) (H:Hp):Prop:= ∃x o,vs=[.str x]/\ks=[.int ((o:Nat):Int)]/\o<=1000000000/\R (Jy x o) H
end
def QX (H:Hp) (p:Addr) (rows:List (List Nat)):Prop:= ∃as:List Addr,as.length=rows.length/\H p=some (.lst (as.map V.ref))/\ ∀ (i:Nat) a r,as[i]? =some a->rows[i]? =some r->H a=some (.lst (nv r))
section
variable {σ:St} {H:Hp} {Q:VK} {D:Ends} {K:W.Frag} {g:TG} {κ:List (Option Nat)} {tc:TT} {te:TE}
def QZ (K:W.Frag) (R:It->Hp->Prop) (vs:List V) (H:Hp):Prop:= ∃a b xs ys,vs=[.ref a, .ref b]/\SqT K H a xs/\SqT K H b ys/\R (Jv K a b) H
end
theorem nW {q:Addr} {xs:List V} {o:HO} (h:H p=some (.tup xs)) (e:H q=some (.lst ys)):upd H q o p=some (.tup xs):=by
 rw [aC λ z=>by rw [z,e] at h;cases h];show h
end L2
namespace Mm
section
variable {α:Type}
inductive Rch (bs:List α) (nx:α->List α):α->Prop
 | base {x:α} (h:x∈bs):Rch bs nx x
 | step {x y:α} (h:Rch bs nx x) (m:y∈nx x):Rch bs nx y
structure Clo (bs:List α) (nx:α->List α) (F W:List α):Prop where
 nd:F.Nodup
 rF: ∀x∈F,Rch bs nx x
 rW: ∀x∈W,Rch bs nx x
 b: ∀x∈bs,x∈F\/x∈W
 c: ∀x∈F,∀y∈nx x,y∈F\/y∈W
end
end Mm
namespace L2
open PySem
theorem rNeD.nil {H:Hp} {Q:VK} {K:W.Frag} {n:Nat} {a p:Addr} {ds:List PyData} (c:Dp K H (.ref a) (.list ds)) (h:Sh n (.list ds)) (f:n<=64) (g:SqL K H p []) (q:Q (.bl (!decide (ds=[]))) H):rNeD K (.ref a) (.ref p) H Q:=by
 have b:Sh 1 (.list []):=gD (λ d e=>by cases e);refine#[_, .list [],c, .lst g .nil,h.shaped f,b.shaped (by decide),?_]
 cases ds with
 | nil=>rw [eqv_refl _ b.1];show q
 | cons z r=>show q
def R4 (R:It->Hp->Prop):V->Hp->Prop:=λ x H1=> ∃a kvs,x= .ref a/\((H1 a=some (lw a kvs)/\ ∀od,R (Cw od a kvs) (upd H1 a (.frz od (lw a kvs))))\/ ∃od,H1 a=some (.frz od (lw a kvs))/\R (Cw od a kvs) H1)
def R5 (R:It->Hp->Prop):V->Hp->Prop:=λ x H1=> ∃a kvs,x= .ref a/\((H1 a=some (lw a kvs)/\ ∀od,R (Cy od a kvs) (upd H1 a (.frz od (lw a kvs))))\/ ∃od,H1 a=some (.frz od (lw a kvs))/\R (Cy od a kvs) H1)
end L2
end
set_option Elab.async false
set_option linter.all false
set_option maxRecDepth 100000
open L2
local macro_rules | `(tactic| walk_at "si") => `(tactic| first | assumption | (with_reducible exact Mm.big_pos) | (with_reducible exact Int.pow_pos (by decide)) | rfl' | (dsimp only; rfl') | exact ⟨by rfl', by rfl'⟩ | exact Or.inr ⟨by rfl', by rfl'⟩ | exact Or.inl ⟨by rfl', by rfl'⟩ | exact ⟨by rfl', by rfl', by rfl'⟩ | exact ⟨by rfl', by rfl', by decide⟩ | (dsimp only; decide) | exact Mm.Cz _ | exact Mm.big_pos | exact Int.pow_pos (by decide))
local macro_rules | `(tactic| walk_at "gp") => `(tactic| repeat (first | walk_at "st" | (with_reducible (refine s_lenA (xs := ?xs) ?e ?_; case e => assumption))))
local macro_rules | `(tactic| symm) => `(tactic| repeat walk_at "st")
local macro_rules | `(tactic| walk_at "gq") => `(tactic| (intro R h; (with_unfolding_all walk_at "gp"); exact h))
local macro_rules | `(tactic| walk_at "sx") => `(tactic| with_reducible first|refine JT ?_|refine JV ?_|refine G3 ?_|refine JW ?_|refine Nt ?_| (refine JX (v:= ?v) ?e ?_;case e=>with_unfolding_all exact rfl)|refine Qh ?_|refine CK ?_|refine s_call ?_|refine G5 ?_|refine JZ ?_|refine K7 ?_| (refine Nz ?_ ?_;(with_unfolding_all walk_at "si"))|refine K8 ?_|refine K9 ?_|refine G6 ?_|refine NT ?_|refine Kw ?_|refine yU ?_|refine Gq ?_|refine Ky ?_|refine yM ?_|refine Nx ?_|refine K4 ?_|refine K1 ?_|refine K3 ?_|refine K5 ?_|refine Ny ?_|refine G7 ?_|refine G8 ?_|refine K6 ?_|refine xm ?_|refine xj ?_|refine JM ?_|refine JN ?_|refine FW ?_|refine Nv ?_|refine Nu ?_|refine NB ?_| (refine yG (b:= ?b) (c:= ?c) (x:= ?x) (y:= ?y) (z:= ?z) ?h1 ?h2 ?h3 ?h4 ?h5 ?_;(case h1=>walk_at "gq");(case h2=>walk_at "gq");(case h3=>walk_at "gq");(case h4=>walk_at "gq");(case h5=>walk_at "gq"))|refine G4 ?_|refine Kv ?_|refine CW ?_|refine CN ?_|refine G9 ?_|refine Ga ?_|refine Kh ?_|refine Kl ?_|refine Km ?_|refine Kr ?_|refine CT ?_|refine uI ?_|refine Ka ?_|refine Kc ?_| (refine Ke ?_ ?_;(with_unfolding_all first | decide|(simp;rfl') | simp))|refine NK ?_|refine yx ?_|refine Gb ?_|refine Ge ?_|refine NP ?_|refine Kf ?_|refine NQ ?_|refine CP ?_|refine Gf ?_|refine CQ ?_|refine Gg ?_|refine yX ?_|refine Gm ?_|refine Gp ?_| (refine Kd ?_ ?_;(with_unfolding_all first | exact Nr | exact ext2 | exact ext3)))
local macro_rules | `(tactic| walk_at "st") => `(tactic| first | with_reducible refine JS ?_ | walk_at "sx")
local macro_rules | `(tactic| walk_at "sj") => `(tactic| first | walk_at "sx")
local macro_rules | `(tactic| walk_at "gj") => `(tactic| repeat walk_at "sj")
local macro_rules | `(tactic| walk_at "hp") => `(tactic| first
 | assumption
 | exact aj
 | (refine SqL.of ?_;walk_at "hp")
 | (refine SqT.of ?_;walk_at "hp")
 | (refine gC (by assumption) ?_;walk_at "hp")
 | (refine tup_new (by assumption) ?_;walk_at "hp")
 | (refine aq (by assumption) ?_;walk_at "hp")
 | (refine Same.seq (by assumption) ?_;walk_at "hp")
 | (refine Same.tup (by assumption) ?_;walk_at "hp")
 | (refine Same.get (by assumption) ?_;walk_at "hp"))
local macro_rules | `(tactic| walk_at "sm") => `(tactic| first | assumption | exact Same.refl _ | (refine Same.new ?_ (by assumption);walk_at "sm") | (refine Same.trans ?_ (by assumption);walk_at "sm"))
local macro_rules | `(tactic| walk_at "ns") => `(tactic| try dsimp only [L2.start, List.map, List.length, Nat.reduceAdd, Nat.reduceSub, List.reduceReplicate, List.cons_append, Ð, List.set])
namespace Pg
open PySem L2
variable {v:V} {Q:VK} {σ:St} {ds:L2S} {H H':Hp} {ys:List V} {a d r t:Addr} {od:PySem.Obj} {b c co:List Nat} {c0 ht j n wd:Nat} {rs:List (Addr×L1S)} {κ:List (Option Nat)} {rows:List (List Nat)} {zs:List (Addr×List Nat)}
def wj:Addr:=24
def gH:Addr:=37
def gJ:Addr:=49
def qx:Addr:=61
def qy:Addr:=73
def dW:Addr:=85
def fO:Addr:=97
def qz:Addr:=109
def cZ:Addr:=121
def iY:Addr:=133
def d7:Addr:=145
def qC:Addr:=157
def qD:Addr:=169
def qF:Addr:=181
variable {K:W.Frag} {vs:List V} {H:Hp} {Q:VK} {E:XK}
theorem lE {xs:List V} (e:H a=some (.tup (v::xs))) (h:Q v H):cF K (.ref a) (.int 0) H Q:=gQ (SqT.of e) (bf (j:=0) (v:=v) rfl) h
theorem Gw {v0:V} {xs:List V} (e:H a=some (.tup (v0::v::xs))) (h:Q v H):cF K (.ref a) (.int 1) H Q:=gQ (SqT.of e) (bf (j:=1) (v:=v) rfl) h
inductive sp_f28 (K:W.Frag) (vs:List V) (H:Hp) (Q:VK) (E:XK):Prop
 | mk (x:V) (h0:vs=[x]) (h1:Thing H x) (h2:Q (.bl (isI x)) H):sp_f28 K vs H Q E
def su (K:W.Frag) (E:XK) (Eh:XK):TS:=
  (bh (lH (cz (dj K) (aa (ak 0) (aa (tC (V.ty "int")) au))) (u5 (cz (dj K) (aa (ak 0) (aa (tC (V.ty "bool")) au))))))
theorem Gx (h:sp_f28 K vs H Q E): ∃a,su K E a { nx:=λ _ H'=>Q .non H',rt:=Q } (start ["thing"] vs) H:=by
 let#[x,rfl,c,q]:=h;refine#[E0,?_];unfold su;symm;rcases c.ty (K:=K) with ⟨b,rfl⟩ | ⟨i,rfl⟩ | ⟨s,rfl,_⟩ | ⟨n,ty,hn,e,_⟩
 .refine di (.bl b) (b:=true) rfl ?_;symm;refine di (.bl b) (b:=true) rfl ?_;symm;show q
 .refine di (.int i) (b:=true) rfl ?_;symm;refine di (.int i) (b:=false) rfl ?_;symm;show q
 .refine di (.str s) (b:=false) rfl ?_;symm;show q
 .rw [e] at q;refine di ty (b:=false) (by rcases hn with rfl | rfl | rfl | rfl<;>rfl) ?_;symm;show q
def sgn:V->Bool
 | .str s=>decide (s.length=1)&&(!decide (s.cps.toList<(Str.ofString " ").cps.toList)&&(!decide ((Str.ofString "~").cps.toList<s.cps.toList)&& !decide (((s.cps.getD 0 0:Nat):Int)=37)))
 | _=>false
theorem sy {s:Str} (h:Hs.Sg s):sgn (.str s)=true:=by
 let#[n,rfl]:=h;have: ∀c∈Hs.qw.cps.toList,sgn (.str (tx [c]))=true:=by ac_nf
 have d:Hs.qw.cps.toList.length=94:=by ac_nf
 have a:0<=n%94:=Xi _ (by decide);have b:n%94<94:=Xk _ (by decide);refine this _ ?_;unfold Hs.gG;rw [Zz,Zc ()];show Yr _
inductive sp_f30 (K:W.Frag) (vs:List V) (H:Hp) (Q:VK) (E:XK):Prop
 | mk (x:V) (h0:vs=[x]) (h1:Thing H x) (h2:Q (.bl (sgn x)) H):sp_f30 K vs H Q E
def sE (K:W.Frag) (E:XK) (Eh:XK):TS:=
  (aG (bL (J4 (iy (ie K (cz (dj K) (aa (ak 0) (aa (tC (V.ty "str")) au))))) (b7 (aK Dv (cz (cV K) (aa (ak 0) au)) (tC (V.int 1))))) (bh (tC (V.bl false))) aW)
  (bh (lH (j6 jW jW (tC (V.str (Str.ofString " "))) (ak 0) (tC (V.str (Str.ofString "~")))) (aK Dv (cz DQ (aa (ak 0) au)) (tC (V.int 37))))))
theorem Gy (h:sp_f30 K vs H Q E): ∃f,sE K E f { nx:=λ _ H'=>Q .non H',rt:=Q } (start ["thing"] vs) H:=by
 let#[x,rfl,j,q]:=h;refine#[E0,?_];unfold sE;symm;rcases j.ty (K:=K) with ⟨b,rfl⟩ | ⟨i,rfl⟩ | ⟨s,rfl,hl⟩ | ⟨n,ty,hn,_,e⟩
 .refine di (.bl b) (b:=false) rfl ?_;symm;show q
 .refine di (.int i) (b:=false) rfl ?_;symm;show q
 .refine di (.str s) (b:=true) rfl ?_;symm;refine rT () ?_;symm;refine iW (λ c=> ?_) λ c=> ?_
  .have e:sgn (.str s)=false:=by
    change(decide (s.length=1)&&_)=false;rw [Yj (),Ä]
   rw [e] at q;symm;show q
  .have a:s.length=1:=()
   have e:sgn (.str s)=(!decide (s.cps.toList<(Str.ofString " ").cps.toList)&&(!decide ((Str.ofString "~").cps.toList<s.cps.toList)&& !decide (((s.cps.getD 0 0:Nat):Int)=37))):=by
    change(decide (s.length=1)&&_)=_;rw [Yi a,Bool.true_and]
   rw [e,<- Bool.and_assoc] at q;symm;refine JP (λ d=> ?_) λ d=> ?_
   .rw [d,Bool.true_and] at q;symm;refine Ko a ?_;symm;show q
   .rw [d,Ä] at q;symm;show q
 .have g:sgn x=false:=by
   cases x with
   | str s=>show absurd rfl (e s)
   | _=>rfl
  rw [g] at q;refine di ty (b:=false) (by rcases hn with rfl | rfl | rfl | rfl<;>rfl) ?_;symm;show q
inductive sp_f17 (K:W.Frag) (vs:List V) (H:Hp) (Q:VK) (E:XK):Prop
 | mk (f:Addr) (ht:Nat) (ls:List (Str×List Nat)) (x:V) (h0:vs=[.ref f,x]) (h1:Thing H x) (h2:FnT K H f ht ls) (h3:(∀p∈ls,Hs.Sg p.1)) (h4:(∀s c,x= .str s->Fo.lk ls s=some c-> ∀r,H r=none->Q (.ref r) (upd H r (.lst (nv c))))) (h5:((∀s,x= .str s->Fo.lk ls s=none)->E (.ref dW) none H)):sp_f17 K vs H Q E
def sG (K:W.Frag) (E:XK) (Eh:XK):TS:=
  (aG (bL (ie K (aJ (sp_f30 K) [] E0 (aa (ak 1) au))) (dO (oO K (aK (cF K) (ak 0) (tC (V.int 1)))) (uZ K 2 (jh (aA 2) (jh (aA 3) wD))) (bL (b7 (aK qt (ak 2) (ak 1))) (bh (cz (cH K) (aa (ak 3) au))) aW)) aW)
  (cW E dW (aa (tC (V.str (Str.ofString "the font does not have that sign"))) au)))
theorem GC (h:sp_f17 K vs H Q E): ∃A,sG K E A { nx:=λ _ H'=>Q .non H',rt:=Q } (start ["font","sign","letter","columns"] vs) H:=by
 let#[f,N,ls,x,rfl,J,F,o,q,y]:=h;refine#[E0,?_];unfold sG;let#[l,C,zs,w,G,B,D]:=F.at;symm;refine#[x,rfl,J,?_];symm;refine JP (λ c=> ?_) λ c=> ?_
 .obtain ⟨s,rfl⟩: ∃s,x= .str s:=by
   cases x with
   | str s=>show#[s,rfl]
   | _=>cases c
  symm;refine gQ C (bf (j:=1) (v:= .ref l) rfl) ?_;refine yD (λ z:Lz=>V.ref z.1) w (λ i d H'=>H=H'/\Fo.lk ls s=Fo.lk (ls.drop i) s/\ ∃p t,d=[some (.ref f),some (.str s),p,t]) #[rfl,rfl,none,none,rfl] ?_ ?_ ?_
  .rintro i d _ ⟨rfl,_⟩;show w
  .rintro i ⟨b,L,M,g⟩ d _ m ⟨rfl,e,p,t,rfl⟩;have u:=D _ (Zg m);dsimp only at u;have n:i<zs.length:=(Zv.mp m).1;have a:ls.drop i=(L,g)::ls.drop (i+1):=by
    rw [<- B,Wa (by simpa using n),Ê,(Zv.mp m).2]
   rw [a,Fo.nU] at e;symm;refine rQ u.1 rfl ?_;symm;refine eQ (λ c=> ?_) λ c=> ?_
   .symm;refine eV u.2 λ r I=> ?_
    show q s g rfl (by rw [e,if_pos c]) r I
   .symm;show#[rfl,by rw [e,if_neg c],_,_,rfl]
  .rintro d _ ⟨rfl,e,p,t,rfl⟩;symm;refine y λ s' k=> ?_
   cases k;rw [e,G,ÿ];rfl
 .symm;refine y λ s k=> ?_
  cases es':Fo.lk ls s with
  | none=>rfl
  | some g=>
   have:=sy (o _ (Fo.bW es'));rw [<- k,c] at this
   cases this
theorem GD (h:sp_f17 K vs H Q E):vs.length=2:=by
 let#[_,_,_,_,rfl,_]:=h;rfl
abbrev Pz:=Addr×V×V
def ofD (z:Dz):Pz:=(z.1, .str z.2.1, .int z.2.2)
theorem uP {a b:Dz} (e:ofD a=ofD b):a=b:=by
 let#[g,i,k]:=a;let#[h,j,l]:=b;unfold ofD at e;simp only [Prod.mk.injEq,V.str.injEq,V.int.injEq] at e;let#[c,d,f]:=e;rw [c,d,f]
def RowG (n:Nat) (zs:List Dz):Prop:=(zs.map (·.2.1)).Nodup/\ ∀z∈zs,Hs.Sg z.2.1/\0<=z.2.2/\z.2.2<n
def w5 (n:Nat) (is:List Int):Prop:=is.Nodup/\ ∀i∈is,0<=i/\i<n
theorem RowG.take {k:Nat} {zs:List Dz} (h:RowG n zs):RowG n (zs.take k):=#[List.Nodup.sublist ((Á _ _).map _) h.1,λ z m=>h.2 z (ç m)]
theorem qj {a:Type} {f:a->Key} {g:a->V} {l:List a} {k:Key} (h:k∈l.map f): ∃v,dh (l.map λ z=>(f z,g z)) k=some v:=by
 have b:((l.map λ z=>(f z,g z)).any λ c=>decide (c.1=k))=true:=by
  let#[z,d,e]:=Ze.mp h;show Xs.mpr #[(f z,g z),Ze.mpr #[z,d,rfl],Yi e]
 rw [iG] at b;show Option.isSome_iff_exists.mp b
def IK (r:Addr×List Dz):Addr×List Pz:=(r.1,r.2.map ofD)
inductive sp_f10 (K:W.Frag) (vs:List V) (H:Hp) (Q:VK) (E:XK):Prop
 | mk (n:Int) (h0:vs=[.int n]) (h1:(1<=n->n<=40->Q .non H)) (h2:(¬ (1<=n/\n<=40)->E (.ref fO) none H)):sp_f10 K vs H Q E
def sI (K:W.Frag) (E:XK) (Eh:XK):TS:=
  (bL (iy (b7 (j6 Fx Fx (tC (V.int 1)) (ak 0) (tC (V.int 40))))) (cW E fO (aa (tC (V.str (Str.ofString "there are no rooms, or there are too many"))) au)) aW)
theorem GF (h:sp_f10 K vs H Q E): ∃d,sI K E d { nx:=λ _ H'=>Q .non H',rt:=Q } (start ["rooms"] vs) H:=by
 let#[n,rfl,q,c]:=h;refine#[E0,?_];unfold sI;symm;by_cases a:1<=n
 .by_cases b:n<=40
  .rw [Yi a,Yi b];symm;show q a b
  .rw [Yi a,Yj b,Bool.and_false];symm;show c λ h=>b h.2
 .rw [Yj a,Ä];symm;show c λ h=>a h.1
theorem GJ (h:sp_f10 K vs H Q E):vs.length=1:=by
 let#[_,rfl,_]:=h;rfl
inductive sp_f16 (K:W.Frag) (vs:List V) (H:Hp) (Q:VK) (E:XK):Prop
 | mk (x:V) (n:Nat) (h0:vs=[x, .int n]) (h1:Thing H x) (h2:(∀r:Int,x= .int r->0<=r->r<n->Q .non H)) (h3:((∀r:Int,x= .int r->0<=r->r<n->False)->E (.ref fO) none H)):sp_f16 K vs H Q E
def sJ (K:W.Frag) (E:XK) (Eh:XK):TS:=
  (bL (iy (wz (ie K (aJ (sp_f28 K) [] E0 (aa (ak 0) au))) (b7 (j6 Fx Jm (tC (V.int 0)) (ak 0) (ak 1))))) (cW E fO (aa (tC (V.str (Str.ofString "a room that is named is not there"))) au)) aW)
theorem GK (h:sp_f16 K vs H Q E): ∃d,sJ K E d { nx:=λ _ H'=>Q .non H',rt:=Q } (start ["room","rooms"] vs) H:=by
 let#[x,n,rfl,j,q,c]:=h;refine#[E0,?_];unfold sJ;symm;refine#[_,rfl,j,?_]
 cases x with
 | int i=>
  symm;change if true=true then _ else _
  symm;by_cases a:0<=i
  .by_cases b:i<n
   .rw [Yi a,Yi b];symm;show q i rfl a b
   .rw [Yi a,Yj b,Bool.and_false];symm;show c λ r e _ g=>b (by cases e;show g)
  .rw [Yj a,Ä];symm;show c λ r e f _=>a (by cases e;show f)
 | _=>
  symm;change if false=true then _ else _
  symm;show c λ r e _ _=>by cases e
theorem GP (h:sp_f16 K vs H Q E):vs.length=2:=by
 let#[_,_,rfl,_]:=h;rfl
theorem z6 {x:V} (h:sgn x=true): ∃s,x= .str s/\Hs.Sg s:=by
 cases x with
 | str s=>
  have h:(decide (s.length=1)&&(!decide (s.cps.toList<(Str.ofString " ").cps.toList)&&(!decide ((Str.ofString "~").cps.toList<s.cps.toList)&& !decide (((s.cps.getD 0 0:Nat):Int)=37))))=true:=h;simp only [Xm,decide_eq_true_eq,ô,decide_eq_false_iff_not] at h;let#[n,b,d,f]:=h;let#[a]:=s;let#[l]:=a
  match l,n,b,d,f with
  | [c],_,b,d,f=>
   have i:32<=c:=by
    rcases Wh c 32 with q | q
    .exact absurd (List.Lex.rel q) b
    .exact q
   have o:c<=126:=by
    rcases Wh 126 c with q | q
    .exact absurd (List.Lex.rel q) d
    .exact q
   have j:c≠37:=λ e=>f (by subst e;rfl)
   have g: ∀c<127,32<=c->c≠37-> ∃k<94,Hs.qw.cps.toList.getD k 0=c:=by ac_nf
   let#[k,p,m]:=g c () i j;refine#[_,rfl,(k:Int),?_];unfold Hs.gG;rw [show((k:Int)%94).toNat=k by rfl',m];rfl
 | _=>cases h
inductive sp_f11 (K:W.Frag) (vs:List V) (H:Hp) (Q:VK) (E:XK):Prop
 | mk (a:Addr) (gs:List Pz) (n:Nat) (h0:vs=[.ref a, .int n]) (h1:SqL K H a (gs.map λ g:Pz=>V.ref g.1)) (h2:(∀g∈gs,SqT K H g.1 [g.2.1,g.2.2]/\Thing H g.2.1/\Thing H g.2.2)) (h3:gs.length<64) (h4:(∀zs:List Dz,gs=zs.map ofD->RowG n zs-> ∀r H' ps,Same H H'->DrT K H' r ps->ps.Perm (zs.map (·.2))->(ps.map (·.1)).Pairwise jC->Q (.ref r) H')) (h5:((∀zs:List Dz,gs=zs.map ofD->RowG n zs->False)-> ∀H',Same H H'->E (.ref fO) none H')):sp_f11 K vs H Q E
abbrev z7 (K:W.Frag) (E:XK):TS:=
  (aG (bL (iy (ie K (aJ (sp_f30 K) [] E0 (aa (ak 3) au)))) (cW E fO (aa (tC (V.str (Str.ofString "a door's sign is none"))) au)) aW)
  (aG (bL (tB (BR (ak 3) (ak 2))) (cW E fO (aa (tC (V.str (Str.ofString "a sign comes twice in one room"))) au)) aW)
  (aG (cD (aJ (sp_f16 K) [] E (aa (ak 4) (aa (ak 1) au))))
  (jP (ak 2) (ak 3) (ak 4)))))
def sO (K:W.Frag) (E:XK) (Eh:XK):TS:=
  (aG (aO jQ (aA 2))
  (aG (dO (cO K (ak 0)) (uZ K 2 (jh (aA 3) (jh (aA 4) wD))) (z7 K E))
  (bh (cz (cI K) (aa (nA (ak 2)) au)))))
theorem GQ (h:sp_f11 K vs H Q E): ∃Eh,sO K E Eh { nx:=λ _ H'=>Q .non H',rt:=Q } (start ["pairs","rooms","made","sign","room"] vs) H:=by
 let#[a,X,n,rfl,hS,hg,N,q,qe]:=h;refine#[E0,?_];unfold sO;symm;intro m hm;symm;have G: ∀p'∈[m],H p'=none:=λ p' I=>by rw [Za.mp I];show hm
 refine jq (λ g:Pz=>V.ref g.1) (zs:=X) (gC hm hS) (λ i σ H'=> ∃zs:List Dz,X.take i=zs.map ofD/\RowG n zs/\Sb [m] H H'/\H' m=some (.dK (zs.map λ z:Dz=>((Sum.inr z.2.1:Key),V.int z.2.2)))/\ ∃o1 o2,σ=[some (.ref a),some (.int (n:Nat)),some (.ref m),o1,o2]) #[[],rfl,#[by simp,by simp],Sb.of (aD hm _),aj,none,none,rfl] ?_ ?_ ?_
 .rintro i σ H' ⟨zs,_,_,L,_⟩;show L.seq G hS
 .rintro i ⟨b,x,y⟩ σ H' O ⟨zs,F,Y,L,W,o1,o2,rfl⟩;have ad:i<X.length:=(Zv.mp O).1;let#[tz,T,U]:=hg _ (Zg O);dsimp only at tz T U;have S:=L.off G;have l: ∀c:List Dz,X=c.map ofD-> ∃d∈c,(b,x,y)=ofD d/\c.take i=zs/\c.take (i+1)=zs++[d]:=λ c o=>by
   rw [o,Zm] at O;let#[d,M,D]:=Yk.mp O;have et:c.take i=zs:=(Wt (λ _ _ e=>uP e)).mp (by rw [List.map_take,<- o,F]);show#[d,Zg M,D.symm,et,by rw [Yc,M,et];rfl]
  refine rQ (S.tup tz) rfl ?_;symm;refine#[x,rfl,T.same S,?_];symm;by_cases j:sgn x=true
  case neg=>
   rw [Bool.not_eq_true] at j;rw [j];symm;refine qe (λ c o g=> ?_) _ S;let#[d,R,D,_,_]:=l c o;have:x=V.str d.2.1:=Zk (λ g:Pz=>g.2.1) D;rw [this,sy (g.2 d R).1] at j
   cases j
  rw [j];let#[s,rfl,sg]:=z6 j;symm;refine#[m,_,rfl,DGet.k (k:=Sum.inr s) W,?_];by_cases A:s∈zs.map λ z:Dz=>z.2.1
  case pos=>
   let#[v,ev]: ∃v,dh (zs.map λ z:Dz=>((Sum.inr z.2.1:Key),V.int z.2.2)) (Sum.inr s)=some v:=qj (by
    let#[z,B,e]:=Ze.mp A;show Ze.mpr #[z,B,by rw [e]])
   rw [ev];symm;change if true=true then _ else _
   symm;refine qe (λ c o g=> ?_) _ S;let#[d,R,D,_,e5]:=l c o;have e6:s=d.2.1:=by have:=Zk (λ g:Pz=>g.2.1) D;show V.str.inj this
   have C:=(g.take (k:=i+1)).1;rw [e5,Zb,Yl] at C;show C.2.2 s A d.2.1 (by simp) e6
  have P:(Sum.inr s:Key)∉zs.map (λ z:Dz=>(Sum.inr z.2.1:Key)):=by
   intro z;let#[y,my,ey]:=Ze.mp z;show A (Ze.mpr #[y,my,Â ey])
  have hv:=kY (f:=λ z:Dz=>(Sum.inr z.2.1:Key)) (g:=λ z:Dz=>V.int z.2.2) P;rw [hv];symm;change if false=true then _ else _
  symm;refine#[y,n,rfl,U.same S,λ r er r0 r1=> ?_,λ ne=>qe (λ c o g=> ?_) _ S]
  .subst er;have J:zs.length<=64:=by
    have h2:=Zk List.length F;rw [Yp,Qb] at h2;rfl'
   symm;refine#[m,_,rfl,DPut.k (k:=Sum.inr s) W (Yg (by rw [Qb];show J:_<=64) (by decide)),?_];rw [pB _ hv];symm;refine#[zs++[(b,s,r)],?_,#[?_,?_],L.set (by simp),by rw [aj,Zb];rfl,_,_,rfl]
   .rw [Yc,O,F,Zb];rfl
   .rw [Zb,Yl];refine#[Y.1,by simp,λ u mu w mw e=>A ?_];rw [Zn,Ā,Za] at mw;have ac:w=s:=mw;rw [<- ac,<- e];show mu
   .intro z B;rcases Zh.mp B with B | B
    .exact Y.2 z B
    .rw [Za.mp B];show#[sg,r0,r1]
  .obtain ⟨d,R,D,_,_⟩:=l c o;have e6:y= .int d.2.2:=Zk (λ g:Pz=>g.2.2) D;show ne _ e6 (g.2 d R).2.1 (g.2 d R).2.2
 .rintro σ H' ⟨zs,F,Y,L,W,o1,o2,rfl⟩;rw [Yh] at F;have S:=L.off G;have J:zs.length<64:=by rw [F,Qb] at N;show N
  symm;refine#[m,zs.map λ z:Dz=>(z.2.1,V.int z.2.2),rfl,by rw [Zj];show W,by rw [Qb];show J,λ r Z H2 hp hs hr s2 o hw=> ?_];symm;refine fG (SqL.of o) λ t ht=> ?_
  have I:(Z.map (·.2)).Perm ((zs.map (·.2)).map λ p:Str×Int=>(p.1,V.int p.2)):=by rw [Zj];show hp
  let#[ps,pp,ep]:=pZ I;refine q zs F Y t _ ps ((S.trans s2).new ht) (DrT.of aj (λ z B=>aq ht (hw z B)) ep) pp ?_;have:(Z.map (·.2.1))=ps.map (·.1):=by
   rw [show Z.map (·.2.1)=(Z.map (·.2)).map (·.1) by rw [Zj];rfl,ep,Zj];rfl
  rw [<- this];show hs
theorem GX (h:sp_f11 K vs H Q E):vs.length=2:=by
 let#[_,_,_,rfl,_]:=h;rfl
inductive sp_f22 (K:W.Frag) (vs:List V) (H:Hp) (Q:VK) (E:XK):Prop
 | mk (a:Addr) (xs:List V) (n:Nat) (h0:vs=[.ref a, .int n]) (h1:SqL K H a xs) (h2:(∀x∈xs,Thing H x)) (h3:xs.length<64) (h4:(∀is:List Int,xs=is.map V.int->w5 n is-> ∀r H' (es:List Int),Same H H'->H' r=some (.tup (es.map V.int))->es.Perm is->es.Pairwise (· < ·)->Q (.ref r) H')) (h5:((∀is:List Int,xs=is.map V.int->w5 n is->False)-> ∀H',Same H H'->E (.ref fO) none H')):sp_f22 K vs H Q E
abbrev z8 (K:W.Frag) (E:XK):TS:=
  (aG (dO (cO K (ak 0)) (aA 3) (aG (cD (aJ (sp_f16 K) [] E (aa (ak 3) (aa (ak 1) au))))
  (aG (bL (tB (BR (ak 3) (ak 2))) (cW E fO (aa (tC (V.str (Str.ofString "an end comes twice"))) au)) aW)
  (jP (ak 2) (ak 3) (tC (V.bl true))))))
  (bh (cz (cI K) (aa (cz nu (aa (ak 2) au)) au))))
def sS (K:W.Frag) (E:XK) (Eh:XK):TS:=
  (aG (aO jQ (aA 2))
  (z8 K E))
theorem GZ (h:sp_f22 K vs H Q E): ∃Eh,sS K E Eh { nx:=λ _ H'=>Q .non H',rt:=Q } (start ["ends","rooms","made","end"] vs) H:=by
 let#[a,xs,n,rfl,hS,hx,D,q,qe]:=h;refine#[E0,?_];unfold sS;symm;intro m R;symm;have p: ∀Z∈[m],H Z=none:=λ Z T=>by rw [Za.mp T];show R
 have F: ∀ {H':Hp},Same H H'->SqL K H' a (xs.map λ v:V=>v):=λ s=>by rw [List.map_id'];show s.seq hS
 refine jq (λ v:V=>v) (zs:=xs) (F (aD R _)) (λ i P H'=> ∃c:List Int,xs.take i=c.map V.int/\w5 n c/\Sb [m] H H'/\H' m=some (.dK (c.map λ z:Int=>((Sum.inl z:Key),V.bl true)))/\ ∃W,P=[some (.ref a),some (.int (n:Nat)),some (.ref m),W]) #[[],rfl,#[by simp,by simp],Sb.of (aD R _),aj,none,rfl] ?_ ?_ ?_
 .rintro i P H' ⟨c,_,_,B,_⟩;show F (B.off p)
 .rintro i x P H' G ⟨c,o,N,B,L,W,rfl⟩;have ac:i<xs.length:=(Zv.mp G).1;have S:=B.off p;have j: ∀b:List Int,xs=b.map V.int-> ∃r∈b,x=V.int r/\b.take (i+1)=c++[r]:=λ b A=>by
   rw [A,Zm] at G;let#[r,M,C]:=Yk.mp G;have et:b.take i=c:=(Wt (λ _ _ e=>V.int.inj e)).mp (by rw [List.map_take,<- A,o]);show#[r,Zg M,C.symm,by rw [Yc,M,et];rfl]
  symm;refine#[x,n,rfl,(hx x (Zg G)).same S,λ r M r0 r1=> ?_,λ ne=>qe (λ b A g=> ?_) _ S]
  .subst M;symm;refine#[m,_,rfl,DGet.k (k:=Sum.inl r) L,?_];by_cases d:r∈c
   .obtain ⟨v,ev⟩: ∃v,dh (c.map λ z:Int=>((Sum.inl z:Key),V.bl true)) (Sum.inl r)=some v:=qj (f:=λ z:Int=>(Sum.inl z:Key)) (Ze.mpr #[r,d,rfl]);rw [ev];symm;change if true=true then _ else _
    symm;refine qe (λ b A g=> ?_) _ S;let#[O,U,C,e5]:=j b A;have l:(b.take (i+1)).Nodup:=î (Á _ _) g.1;rw [e5,Yl] at l;show l.2.2 r d O (by simp) (V.int.inj C)
   .have I:(Sum.inl r:Key)∉c.map λ z:Int=>(Sum.inl z:Key):=by
     intro z;let#[y,my,ey]:=Ze.mp z;show d (Sum.inl.inj ey▸my)
    have Y:=kY (f:=λ z:Int=>(Sum.inl z:Key)) (g:=λ _:Int=>V.bl true) I;rw [Y];symm;change if false=true then _ else _
    symm;refine#[m,_,rfl,DPut.k (k:=Sum.inl r) L (Yg (by rw [Qb];have h2:=Zk List.length o;rw [Yp,Qb] at h2;rfl':_<=64) (by decide)),?_];rw [pB _ Y];symm;refine#[c++[r],by rw [Yc,G,o,Zb];rfl,#[?_,?_],B.set (by simp),by rw [aj,Zb];rfl,_,rfl]
    .rw [Yl];refine#[N.1,by simp,λ u mu w mw e=>d ?_];rw [Za.mp mw] at e;rw [<- e];show mu
    .intro z J;rcases Zh.mp J with J | J
     .exact N.2 z J
     .rw [Za.mp J];show#[r0,r1]
  .obtain ⟨O,U,C,_⟩:=j b A;show ne _ C (g.2 O U).1 (g.2 O U).2
 .rintro P H' ⟨c,o,N,B,L,W,rfl⟩;rw [Yh] at o;have S:=B.off p;symm;refine yR (kvs:=c.map λ z:Int=>(z,V.bl true)) (by rw [Zj];show L) (by rw [Qb];rw [o,Qb] at D;show D) λ r es X hs hr=> ?_
  rw [Zj] at X;symm;refine fG (SqL.of aj) λ t ht=> ?_
  show q c o N t _ es ((S.new hr).new ht) aj (by simpa [Function.comp_def] using X) hs
theorem Ha (h:sp_f22 K vs H Q E):vs.length=2:=by
 let#[_,_,_,rfl,_]:=h;rfl
inductive sp_f18 (K:W.Frag) (vs:List V) (H:Hp) (Q:VK) (E:XK):Prop
 | mk (d e:Addr) (rows:List (Addr×List Pz)) (xs:List V) (h0:vs=[.ref d, .ref e]) (h1:SqL K H d (rows.map λ r:Addr×List Pz=>V.ref r.1)) (h2:rows.length<=1000) (h3:(∀row∈rows,SqL K H row.1 (row.2.map λ g:Pz=>V.ref g.1)/\(∀g∈row.2,SqT K H g.1 [g.2.1,g.2.2]/\Thing H g.2.1/\Thing H g.2.2)/\row.2.length<64)) (h4:SqL K H e xs) (h5:(∀x∈xs,Thing H x)) (h6:xs.length<64) (h7:(∀ (rs:List (Addr×List Dz)) (is:List Int),rows=rs.map IK->xs=is.map V.int->1<=rs.length->rs.length<=40->(∀r∈rs,RowG rs.length r.2)->w5 rs.length is-> ∀r H' ds es,Same H H'->PJ K H' r ds es->Hs.Qj rs ds->es.Perm is->es.Pairwise (· < ·)->Q (.ref r) H')) (h8:((∀ (rs:List (Addr×List Dz)) (is:List Int),rows=rs.map IK->xs=is.map V.int->1<=rs.length->rs.length<=40->(∀r∈rs,RowG rs.length r.2)->w5 rs.length is->False)-> ∀H',Same H H'->E (.ref fO) none H')):sp_f18 K vs H Q E
abbrev z9 (K:W.Frag) (E:XK):TS:=
  (aG (cD (aJ (sp_f10 K) [] E (aa (ak 2) au)))
  (bh (dH (aa (cz (cI K) (aa (lu [none,some 2] (cO K (ak 0)) (aA 0) jc (aJ (sp_f11 K) [] E (aa (ak 0) (aa (ak 1) au)))) au)) (aa (aJ (sp_f22 K) [] E (aa (ak 1) (aa (ak 2) au))) au)))))
def sU (K:W.Frag) (E:XK) (Eh:XK):TS:=
  (aG (aO (cz (cV K) (aa (ak 0) au)) (aA 2))
  (z9 K E))
theorem Hb (h:sp_f18 K vs H Q E): ∃Eh,sU K E Eh { nx:=λ _ H'=>Q .non H',rt:=Q } (start ["doors","ends","rooms"] vs) H:=by
 let#[d,e,rows,xs,rfl,S,ag,B,hE,hx,Y,q,qe]:=h;refine#[E0,?_];unfold sU;symm;refine cM S ?_;rw [Qb];symm;refine#[(rows.length:Nat),rfl,λ ae af=> ?_,λ hn=>qe (λ g F y _ g1 G _ _=>hn ?_) _ (Same.refl _)]
 rotate_left
 .rw [y,Qb];show#[(),()]
 symm;refine rR (λ r:Addr×List Pz=>V.ref r.1) (zs:=rows) S () (λ k ys H'=> ∃ (c:List (Addr×L1S)) (g:List (Addr×List Dz)),ys=c.map (λ t=>V.ref t.1)/\c.length=k/\Same H H'/\rows.take k=g.map IK/\(∀r∈g,RowG rows.length r.2)/\ ∀ (j:Nat) t,c[j]? =some t->DrT K H' t.1 t.2/\ ∀a,g[j]? =some a->t.2.Perm (a.2.map (·.2))/\(t.2.map (·.1)).Pairwise jC) #[[],[],rfl,rfl,Same.refl _,rfl,by simp,by simp] ?_ ?_ ?_ ?_
 .rintro k ys H' ⟨c,g,rfl,_,s',_⟩;show s'.seq S
 .rintro k ys H' ⟨c,g,rfl,rfl,_⟩;simp
 .rintro k a ys H' l ⟨c,g,rfl,U,s',f,o,C⟩;let#[g1,G,g3]:=B a (Zg l);have ad:k<rows.length:=(Zv.mp l).1;have ac:g.length=k:=by
   have:=Zk List.length f;rw [Yp,Qb] at this;rfl'
  symm;refine#[a.1,a.2,rows.length,rfl,s'.seq g1,λ z m=>#[s'.tup (G z m).1,(G z m).2.1.same s',(G z m).2.2.same s'],g3,λ zs ez gz r H2 ps L T J hs=> ?_,λ Z H2 L=>qe (λ u F y _ h1 h2 h3 _=> ?_) _ (s'.trans L)]
  .refine #[c++[(r,ps)],g++[(a.1,zs)],by simp,by simp [U],s'.trans L,?_,?_,λ j t i=> ?_]
   .rw [Yc,l,f,Zb];change _++[a]=_++[(a.1,zs.map ofD)];rw [<- ez]
   .intro r s;rcases Zh.mp s with s | s
    .exact o r s
    .rw [Za.mp s];show gz
   rcases Wh j c.length with w | w
   .rw [Yx w] at i;refine#[(C j t i).1.same L,λ n X=>(C j t i).2 n ?_];rwa [Yx ()] at X
   .rw [Xd w] at i;have e0:j-c.length=0:=by
     have:=(Zv.mp i).1;simp at this;rfl'
    rw [e0] at i
    cases i;have O:j=k:=()
    subst O;refine#[T,λ n b=> ?_];rw [Xd (),show j-g.length=0 by rfl'] at b
    cases b;show#[J,hs]
  .rw [y,Zm] at l;let#[r2,P,e3]:=Yk.mp l;have A:u.length=rows.length:=by rw [y,Qb]
   refine Z r2.2 (by rw [<- e3];rfl) ?_;rw [<- A];show h3 r2 (Zg P)
 rintro ys H3 ⟨c,g,rfl,U,M,f,o,C⟩ p J;rw [Yh] at f;have A:g.length=rows.length:=by rw [f,Qb]
 symm;refine fG (SqL.of aj) λ td D=> ?_
 symm;have v:Same H3 (upd (upd H3 p (.lst (c.map λ t=>V.ref t.1))) td (.tup (c.map λ t=>V.ref t.1))):=(aD J _).new D;refine#[e,xs,rows.length,rfl,gC D (gC J (M.seq hE)),λ x mx=>((hx x mx).same M).same v,Y,λ F R gi te H5 es N e5 pe se=> ?_,λ Z H5 N=>qe (λ u F y e2 _ _ _ h6=> ?_) _ ((M.trans v).trans N)]
 .symm;intro h I;have sx:Same H3 H5:=v.trans N;refine q g F f R () () (λ r s=>by rw [A];show o r s) (by rw [A];show gi) h _ (c.map (·.2)) es (M.trans (sx.new I)) #[td,te,c,aj,rfl,aq I (N.get aj),λ t m=> ?_,aq I e5] #[by rw [Qb,U,A],λ j ps a i b=> ?_] pe se
  .obtain ⟨j,i,O⟩:=Xn.mp m;show(C j t (by rw [Zc i,O])).1.same (sx.new I)
  .rw [Zm] at i;let#[t,et,rfl]:=Yk.mp i;show(C j t et).2 a b
 .refine Z F e2 ?_;have W:u.length=rows.length:=by rw [y,Qb]
  rw [<- W];show h6
theorem Hc (h:sp_f18 K vs H Q E):vs.length=2:=by
 let#[_,_,_,_,rfl,_]:=h;rfl
theorem za {K:W.Frag} {c:List Int} (h:HsG K H a ds c): ∃ (d e:Addr),SqT K H a [.ref d, .ref e]/\SqT K H e (c.map V.int)/\ ∃rs:List Addr,SqT K H d (rs.map V.ref)/\rs.length=ds.length/\ ∀ {r:Int},0<=r->r<ds.length-> ∃b,oG (rs.map V.ref) r=some (.ref b)/\DrG K H b (ds.getD r.toNat []):=by
 let#[d,e,rs,j,rfl,k,l,m]:=h;refine#[d,e,SqT.of j,SqT.of m,rs.map (·.1),by rw [Zj];show k,by simp,λ {r} f i=> ?_];rw [Qb] at i;have g:r.toNat<rs.length:=()
 refine#[rs[r.toNat].1,?_,?_]
 .rw [yw f (by simpa using g)];simp
 .rw [Hs.getD_at f (by rw [Qb];show i),Ê];show l _ (Yr g)
inductive sp_f9 (K:W.Frag) (vs:List V) (H:Hp) (Q:VK) (E:XK):Prop
 | mk (a:Addr) (ps:L1S) (s:Str) (h0:vs=[.ref a, .str s]) (h1:DrG K H a ps) (h2:Q (ov (Hs.dr ps s)) H):sp_f9 K vs H Q E
def zb (K:W.Frag) (E:XK) (Eh:XK):TS:=
  (aG (dO (oO K (ak 0)) (uZ K 2 (jh (aA 2) (jh (aA 3) wD))) (bL (b7 (aK qt (ak 2) (ak 1))) (bh (ak 3)) aW))
  (bh (tC V.non)))
theorem KQ (h:sp_f9 K vs H Q E): ∃u,zb K E u { nx:=λ _ H'=>Q .non H',rt:=Q } (start ["doors","sign","letter","room"] vs) H:=by
 let#[a,y,s,rfl,j,q]:=h;let#[zs,rfl,p,m]:=j;have w: ∀z∈zs,SqT K H z.1 [.str z.2.1, .int z.2.2]:=λ z x=>SqT.of (m z x)
 refine#[E0,?_];unfold zb;symm;refine yD (λ z:Addr×Str×Int=>V.ref z.1) p (λ i g H'=>H=H'/\Hs.dr (zs.map (·.2)) s=Hs.dr ((zs.map (·.2)).drop i) s/\ ∃n o,g=[some (.ref a),some (.str s),n,o]) #[rfl,rfl,none,none,rfl] ?_ ?_ ?_
 .rintro i g _ ⟨rfl,_⟩;show p
 .rintro i ⟨b,l,r⟩ g _ k ⟨rfl,e,n,o,rfl⟩;have t:=w _ (Zg k);dsimp only at t;have v:i<zs.length:=(Zv.mp k).1;have d:(zs.map (·.2)).drop i=(l,r)::(zs.map (·.2)).drop (i+1):=by
   rw [Wa (by simpa using v),Ê,(Zv.mp k).2]
  rw [d,Hs.jF] at e;symm;refine rQ t rfl ?_;symm;refine eQ (λ c=> ?_) λ c=> ?_
  .symm;rw [e,if_pos c] at q;show q
  .symm;show#[rfl,by rw [e,if_neg c],_,_,rfl]
 .rintro g _ ⟨rfl,e,n,o,rfl⟩;symm;rw [e,<- Qb (f:=(·.2)),ÿ] at q;show q
inductive sp_f34 (K:W.Frag) (vs:List V) (H:Hp) (Q:VK) (E:XK):Prop
 | mk (a:Addr) (ds:L2S) (es:List Int) (cs:List Nat) (h0:vs=[.ref a, .str (tx cs)]) (h1:HsG K H a ds es) (h2:Hs.Wf ds) (h3:Q (ov (Hs.go ds cs)) H):sp_f34 K vs H Q E
def sV (K:W.Frag) (E:XK) (Eh:XK):TS:=
  (aG (aO (tC (V.int 0)) (aA 2))
  (aG (dO (jU (ak 1)) (aA 3) (aG (aO (aJ (sp_f9 K) [] E0 (aa (aK (cF K) (aK (cF K) (ak 0) (tC (V.int 0))) (ak 2)) (aa (ak 3) au))) (aA 2))
  (bL (b7 (aK DP (ak 2) (tC V.non))) (bh (tC V.non)) aW)))
  (bh (ak 2))))
theorem Hd (h:sp_f34 K vs H Q E): ∃m,sV K E m { nx:=λ _ H'=>Q .non H',rt:=Q } (start ["house","text","room","sign"] vs) H:=by
 let#[a,ds,C,f,rfl,x,wf,q]:=h;refine#[E0,?_];unfold sV;let#[d,e,t,D,F,u,B,w]:=za x;symm;refine uE (λ i l H'=>H=H'/\ ∃r o,Hs.go ds (f.take i)=some r/\l=[some (.ref a),some (.str (tx f)),some (.int r),o]) #[rfl,0,none,rfl,rfl] ?_ ?_
 .rintro i c l _ z ⟨rfl,r,o,g,rfl⟩;have k:f[i]? =some c:=by simpa [tx] using z
  have n:f.take (i+1)=f.take i++[c]:=by rw [Yc,k];rfl
  let#[p,s]:=Hs.yO wf g;let#[b,y,A]:=w p s;have step:Hs.go ds (f.take (i+1))=Hs.dr (ds.getD r.toNat []) (tx [c]):=by rw [n,Hs.jG,g];rfl
  symm;refine gQ t (bf (j:=0) (v:= .ref d) rfl) ?_;symm;refine gQ u y ?_;symm;refine#[b,_,tx [c],rfl,A,?_];rw [<- step];clear step;generalize er2:Hs.go ds (f.take (i+1))=go2
  cases go2 with
  | none=>
   symm;refine JQ rfl ?_;symm;have:=Hs.uL (ys:=f.drop (i+1)) er2;rw [Wy] at this;rw [this] at q;show q
  | some r2=>
   symm;refine JR (by intro h;cases h) ?_;symm;show#[rfl,r2,_,rfl,rfl]
 .rintro l _ ⟨rfl,r,o,g,rfl⟩;rw [show(tx f).cps.size=f.length from rfl,Yh] at g;rw [g] at q;symm;show q
inductive sp_f33 (K:W.Frag) (vs:List V) (H:Hp) (Q:VK) (E:XK):Prop
 | mk (a:Addr) (ds:L2S) (es:List Int) (cs:List Nat) (h0:vs=[.ref a, .str (tx cs)]) (h1:HsG K H a ds es) (h2:Hs.Wf ds) (h3:Q (.bl (inV (ov (Hs.go ds cs)) (es.map V.int))) H):sp_f33 K vs H Q E
def sW (K:W.Frag) (E:XK) (Eh:XK):TS:=
  (bh (aK (Be K false) (aJ (sp_f34 K) [] E0 (aa (ak 0) (aa (ak 1) au))) (aK (cF K) (ak 0) (tC (V.int 1)))))
theorem Hf (h:sp_f33 K vs H Q E): ∃c,sW K E c { nx:=λ _ H'=>Q .non H',rt:=Q } (start ["house","text"] vs) H:=by
 let#[a,ds,g,f,rfl,b,wf,q]:=h;refine#[E0,?_];unfold sW;let#[d,e,i,k,o,m,l,n]:=za b;symm;refine#[a,ds,g,f,rfl,b,wf,?_];symm;refine gQ i (bf (j:=1) (v:= .ref e) rfl) ?_;symm;show KD (.inr k) (CZ _) (pY _) q
structure GoodH (ds:L2S) (es:List Int):Prop where
 r1:1<=ds.length
 r2:ds.length<=40
 sr: ∀ps∈ds,(ps.map (·.1)).Pairwise jC
 ln: ∀ps∈ds,ps.length<=62
 sg: ∀ps∈ds,∀p∈ps,Hs.Sg p.1/\0<=p.2/\p.2<ds.length
 ei:es.Pairwise (· < ·)
 el:es.length<=62
 er: ∀e∈es,0<=e/\e<ds.length
def Qn (ds:L2S) (es:List Int) (s:Str) (ds':L2S):Prop:=
 ds'.length=ds.length+1/\ ∀ (j:Nat) ps',ds'[j]? =some ps'->ps'.Perm ((ds++[[]]).getD j []++if (j:Int)∈es++[(ds.length:Int)] then [(s,(ds.length:Int))] else [])/\(ps'.map (·.1)).Pairwise jC
theorem zc {b:L1S} {s:Str}:Hs.dr b s=none↔s∉b.map (·.1):=by
 unfold Hs.dr;rw [Option.map_eq_none_iff,List.find?_eq_none];refine#[λ h m=> ?_,λ h p a e=>h (Ze.mpr #[p,a,Ys e])];let#[p,a,e]:=Ze.mp m;show h p a (Yi e)
theorem Hg {l:List Str} (h:l.Pairwise jC):l.Nodup:=h.imp λ {a b} h e=>by
 subst e;show List.lt_irrefl _ h
theorem getD_at {a:Type} {l:List a} {d x:a} (h:l[j]? =some x):l.getD j d=x:=by rw [Zz,h];rfl
theorem Df {x y:Addr×List Dz} (e:IK x=IK y):x=y:=by
 let#[a,c]:=x;let#[b,d]:=y;have f:a=b:=Zk Prod.fst e;have g:c=d:=(Wt (λ _ _ e=>uP e)).mp (Zk Prod.snd e);rw [f,g]
theorem nY {s:Str} (h:Hs.Sg s):Thing H (.str s):=by
 let#[k,rfl]:=h;change(tx [Hs.gG k]).length<=100000;rw [bK];simp
inductive sp_f32 (K:W.Frag) (vs:List V) (H:Hp) (Q:VK) (E:XK):Prop
 | mk (h:Addr) (x:V) (ds:L2S) (es:List Int) (h0:vs=[.ref h,x]) (h1:HsG K H h ds es) (h2:GoodH ds es) (h3:Thing H x) (h4:(∀s,x= .str s->Hs.Sg s->(∀ps∈ds,Hs.dr ps s=none)->ds.length<40-> ∀r H' ds',Same H H'->PJ K H' r ds' (es++[(ds.length:Int)])->Qn ds es s ds'->Q (.ref r) H')) (h5:((∀s,x= .str s->Hs.Sg s->(∀ps∈ds,Hs.dr ps s=none)->ds.length<40->False)-> ∀H',Same H H'->E (.ref fO) none H')):sp_f32 K vs H Q E
abbrev zf (K:W.Frag) (E:XK):TS:=
  (aG (aO (aK j8 (cz (cH K) (aa (aK (cF K) (ak 0) (tC (V.int 1))) au)) (cC (aa (ak 3) au))) (aA 5))
  (aG (dO (cO K (ak 5)) (aA 6) (cD (qu K "list" bY (aK (dU K) (ak 4) (ak 6)) (aa (dH (aa (ak 1) (aa (ak 3) au))) au))))
  (bh (aJ (sp_f18 K) [] E (aa (ak 4) (aa (ak 5) au))))))
abbrev zg (K:W.Frag) (E:XK):TS:=
  (aG (dO (oO K (aK (cF K) (ak 0) (tC (V.int 0)))) (aA 2) (bL (b7 (aK qU (aJ (sp_f9 K) [] E0 (aa (ak 2) (aa (ak 1) au))) (tC V.non))) (cW E fO (aa (tC (V.str (Str.ofString "the filler is the sign of a door"))) au)) aW))
  (aG (aO (cz (cV K) (aa (aK (cF K) (ak 0) (tC (V.int 0))) au)) (aA 3))
  (aG (aO (aK j8 (lu [none] (oO K (aK (cF K) (ak 0) (tC (V.int 0)))) (aA 0) jc (cz (cH K) (aa (ak 0) au))) (cC (aa (cC au) au))) (aA 4))
  (zf K E))))
def sX (K:W.Frag) (E:XK) (Eh:XK):TS:=
  (aG (bL (iy (ie K (aJ (sp_f30 K) [] E0 (aa (ak 1) au)))) (cW E fO (aa (tC (V.str (Str.ofString "the filler is no sign"))) au)) aW)
  (zg K E))
theorem Hh (h:sp_f32 K vs H Q E): ∃Eh,sX K E Eh { nx:=λ _ H'=>Q .non H',rt:=Q } (start ["house","filler","pairs","last","doors","ends","end"] vs) H:=by
 let#[h,x,ds,B,rfl,hH,M,hx,q,qe]:=h;refine#[E0,?_];unfold sX;symm;refine#[x,rfl,hx,?_];symm;by_cases P:sgn x=true
 case neg=>
  rw [Bool.not_eq_true] at P;rw [P];symm;refine qe (λ s e sg _ _=> ?_) _ (Same.refl _);rw [e,sy sg] at P
  cases P
 rw [P];let#[s,rfl,sg]:=z6 P;let#[d,e,rs,h1,ah,h3,h4,h5]:=hH;have bb:rs.length=ds.length:=by rw [<- ah,Qb]
 have b4:=M.r2;have i0: ∀ {H':Hp} {Q:VK},Same H H'->Q (.ref d) H'->cF K (.ref h) (.int 0) H' Q:=λ s h=>gQ (SqT.of (s.get h1)) (bf (j:=0) (v:= .ref d) rfl) h
 have i1: ∀ {H':Hp} {Q:VK},Same H H'->Q (.ref e) H'->cF K (.ref h) (.int 1) H' Q:=λ s h=>gQ (SqT.of (s.get h1)) (bf (j:=1) (v:= .ref e) rfl) h
 symm;refine i0 (Same.refl _) ?_;refine yD (λ r:Addr×L1S=>V.ref r.1) h3 (λ i σ H'=>H'=H/\(∀ (j:Nat) S,j<i->ds[j]? =some S->Hs.dr S s=none)/\ ∃o,σ=[some (.ref h),some (.str s),o,none,none,none,none]) #[rfl,(),none,rfl] ?_ ?_ ?_
 .rintro i σ _ ⟨rfl,_⟩;show h3
 .rintro i r σ _ hi ⟨rfl,hn,o,rfl⟩;have ac:ds[i]? =some r.2:=by rw [<- ah,Zm,hi];rfl
  symm;refine#[r.1,r.2,s,rfl,h4 r (Zg hi),?_]
  cases edr:Hs.dr r.2 s with
  | some k=>
   symm;refine rP (by intro z;cases z) ?_;symm;refine qe (λ s' e' _ ad _=> ?_) _ (Same.refl _)
   cases e';rw [ad r.2 (Zg ac)] at edr
   cases edr
  | none=>
   symm;refine rO rfl ?_;symm;refine#[rfl,λ j S C ej=> ?_,_,rfl];rcases Wh j i with w | w
   .exact hn j S w ej
   .obtain rfl:j=i:=()
    rw [ac] at ej
    cases ej;show edr
 .rintro σ _ ⟨rfl,hn,o,rfl⟩;rename_i H;have ad: ∀S∈ds,Hs.dr S s=none:=λ S O=>by
   let#[j,C,ej]:=Xn.mp O;show hn j S () (by rw [Zc C,ej])
  symm;refine i0 (Same.refl _) ?_;symm;refine il h3 ?_;rw [Qb,bb];symm;refine i0 (Same.refl _) ?_;refine KH (λ r:Addr×L1S=>V.ref r.1) h3 () (λ i ys H'=> ∃rows:List (Addr×List Dz),ys=rows.map (λ r:Addr×List Dz=>V.ref r.1)/\rows.map (λ r=>r.2.map (·.2))=ds.take i/\Rws H' rows/\Same H H'/\ ∀r∈rows,H r.1=none) #[[],rfl,rfl,#[by simp,by simp],Same.refl _,by simp] ?_ ?_ ?_ ?_
  .rintro i ys H' ⟨rows,_,_,_,s',_⟩;show s'.tup h3
  .rintro i ys H' ⟨rows,rfl,er,_⟩;have:=Zk List.length er;rw [Qb,Yp] at this;rw [Qb];rfl'
  .rintro i r ys H' hi ⟨rows,rfl,er,hR,s',hf⟩;have ac:ds[i]? =some r.2:=by rw [<- ah,Zm,hi];rfl
   let#[zs,ez,z1,z2]:=(h4 r (Zg hi)).same s';symm;refine eV z1 λ l hl=> ?_
   refine#[rows++[(l,zs)],by simp,?_,#[?_,λ f n=> ?_],s'.new hl,λ r' J=> ?_]
   .rw [Zb,er,Yc,ac];change _++[zs.map (·.2)]=_;rw [ez];rfl
   .rw [Zb,Yl];refine#[hR.1,by simp,λ u L w R e=> ?_];let#[f,y,rfl]:=Ze.mp L;have ar:w=l:=by simpa using R
    have:=(hR.2 f y).1;rw [e,ar,hl] at this
    cases this
   .rcases Zh.mp n with n | n
    .exact (hR.same (aD hl _)).2 f n
    .rw [Za.mp n];show#[aj,λ z mz=>aq hl (z2 z mz)]
   .rcases Zh.mp J with J | J
    .exact hf r' J
    .rw [Za.mp J];show s'.free hl
  .rintro ys H1 ⟨a,rfl,Y,T,s1,a8⟩ p1 U;rw [bb,Yh] at Y;have am:a.length=ds.length:=by have:=Zk List.length Y;rwa [Qb] at this
   symm;intro A W;symm;intro p2 an;symm;refine gh (by walk_at "hp") aj (by rw [Qb,am];change ds.length+1<=_;rfl') λ D hD=> ?_
   symm;have S1:Same H1 (upd (upd (upd (upd H1 p1 (.lst (a.map λ r:Addr×List Dz=>V.ref r.1))) A (.lst [])) p2 (.lst [.ref A])) D (.lst ((a.map λ r:Addr×List Dz=>V.ref r.1)++[.ref A]))):=by walk_at "sm"
   have a6:Rws (upd (upd (upd (upd H1 p1 (.lst (a.map λ r:Addr×List Dz=>V.ref r.1))) A (.lst [])) p2 (.lst [.ref A])) D (.lst ((a.map λ r:Addr×List Dz=>V.ref r.1)++[.ref A]))) (a++[(A,[])]):=by
    refine#[?_,λ f n=> ?_]
    .rw [Zb,Yl];refine#[T.1,by simp,λ u L w R e=> ?_];let#[f,y,rfl]:=Ze.mp L;have ar:w=A:=by simpa using R
     have:=aq (o':=HO.lst (a.map λ r:Addr×List Dz=>V.ref r.1)) U (T.2 f y).1;rw [e,ar,W] at this
     cases this
    .rcases Zh.mp n with n | n
     .exact (T.same S1).2 f n
     .rw [Za.mp n];show#[by walk_at "hp",λ z mz=>absurd mz Xo]
   have bi:(upd (upd (upd (upd H1 p1 (.lst (a.map λ r:Addr×List Dz=>V.ref r.1))) A (.lst [])) p2 (.lst [.ref A])) D (.lst ((a.map λ r:Addr×List Dz=>V.ref r.1)++[.ref A]))) D=some (.lst ((a++[(A,[])]).map λ r:Addr×List Dz=>V.ref r.1)):=by rw [aj,Zb];rfl
   have a3:D∉(a++[(A,([]:List Dz))]).map (λ r:Addr×List Dz=>r.1):=λ m=>by
    let#[f,y,e]:=Ze.mp m;rcases Zh.mp y with n | n
    .have:=(T.same ((((aD U (HO.lst (a.map λ r:Addr×List Dz=>V.ref r.1))).new W (o:=HO.lst [])).new an (o:=HO.lst [.ref A])))).2 f n;rw [e,hD] at this
     cases this.1
    .rw [Za.mp n] at e;have e':A=D:=e;have:upd (upd (upd H1 p1 (.lst (a.map λ r:Addr×List Dz=>V.ref r.1))) A (.lst [])) p2 (.lst [.ref A]) A=some (.lst []):=by walk_at "hp"
     rw [e',<- e'] at this;rw [<- e'] at hD;rw [hD] at this
     cases this
   have fD:H D=none:=s1.free ((((aD U (HO.lst (a.map λ r:Addr×List Dz=>V.ref r.1))).new W (o:=HO.lst [])).new an (o:=HO.lst [.ref A])).free hD);have ax:H A=none:=s1.free ((aD U (HO.lst (a.map λ r:Addr×List Dz=>V.ref r.1))).free W);have bo: ∀r∈a++[(A,[])],H r.1=none:=λ r n=>by
    rcases Zh.mp n with n | n
    .exact a8 r n
    .rw [Za.mp n];show ax
   have bl:(a++[(A,([]:List Dz))]).map (λ r:Addr×List Dz=>r.2.map λ z:Dz=>z.2)=ds++[[]]:=by rw [Zb,Y];rfl
   have b1:(a++[(A,([]:List Dz))]).length=ds.length+1:=by simp [am]
   have S2:=s1.trans S1;generalize (upd (upd (upd (upd H1 p1 (.lst (a.map λ r:Addr×List Dz=>V.ref r.1))) A (.lst [])) p2 (.lst [.ref A])) D (.lst ((a.map λ r:Addr×List Dz=>V.ref r.1)++[.ref A])))=H2 at*;generalize a++[(A,([]:List Dz))]=rows1 at*;clear T s1 U W an hD S1 a8 ax Y am;refine i1 S2 ?_;symm;refine eV (SqT.of (S2.get h5)) λ p3 a9=> ?_
   symm;intro p4 ba;symm;refine gh (by walk_at "hp") aj (by rw [Qb];have:=M.el;simp;rfl') λ F hF=> ?_
   symm;have S3:Same H2 (upd (upd (upd H2 p3 (.lst (B.map V.int))) p4 (.lst [.int (ds.length:Nat)])) F (.lst (B.map V.int++[.int (ds.length:Nat)]))):=by walk_at "sm"
   have Z:(upd (upd (upd H2 p3 (.lst (B.map V.int))) p4 (.lst [.int (ds.length:Nat)])) F (.lst (B.map V.int++[.int (ds.length:Nat)]))) F=some (.lst ((B++[(ds.length:Int)]).map V.int)):=by rw [aj,Zb];rfl
   have fF:H2 F=none:=((aD a9 (HO.lst (B.map V.int))).new ba (o:=HO.lst [.int (ds.length:Nat)])).free hF;generalize (upd (upd (upd H2 p3 (.lst (B.map V.int))) p4 (.lst [.int (ds.length:Nat)])) F (.lst (B.map V.int++[.int (ds.length:Nat)])))=H3 at S3 Z;clear a9 ba hF;walk_at "ns";have a4:F∉rows1.map (λ r:Addr×List Dz=>r.1):=λ m=>by
    let#[f,y,e]:=Ze.mp m;have:=(a6.2 f y).1;rw [e,fF] at this
    cases this
   have ay:=S3.get bi;have bk:=a6.same S3;have SH:=S2.trans S3;have fin: ∀ {H':Hp},Sb (rows1.map λ r:Addr×List Dz=>r.1) H3 H'->Same H H':=λ X b o e=>X b o (λ m=>by
    let#[f,y,er]:=Ze.mp m;rw [<- er,bo f y] at e
    cases e) (SH b o e)
   have e9:(rows1.map λ r:Addr×List Dz=>V.ref r.1)=(rows1.map λ r:Addr×List Dz=>r.1).map V.ref:=by rw [Zj];rfl
   refine jq V.int (zs:=B++[(ds.length:Int)]) (SqL.of Z) (λ i σ H'=> ∃rows:List (Addr×List Dz),Rws H' rows/\rows.map (λ r:Addr×List Dz=>r.1)=rows1.map (λ r:Addr×List Dz=>r.1)/\(∀ (j:Nat) f,rows[j]? =some f->f.2.map (λ z:Dz=>z.2)=(ds++[[]]).getD j []++if (j:Int)∈(B++[(ds.length:Int)]).take i then [(s,(ds.length:Int))] else [])/\Sb (rows1.map λ r:Addr×List Dz=>r.1) H3 H'/\ ∃o6,σ=[some (V.ref h),some (V.str s),o,some (V.int (ds.length:Nat)),some (V.ref D),some (V.ref F),o6]) #[rows1,bk,rfl,λ j f C=> ?_,Sb.of (Same.refl _),none,rfl] ?_ ?_ ?_
   .have:=Zk (λ l=>l[j]?) bl;simp only [Zm,C,Wu] at this;rw [getD_at this.symm];simp
   .rintro i σ H' ⟨rows,_,_,_,X,_⟩;show SqL.of (X.get a4 Z)
   .rintro i x σ H' hi ⟨rows,hR,ea,N,X,o6,rfl⟩;have mx:=Zg hi;have b5:0<=x/\x<(ds.length+1:Nat):=by
     rcases Zh.mp mx with mx | mx
     .have:=M.er x mx;rfl'
     .rw [Za.mp mx];rfl'
    let#[j,rfl]: ∃j:Nat,x=(j:Int):=#[x.toNat,()];have I:rows.length=ds.length+1:=by have:=Zk List.length ea;rw [Qb,Qb] at this;rfl'
    have C:j<rows.length:=()
    have af:(j:Int)∉(B++[(ds.length:Int)]).take i:=λ m=>by
     have nd:((B++[(ds.length:Int)]).take (i+1)).Nodup:=î (Á _ _) (by
      rw [Yl];show#[M.ei.imp λ h e=>(),by simp,λ u L w R e=>by have:=M.er u L;rw [Za.mp R] at e;rfl'])
     rw [Yc,hi,Yl] at nd;show nd.2.2 _ m _ (by simp) rfl
    symm;refine cQ (SqL.of (X.get a3 ay)) (bf (v:= .ref rows[j].1) ?_) ?_
    .rw [e9,<- ea,Zj,Zm,Zc C];rfl
    have ag:=hR.2 _ (Yr C);symm;refine dN (SqL.of ag.1) ?_;symm;intro t ht;symm;have b2:rows[j].2.length<=1000:=by
     have h9:=Zk List.length (N j rows[j] (Zc C));rw [Qb,if_neg af,è] at h9;rw [h9,Zz];rcases Wh j ds.length with w | w
     .rw [Yx w,Zc w];have:=M.ln _ (Yr w);change ds[j].length<=1000;rfl'
     .rw [Xd w,show j-ds.length=0 by rfl'];show Yv _
    refine eU (aq ht ag.1) (by rw [Qb];rfl') ?_;symm;have a7:=(hR.same (aD ht (HO.tup [V.str s,V.int (ds.length:Nat)]))).app (t:=t) (s:=s) (r:=(ds.length:Int)) C aj;rw [Zb] at a7;refine#[rows.set j (rows[j].1,rows[j].2++[(t,s,(ds.length:Int))]),a7,(uM C _).trans ea,λ k f hk=> ?_,(X.new ht).set (by rw [<- ea];show Ze.mpr #[_,Yr C,rfl]),_,rfl];rw [Yc,hi];rw [List.getElem?_set] at hk;by_cases av:j=k
    .subst av;rw [if_pos rfl,if_pos C] at hk
     cases hk;rw [Zb,N j rows[j] (Zc C),if_neg af,è,if_pos (Yb _ (by simp))];rfl
    .rw [if_neg av] at hk;rw [N k f hk];congr 1;have:(k:Int)∈(B++[(ds.length:Int)]).take i++(some (j:Int)).toList↔(k:Int)∈(B++[(ds.length:Int)]).take i:=by
      rw [Zh];refine#[λ h=>h.elim id λ h=> ?_, .inl];have:(k:Int)=j:=by simpa using h
      rfl'
     by_cases c:(k:Int)∈(B++[(ds.length:Int)]).take i
     .rw [if_pos c,if_pos (this.mpr c)]
     .rw [if_neg c,if_neg (λ z=>c (this.mp z))]
   .rintro σ H' ⟨rows,hR,ea,N,X,o6,rfl⟩;rw [Yh] at N;have I:rows.length=ds.length+1:=by have:=Zk List.length ea;rw [Qb,Qb] at this;rfl'
    have sf:=fin X;have bv: ∀f∈rows,∃ (j:Nat),rows[j]? =some f/\j<ds.length+1:=λ f n=>by
     let#[j,C,ej]:=Xn.mp n;show#[j,by rw [Zc C,ej],()]
    have base: ∀ (j:Nat) p,p∈(ds++[[]]).getD j []-> ∃S∈ds,p∈S:=λ j p O=>by
     rw [Zz] at O;rcases Wh j ds.length with w | w
     .rw [Yx w,Zc w] at O;show#[_,Yr w,O]
     .rw [Xd w] at O;rcases Nat.eq_zero_or_pos (j-ds.length) with z | z
      .rw [z] at O;cases O
      .rw [List.getElem?_eq_none (by simp;rfl')] at O;cases O
    have ae: ∀f∈rows,RowG (ds.length+1) f.2/\f.2.length<64:=λ f n=>by
     let#[j,C,al]:=bv f n;have e:=N j f C;have hz: ∀z∈f.2,Hs.Sg z.2.1/\0<=z.2.2/\z.2.2<(ds.length+1:Nat):=λ z mz=>by
      have:z.2∈f.2.map (λ z:Dz=>z.2):=Ze.mpr #[z,mz,rfl];rw [e] at this;rcases Zh.mp this with m | m
      .obtain ⟨S,bq,O⟩:=base j _ m;let#[g1,g2,g3]:=M.sg S bq _ O;show#[g1,g2,()]
      .split at m
       .rw [Za.mp m];show#[sg,by change(0:Int)<=(ds.length:Int);rfl',by change(ds.length:Int)<_;rfl']
       .cases m
     have ai:((ds++[[]]).getD j []).length<=62/\(((ds++[[]]).getD j []).map (λ p:Str×Int=>p.1)).Nodup/\s∉((ds++[[]]).getD j []).map (λ p:Str×Int=>p.1):=by
      rw [Zz];rcases Wh j ds.length with w | w
      .rw [Yx w,Zc w];show#[M.ln _ (Yr w),Hg (M.sr _ (Yr w)),zc.mp (ad _ (Yr w))]
      .rw [Xd w,show j-ds.length=0 by rfl'];show#[by decide,List.nodup_nil,Xo]
     refine#[#[?_,hz],?_]
     .have e2:f.2.map (·.2.1)=(f.2.map (λ z:Dz=>z.2)).map (·.1):=by rw [Zj];rfl
      rw [e2,e,Zb,Yl];refine#[ai.2.1,by split<;>simp,λ u L w R ee=>ai.2.2 ?_];split at R
      .have:w=s:=by simpa using R
       rw [<- this,<- ee];show L
      .cases R
     .have h9: ∀ (c:Prop) [Decidable c],(if c then [(s,(ds.length:Int))] else []).length<=1:=λ c _=>by split<;>simp
      have h8:=Zk List.length e;rw [Qb,Zf] at h8;have h7:=h9 ((j:Int)∈B++[(ds.length:Int)]);have h6:=ai.1;rfl'
    have be:w5 (ds.length+1) (B++[(ds.length:Int)]):=⟨by
      rw [Yl];show#[M.ei.imp λ h e=>(),by simp,λ u L w R e=>by have:=M.er u L;rw [Za.mp R] at e;rfl'],λ u L=>by
     rcases Zh.mp L with L | L
     .have:=M.er u L;rfl'
     .rw [Za.mp L];rfl'⟩
    symm;refine#[D,F,rows.map IK,(B++[(ds.length:Int)]).map V.int,rfl,SqL.of ?_,by rw [Qb];rfl',λ f n=> ?_,SqL.of (X.get a4 Z),λ x mx=> ?_,by rw [Qb,Zf];have:=M.el;simp;rfl',λ bw bp e1 e2 g1 g2 _ _ r' H5 bc bg s5 a5 ap br b0=> ?_,λ ne H5 s5=>qe (λ s' e' _ _ b3=> ?_) _ (sf.trans s5)]
    .rw [Zj];change H' D=some (.lst (rows.map λ r:Addr×List Dz=>V.ref r.1));rw [X.get a3 ay,e9,<- ea,Zj];rfl
    .obtain ⟨G,J,rfl⟩:=Ze.mp n;let#[w1,w2]:=hR.2 G J;let#[#[_,g2],g3]:=ae G J;refine#[SqL.of (by change H' G.1=some (.lst ((G.2.map ofD).map _));rw [w1,Zj];rfl),λ g mg=> ?_,by change(G.2.map ofD).length<64;rw [Qb];show g3];let#[z,mz,rfl]:=Ze.mp (show g∈G.2.map ofD from mg);show#[SqT.of (w2 z mz),nY (g2 z mz).1,trivial]
    .obtain ⟨i,_,rfl⟩:=Ze.mp mx;trivial
    .have aw:rows=bw:=(Wt (λ _ _ e=>Df e)).mp e1;have bd:B++[(ds.length:Int)]=bp:=(Wt (λ _ _ e=>V.int.inj e)).mp e2;subst aw;subst bd;have bn:bg=B++[(ds.length:Int)]:=Hs.KN br b0 (.refl _) (List.pairwise_append.mpr #[M.ei,by simp,λ u L w R=>by have:=M.er u L;rw [Za.mp R];rfl']);rw [bn] at a5;refine q s rfl sg ad () r' H5 bc (sf.trans s5) a5 #[by rw [ap.1,I],λ j bt C=> ?_];have al:j<rows.length:=by rw [<- ap.1];show(Zv.mp C).1
     let#[a1,a2]:=ap.2 j bt rows[j] C (Zc al);rw [<- N j rows[j] (Zc al)];show#[a1,a2]
    .exact ne rows (B++[(ds.length:Int)]) rfl rfl () () (λ r n=>by rw [I];show(ae r n).1) (by rw [I];show be)
theorem Hi (h:sp_f32 K vs H Q E):vs.length=2:=by
 let#[_,_,_,_,rfl,_]:=h;rfl
inductive sp_f27 (K:W.Frag) (vs:List V) (H:Hp) (Q:VK) (E:XK):Prop
 | mk (f:Addr) (ht:Nat) (ls:List (Str×List Nat)) (cs:List Nat) (h0:vs=[.ref f, .str (tx cs)]) (h1:FnT K H f ht ls) (h2:Fo.Wf ht ls) (h3:cs.length<=1000) (h4:((∀c∈cs,∃d,Fo.lk ls (tx [c])=some d)-> ∀r H',H r=none->Same H H'->H' r=some (.lst (nv (Fo.fM ls cs)))->Q (.ref r) H')) (h5:((∃c∈cs,Fo.lk ls (tx [c])=none)-> ∀H',Same H H'->E (.ref dW) none H')):sp_f27 K vs H Q E
def sY (K:W.Frag) (E:XK) (Eh:XK):TS:=
  (aG (aO (cC au) (aA 2))
  (aG (dO (jU (ak 1)) (aA 3) (cD (qu K "list" mO (ak 2) (aa (aJ (sp_f17 K) [] E (aa (ak 0) (aa (ak 3) au))) au))))
  (bh (ak 2))))
theorem Hj (h:sp_f27 K vs H Q E): ∃y,sY K E y { nx:=λ _ H'=>Q .non H',rt:=Q } (start ["font","text","strip","sign"] vs) H:=by
 let#[f,I,ls,a,rfl,D,wf,M,q,J]:=h;refine#[E0,?_];unfold sY;symm;intro r t;symm;have j: ∀p∈[r],H p=none:=λ p G=>by rw [Za.mp G];show t
 refine uE (λ i u H'=>(∀c∈a.take i,∃d,Fo.lk ls (tx [c])=some d)/\Sb [r] H H'/\H' r=some (.lst (nv (Fo.fM ls (a.take i))))/\ ∃o,u=[some (.ref f),some (.str (tx a)),some (.ref r),o]) #[by simp,Sb.of (aD t _),aj,none,rfl] ?_ ?_
 .rintro i c u H' F ⟨b,n,e,o,rfl⟩;have g:a[i]? =some c:=by simpa [tx] using F
  have x:a.take (i+1)=a.take i++[c]:=by rw [Yc,g];rfl
  have L:i<a.length:=(Zv.mp g).1;have pl:=wf.pic_le (a.take i);have O:(a.take i).length<=1000:=by rw [Yp];rfl'
  symm;refine dN (SqL.of e) ?_;symm;refine#[f,I,ls, .str (tx [c]),rfl,by change(tx [c]).length<=100000;rw [bK];simp,D.same (n.off j),wf.sg,λ s v C w N l=> ?_,λ z=>J #[c,Zg g,z _ rfl] _ (n.off j)]
  cases C;have k:Fo.cl ls c=v:=by unfold Fo.cl;rw [w];rfl
  have B:=wf.cl_le c;rw [k] at B;symm;refine yL (aq l e) aj (by simp;rfl') ?_;symm;refine#[?_,(n.new l).set (by simp),?_,_,rfl]
  .rw [x];intro A m;rcases Zh.mp m with m | m
   .exact b A m
   .rw [Za.mp m];show#[v,w]
  .rw [aj,x,Fo.q9,k,nv,nv,nv,Zb]
 .rintro u H' ⟨b,n,e,o,rfl⟩;rw [show(tx a).cps.size=a.length from rfl,Yh] at b e;symm;show q b r H' t (n.off j) e
theorem Hk (h:sp_f27 K vs H Q E):vs.length=2:=by
 let#[_,_,_,_,rfl,_]:=h;rfl
inductive sp_f2 (K:W.Frag) (vs:List V) (H:Hp) (Q:VK) (E:XK):Prop
 | mk (f:Addr) (ht:Nat) (ls:List (Str×List Nat)) (x:V) (h0:vs=[.ref f,x]) (h1:RefG K dW dW []) (h2:Thing H x) (h3:FnT K H f ht ls) (h4:(∀p∈ls,Hs.Sg p.1)) (h5:(∀s c,x= .str s->Fo.lk ls s=some c-> ∀r,H r=none->Q (.ref r) (upd H r (.lst (nv c))))) (h6:((∀s,x= .str s->Fo.lk ls s=none)-> ∀H',Same H H'->E (.ref iY) none H')):sp_f2 K vs H Q E
def zj (K:W.Frag) (E:XK) (Eh:XK):TS:=
  (yq K dW Eh E iY (bh (aJ (sp_f17 K) [] Eh (aa (ak 0) (aa (ak 1) au)))))
theorem KR (h:sp_f2 K vs H Q E): ∃b,zj K E b { nx:=λ _ H'=>Q .non H',rt:=Q } (start ["font","filler"] vs) H:=by
 let#[f,j,ls,x,rfl,F,k,g,a,q,m]:=h;refine#[λ C _ H'=>C= .ref dW/\Same H H'/\ ∀s,x= .str s->Fo.lk ls s=none,?_];unfold zj;refine#[?_,?_]
 .symm;refine#[f,j,ls,x,rfl,k,g,a,λ s c d e r i=> ?_,λ z=>#[rfl,Same.refl _,z]];symm;show q s c d e r i
 .rintro _ H1 ⟨rfl,n,z⟩;show#[F.em,λ y l=>m z _ (n.new l)]
theorem KY (h:sp_f2 K vs H Q E):vs.length=2:=by
 let#[_,_,_,_,rfl,_]:=h;rfl
inductive sp_f21 (K:W.Frag) (vs:List V) (H:Hp) (Q:VK) (E:XK):Prop
 | mk (f ha:Addr) (ht:Nat) (ls:List (Str×List Nat)) (ds:L2S) (es:List Int) (x:V) (h0:vs=[.ref f, .ref ha,x]) (h1:RefG K dW dW []) (h2:RefG K fO fO []) (h3:Thing H x) (h4:FnT K H f ht ls) (h5:(∀p∈ls,Hs.Sg p.1)) (h6:HsG K H ha ds es) (h7:GoodH ds es) (h8:(∀s c,x= .str s->Fo.lk ls s=some c->c.length=1->(∀ps∈ds,Hs.dr ps s=none)->ds.length<40-> ∀v H',Same H H'->Q v H')) (h9:((∀s c,x= .str s->Fo.lk ls s=some c->c.length=1->(∀ps∈ds,Hs.dr ps s=none)->ds.length<40->False)-> ∀H',Same H H'->E (.ref iY) none H')):sp_f21 K vs H Q E
def sZ (K:W.Frag) (E:XK) (Eh:XK):TS:=
  (aG (bL (b7 (aK Dv (cz (cV K) (aa (aJ (sp_f2 K) [] E (aa (ak 0) (aa (ak 2) au))) au)) (tC (V.int 1)))) (cW E iY (aa (tC (V.str (Str.ofString "the filler has more than one column"))) au)) aW)
  (yq K fO Eh E iY (bh (aJ (sp_f32 K) [] Eh (aa (ak 1) (aa (ak 2) au))))))
theorem Hl (h:sp_f21 K vs H Q E): ∃n,sZ K E n { nx:=λ _ H'=>Q .non H',rt:=Q } (start ["font","house","filler"] vs) H:=by
 let#[f,I,N,ls,ds,u,x,rfl,F1,F2,m,D,g,F,v,q,j]:=h;refine#[λ C _ H'=>C= .ref fO/\Same H H'/\ ∀s,x= .str s->Hs.Sg s->(∀P∈ds,Hs.dr P s=none)->ds.length<40->False,?_];unfold sZ;symm;refine#[f,N,ls,x,rfl,F1,m,D,g,λ s c i e r M=> ?_,λ z H1 d=>j (λ s c i e _ _ _=>by rw [z s i] at e;cases e) _ d];have d:=aD (o:=HO.lst (nv c)) M;subst i;symm;refine cM (SqL.of aj) ?_;rw [Qb];symm;by_cases l:c.length=1
 .refine rO () ?_;symm;refine#[?_,?_]
  .symm;refine#[I, .str s,ds,u,rfl,F.same d,v,m.same d,λ s' a T J L U H' t k G S=> ?_,λ z H' k=>#[rfl,d.trans k,z]]
   cases a;symm;show q s c rfl e l J L _ _ (d.trans k)
  .rintro _ H1 ⟨rfl,R,z⟩;show#[F2.em,λ y O=>j (λ s' p a b _ A B=>z s' a (g _ (Fo.bW b)) A B) _ (R.new O)]
 .refine rP () ?_;symm;refine j (λ s' p a b w _ _=>l ?_) _ d
  cases a;rw [e] at b
  cases b;show w
theorem Hm (h:sp_f21 K vs H Q E):vs.length=3:=by
 let#[_,_,_,_,_,_,_,rfl,_]:=h;rfl
def cN (ls:List (Str×List Nat)) (ds:L2S) (es:List Int) (c0 wd:Nat) (cs:List Nat):Nat ⊕ List Nat:=
 if cs.any (λ c=>(Fo.lk ls (tx [c])).isNone)=true then .inl 0 else if inV (ov (Hs.go ds cs)) (es.map V.int)=false then .inl 1 else if wd<(Fo.fM ls cs).length then .inl 2 else .inr (Fo.fM ls cs++List.replicate (wd-(Fo.fM ls cs).length) c0)
inductive sp_f31 (K:W.Frag) (vs:List V) (H:Hp) (Q:VK) (E:XK):Prop
 | mk (f ha:Addr) (ht:Nat) (ls:List (Str×List Nat)) (ds:L2S) (es:List Int) (fs:Str) (c0:Nat) (cs:List Nat) (wd:Nat) (h0:vs=[.ref f, .ref ha, .str fs, .str (tx cs), .int (wd:Nat)]) (h1:FnT K H f ht ls) (h2:Fo.Wf ht ls) (h3:HsG K H ha ds es) (h4:Hs.Wf ds) (h5:Fo.lk ls fs=some [c0]) (h6:cs.length<=1000) (h7:wd<=10000) (h8:(∀i,cN ls ds es c0 wd cs= .inl i-> ∀H',Same H H'->E (.ref ([dW,d7,cZ].getD i 0)) none H')) (h9: ∀ys,cN ls ds es c0 wd cs= .inr ys-> ∀r H',H r=none->Same H H'->H' r=some (.lst (nv ys))->Q (.ref r) H'):sp_f31 K vs H Q E
abbrev zm (K:W.Frag) (E:XK):TS:=
  (aG (bL (b7 (aK xN (cz (cV K) (aa (ak 5) au)) (ak 4))) (cW E cZ (aa (tC (V.str (Str.ofString "a row is wider than the page"))) au)) aW)
  (bh (aK j8 (ak 5) (aK Fi (aJ (sp_f17 K) [] E (aa (ak 0) (aa (ak 2) au))) (aK lU (ak 4) (cz (cV K) (aa (ak 5) au)))))))
def t6 (K:W.Frag) (E:XK) (Eh:XK):TS:=
  (aG (aO (aJ (sp_f27 K) [] E (aa (ak 0) (aa (ak 3) au))) (aA 5))
  (aG (bL (iy (ie K (aJ (sp_f33 K) [] E0 (aa (ak 1) (aa (ak 3) au))))) (cW E d7 (aa (tC (V.str (Str.ofString "the house does not take a row"))) au)) aW)
  (zm K E)))
theorem Hn (h:sp_f31 K vs H Q E): ∃I,t6 K E I { nx:=λ _ H'=>Q .non H',rt:=Q } (start ["font","house","filler","row","wide","picture"] vs) H:=by
 let#[f,P,G,ls,ds,D,fs,B,i,A,rfl,F,wf,O,R,a,v,S,l,q]:=h;refine#[E0,?_];unfold t6;unfold cN at l q;have x: ∀ {H':Hp},Thing H' (.str fs):=by
  intro H';let#[k,e]:=wf.sg _ (Fo.bW a);change fs.length<=100000;rw [show fs=_ from e,bK];show Wz rfl
 symm;refine#[f,G,ls,i,rfl,F,wf,v,λ m r H1 X g u=> ?_,λ ⟨c,y,j⟩ H1 g=>l 0 (by rw [if_pos (Xs.mpr #[c,y,by rw [j];rfl])]) _ g];have T: ¬i.any (λ c=>(Fo.lk ls (tx [c])).isNone)=true:=λ z=>by
  let#[c,y,j]:=Xs.mp z;let#[d,L]:=m c y;rw [L] at j;cases j
 rw [if_neg T] at l q;symm;refine#[P,ds,D,i,rfl,O.same g,R,?_];symm;by_cases t:inV (ov (Hs.go ds i)) (D.map V.int)=false
 .rw [t];symm;show l 1 (by rw [if_pos t]) _ g
 rw [if_neg t] at l q;rw [eq_true_of_ne_false t];symm;refine cM (SqL.of u) ?_;rw [Qb];symm;refine eQ (λ J=> ?_) λ J=> ?_
 .symm;show l 2 (by rw [if_pos ()]) _ g
 rw [if_neg ()] at q;symm;refine#[f,G,ls, .str fs,rfl,x,F.same g,wf.sg,λ s c N j W b=> ?_,λ z=>by rw [z fs rfl] at a;cases a]
 cases N;rw [a] at j
 cases j;symm;refine cM (SqL.of (aq b u)) ?_;rw [Qb];symm;have C:((A:Int)-((Fo.fM ls i).length:Int)).toNat=A-(Fo.fM ls i).length:=()
 refine#[W,_,_,rfl,rfl,aj,(),(),?_,λ p w=> ?_]
 .rw [C];show Zy (show 1*(A-(Fo.fM ls i).length)<=10000 by rfl') (by decide)
 have M: ∀n:Nat,(List.replicate n (nv [B])).flatten=nv (List.replicate n B):=λ n=>by
  induction n with
  | zero=>rfl
  | succ n ih=>rw [Xb,Wd,ih,Xb];rfl
 rw [C,M];symm;refine gh (aq w (aq b u)) aj (by unfold nv;rw [Qb,Qb,Yo];rfl') λ U o=> ?_
 refine q _ rfl U _ (((g.new b).new w).free o) (((g.new b).new w).new o) ?_;rw [aj];unfold nv;rw [Zb]
theorem Ho (h:sp_f31 K vs H Q E):vs.length=5:=by
 let#[_,_,_,_,_,_,_,_,_,_,rfl,_]:=h;rfl
def iu (f:List Nat->Nat ⊕ List Nat):List (List Nat)->Nat ⊕ List (List Nat)
 | []=> .inr []
 | r::rs=>match f r with
  | .inl i=> .inl i
  | .inr y=>match iu f rs with
   | .inl i=> .inl i
   | .inr ys=> .inr (y::ys)
theorem kZ {f:List Nat->Nat ⊕ List Nat} {b:List Nat} {i:Nat} (h:f b= .inl i): ∀ {l r:List (List Nat)} {ys:List (List Nat)},iu f l= .inr ys->iu f (l++b::r)= .inl i
 | [],r,ys,_=>by change(match f b with | .inl i=>_ | .inr y=>_)=_;rw [h]
 | a::l,r,ys,e=>by
  change(match f a with | .inl i=>_ | .inr y=>match iu f (l++b::r) with | .inl i=>_ | .inr ys=>_)=_;change(match f a with | .inl i=>_ | .inr y=>match iu f l with | .inl i=>_ | .inr ys=>_)=_ at e
  cases ha:f a with
  | inl j=>rw [ha] at e;cases e
  | inr y=>
   rw [ha] at e
   cases hl:iu f l with
   | inl j=>rw [hl] at e;cases e
   | inr zs=>rw [kZ h hl]
theorem lg {f:List Nat->Nat ⊕ List Nat} {b y:List Nat} (h:f b= .inr y): ∀ {l:List (List Nat)} {ys:List (List Nat)},iu f l= .inr ys->iu f (l++[b])= .inr (ys++[y])
 | [],ys,e=>by
  cases e;change(match f b with | .inl i=>_ | .inr y=>_)=_;rw [h];rfl
 | a::l,ys,e=>by
  change(match f a with | .inl i=>_ | .inr y=>match iu f (l++[b]) with | .inl i=>_ | .inr ys=>_)=_;change(match f a with | .inl i=>_ | .inr y=>match iu f l with | .inl i=>_ | .inr ys=>_)=_ at e
  cases ha:f a with
  | inl j=>rw [ha] at e;cases e
  | inr z=>
   rw [ha] at e
   cases hl:iu f l with
   | inl j=>rw [hl] at e;cases e
   | inr zs=>
    rw [hl] at e
    cases e;rw [lg h hl];rfl
structure LsL (H H':Hp) (r:Addr) (zs:List (Addr×List Nat)):Prop where
 s:Same H H'
 l:H' r=some (.lst (zs.map λ z=>V.ref z.1))
 z: ∀z∈zs,H' z.1=some (.lst (nv z.2))/\H z.1=none/\z.1≠r
 n:(zs.map (·.1)).Nodup
 r:H r=none
theorem t7 {f:List Nat->Nat ⊕ List Nat} (b: ∀cs i,f cs= .inl i->i<3) {i:Nat}: ∀ {l:List (List Nat)},iu f l= .inl i->i<3
 | [],e=>by cases e
 | a::l,e=>by
  change(match f a with | .inl i=>_ | .inr y=>match iu f l with | .inl i=>_ | .inr ys=>_)=_ at e
  cases ha:f a with
  | inl j=>rw [ha] at e;cases e;show b a _ ha
  | inr y=>
   rw [ha] at e
   cases hl:iu f l with
   | inl j=>rw [hl] at e;cases e;show t7 b hl
   | inr zs=>rw [hl] at e;cases e
theorem uQ {ls:List (Str×List Nat)} {a:List Int}: ∀cs i,cN ls ds a c0 wd cs= .inl i->i<3:=λ cs i e=>by
 unfold cN at e;split at e
 .cases e;decide
 split at e
 .cases e;decide
 split at e
 .cases e;decide
 .cases e
inductive sp_f35 (K:W.Frag) (vs:List V) (H:Hp) (Q:VK) (E:XK):Prop
 | mk (f ha ra:Addr) (ht:Nat) (ls:List (Str×List Nat)) (ds:L2S) (es:List Int) (x:V) (rows:List (List Nat)) (wd:Nat) (h0:vs=[.ref f, .ref ha,x, .ref ra, .int (wd:Nat)]) (h1:RefG K dW dW []) (h2:RefG K fO fO []) (h3:Thing H x) (h4:FnT K H f ht ls) (h5:Fo.Wf ht ls) (h6:HsG K H ha ds es) (h7:GoodH ds es) (h8:Hs.Wf ds) (h9:SqL K H ra (rows.map λ cs=>V.str (tx cs))) (h10:rows.length<=1000) (h11:(∀cs∈rows,cs.length<=1000)) (h12:wd<=10000) (h13:(∀s c0,x= .str s->Fo.lk ls s=some [c0]->(∀ps∈ds,Hs.dr ps s=none)->ds.length<40->(∀i,iu (cN ls ds es c0 wd) rows= .inl i-> ∀H',Same H H'->E (.ref ([dW,d7,cZ].getD i 0)) none H')/\ ∀zs,iu (cN ls ds es c0 wd) rows= .inr (zs.map (·.2))-> ∀r H',LsL H H' r zs->Q (.ref r) H')) (h14:((∀s c0,x= .str s->Fo.lk ls s=some [c0]->(∀ps∈ds,Hs.dr ps s=none)->ds.length<40->False)-> ∀H',Same H H'->E (.ref iY) none H')):sp_f35 K vs H Q E
def tu (K:W.Frag) (E:XK) (Eh:XK):TS:=
  (aG (cD (aJ (sp_f21 K) [] E (aa (ak 0) (aa (ak 1) (aa (ak 2) au)))))
  (bh (lu [none,some 0,some 1,some 2,some 4] (cO K (ak 3)) (aA 0) jc (aJ (sp_f31 K) [] E (aa (ak 1) (aa (ak 2) (aa (ak 3) (aa (ak 0) (aa (ak 4) au)))))))))
theorem Hq (h:sp_f35 K vs H Q E): ∃Z,tu K E Z { nx:=λ _ H'=>Q .non H',rt:=Q } (start ["font","house","filler","rows","wide"] vs) H:=by
 let#[f,T,ra,X,ls,ds,B,x,rows,Y,rfl,F1,F2,hx,P,wf,R,gd,hw,S,ac,L,M,q,qe]:=h;refine#[E0,?_];unfold tu;symm;refine#[f,T,X,ls,ds,B,x,rfl,F1,F2,hx,P,wf.sg,R,gd,λ s c A t U D I v H1 j=> ?_,λ z H1 j=>qe (λ s l A t D I=>z s [l] A t rfl D I) _ j];let#[l,rfl]: ∃l,c=[l]:=by
  cases c with
  | nil=>cases U
  | cons a c=>cases c with
   | nil=>show#[a,rfl]
   | cons b c=>cases U
 subst A;let#[qf,qs]:=q s l rfl t D I;symm;refine rR (λ n:List Nat=>V.str (tx n)) (zs:=rows) (j.seq S) () (λ k ys H'=> ∃zs:List (Addr×List Nat),ys=zs.map (λ z=>V.ref z.1)/\zs.length=k/\iu (cN ls ds B l Y) (rows.take k)= .inr (zs.map (·.2))/\Same H1 H'/\(∀z∈zs,H' z.1=some (.lst (nv z.2))/\H1 z.1=none)/\(zs.map (·.1)).Nodup) #[[],rfl,rfl,rfl,Same.refl _,by simp,by simp] ?_ ?_ ?_ ?_
 .rintro k ys H' ⟨zs,_,_,_,s',_⟩;show s'.seq (j.seq S)
 .rintro k ys H' ⟨zs,rfl,rfl,_⟩;rw [Qb];show Zo _
 .rintro k n ys H' F ⟨zs,rfl,o,g,s',m,J⟩;let#[G,ek]:=Zv.mp F;have C:rows=rows.take k++n::rows.drop (k+1):=by
   rw [<- ek,<- Wa G,Wy]
  have N:=j.trans s';symm;refine#[f,T,X,ls,ds,B,s,l,n,Y,rfl,P.same N,wf,R.same N,hw,t,L n (Zg F),M,λ i hi H2 w=>qf i (by rw [C];show kZ hi g) _ (N.trans w),λ y hy r H2 W w er=> ?_];symm;refine#[zs++[(r,y)],by rw [Zb];rfl,by rw [Zf,o];rfl,?_,s'.trans w,λ z d=> ?_,?_]
  .rw [Yc,F,Zb];show lg hy g
  .rcases Zh.mp d with d | d
   .exact #[w.get (m z d).1,(m z d).2]
   .rw [Za.mp d];show#[er,s'.free W]
  .rw [Zb,Yl];refine#[J,by simp,λ a ma b mb e=> ?_];let#[z,d,rfl]:=Ze.mp ma;have O:=(m z d).1;rw [e,show b=r by simpa using mb,W] at O
   cases O
 rintro ys H' ⟨zs,rfl,o,g,s',m,J⟩ p u;rw [Yh] at g;refine qs zs g p _ #[(j.trans s').new u,aj,λ z d=>#[aq u (m z d).1,j.free (m z d).2,λ e=> ?_],J,(j.trans s').free u];have:=(m z d).1;rw [e,u] at this
 cases this
theorem Hr (h:sp_f35 K vs H Q E):vs.length=5:=by
 let#[_,_,_,_,_,_,_,_,_,_,rfl,_]:=h;rfl
inductive sp_f3 (K:W.Frag) (vs:List V) (H:Hp) (Q:VK) (E:XK):Prop
 | mk (a:Addr) (ns:List Int) (k:Nat) (h0:vs=[.ref a, .int k]) (h1:SqL K H a (ns.map V.int)) (h2:Q (.int (Mm.cellAt ns k)) H):sp_f3 K vs H Q E
def zp (K:W.Frag) (E:XK) (Eh:XK):TS:=
  (aG (bL (b7 (aK Jm (ak 1) (cz (cV K) (aa (ak 0) au)))) (bh (aK (dU K) (ak 0) (ak 1))) aW)
  (bh (tC (V.int 0))))
theorem KZ (h:sp_f3 K vs H Q E): ∃d,zp K E d { nx:=λ _ H'=>Q .non H',rt:=Q } (start ["script","k"] vs) H:=by
 let#[a,ns,k,rfl,b,q]:=h;refine#[E0,?_];unfold zp;symm;refine cM b ?_;symm;rw [Qb];refine eQ (λ c=> ?_) λ c=> ?_
 .symm;refine cQ b (bf (v:=V.int (Mm.cellAt ns k)) ?_) ?_
  .rw [Zm,Zc (),Wu,Mm.getD_some (Zc ())]
  .exact q
 .symm;rw [Mm.getD_none ()] at q;show q
inductive sp_f13 (K:W.Frag) (vs:List V) (H:Hp) (Q:VK) (E:XK):Prop
 | mk (i:Int) (h0:vs=[.int i]) (h1:Q (.bl true) H):sp_f13 K vs H Q E
def tD (K:W.Frag) (E:XK) (Eh:XK):TS:=
  (bh (lH (cz (dj K) (aa (ak 0) (aa (tC (V.ty "int")) au))) (u5 (cz (dj K) (aa (ak 0) (aa (tC (V.ty "bool")) au))))))
theorem Ht (h:sp_f13 K vs H Q E): ∃a,tD K E a { nx:=λ _ H'=>Q .non H',rt:=Q } (start ["found"] vs) H:=by
 let#[i,rfl,q]:=h;refine#[E0,?_];unfold tD;symm;refine#[_,_,_,_,rfl, .int i,rfl,?_];symm;refine#[_,_,_,_,rfl, .int i,rfl,?_];symm;show q
def O2:Str:=Str.ofString " !\"#$&'()*+,-./0123456789:;<=>?@ABCDEFGHIJKLMNOPQRSTUVWXYZ[\\]^_`"++Str.ofString "abcdefghijklmnopqrstuvwxyz{|}~"
def fH (K:W.Frag):Sp:=λ vs H Q _=>vs=[]/\Q (.str O2) H
def tE (K:W.Frag) (E:XK) (Eh:XK):TS:=
  (aG (aO (tC (V.str (Str.ofString " !\"#$&'()*+,-./0123456789:;<=>?@ABCDEFGHIJKLMNOPQRSTUVWXYZ[\\]^_`"))) (aA 0))
  (bh (aK dw (ak 0) (tC (V.str (Str.ofString "abcdefghijklmnopqrstuvwxyz{|}~"))))))
theorem Hu (h:fH K vs H Q E): ∃a,tE K E a { nx:=λ _ H'=>Q .non H',rt:=Q } (start ["some"] vs) H:=by
 unfold fH at h;let#[rfl,q]:=h;refine#[E0,?_];unfold tE;symm;refine kJ (by decide) ?_;show q
theorem Hv (h:fH K vs H Q E):vs.length=0:=by
 unfold fH at h;let#[rfl,_]:=h;rfl
inductive sp_f6 (K:W.Frag) (vs:List V) (H:Hp) (Q:VK) (E:XK):Prop
 | mk (c:Int) (h0:vs=[.int c]) (h1:Q (.int (Mm.pX c:Nat)) H):sp_f6 K vs H Q E
def zq (K:W.Frag) (E:XK) (Eh:XK):TS:=
  (aG (bL (b7 (aK qt (aK bu (ak 0) (tC (V.int 4))) (tC (V.int 3)))) (bh (aK cP (tC (V.int 1)) (aK bu (aK bV (ak 0) (tC (V.int 4))) (tC (V.int 60))))) aW)
  (bh (aK cP (tC (V.int 1)) (aK bu (aK bV (ak 0) (tC (V.int 4))) (tC (V.int 6))))))
theorem La (h:sp_f6 K vs H Q E): ∃a,zq K E a { nx:=λ _ H'=>Q .non H',rt:=Q } (start ["cell"] vs) H:=by
 let#[c,rfl,q]:=h;refine#[E0,?_];unfold zq;symm;refine eQ (λ d=> ?_) λ d=> ?_
 .symm;rw [show((Mm.pX c:Nat):Int)=1+c / 4%60 by unfold Mm.pX;rw [if_pos d];rfl'] at q;show q
 .symm;rw [show((Mm.pX c:Nat):Int)=1+c / 4%6 by unfold Mm.pX;rw [if_neg d];rfl'] at q;show q
inductive sp_f5 (K:W.Frag) (vs:List V) (H:Hp) (Q:VK) (E:XK):Prop
 | mk (c:Int) (m h:Nat) (h0:vs=[.int c, .int m, .int h]) (h1:m<=8) (h2:h<=60) (h3: ∀t H' (co:List Nat),Same H H'->H' t=some (.tup (nv co))->co.length=m->(∀x∈co,x<2^h)->Q (.ref t) H'):sp_f5 K vs H Q E
abbrev Dg (K:W.Frag):TS:=
  (aG (aO (aK cP (aK eF (ak 0) (aK cP (aK eF (tC (V.int 2)) (ak 4)) (tC (V.int 3)))) (aK eF (ak 4) (ak 4))) (aA 5))
  (cD (qu K "list" bY (ak 3) (aa (aK bu (aK bV (aK eF (ak 5) (tC (V.int 2862933555777941757))) (tC (V.int 16))) (aK Jk (tC (V.int 1)) (ak 2))) au))))
def zu (K:W.Frag) (E:XK) (Eh:XK):TS:=
  (aG (aO (cC au) (aA 3))
  (aG (dO (iz (aa (ak 1) au)) (aA 4) (Dg K))
  (bh (cz (cI K) (aa (ak 3) au)))))
theorem Lb (h:sp_f5 K vs H Q E): ∃v,zu K E v { nx:=λ _ H'=>Q .non H',rt:=Q } (start ["cell","many","height","found","k","number"] vs) H:=by
 let#[c,m,b,rfl,B,y,q]:=h;refine#[E0,?_];unfold zu;symm;intro p s;symm;have f: ∀u∈[p],H u=none:=λ u j=>by rw [Za.mp j];show s
 refine uC m (Yu _) () () (λ i r H'=> ∃a:List Nat,a.length=i/\(∀x∈a,x<2^b)/\Sb [p] H H'/\H' p=some (.lst (nv a))/\ ∃l n,r=[some (.int c),some (.int (m:Nat)),some (.int (b:Nat)),some (.ref p),l,n]) #[[],rfl,by simp,Sb.of (aD s _),aj,none,none,rfl] ?_ ?_
 .rintro i r H' A ⟨a,g,d,o,e,l,n,rfl⟩;symm;generalize c*(2*(i:Int)+3)+(i:Int)*(i:Int)=num;refine dN (SqL.of e) ?_;symm;rw [Int.one_mul,Yu,Mm.FQ];refine eU e (by simp;rfl') ?_;symm;refine#[a++[Mm.col b num],by simp [g],?_,o.set (by simp),by rw [aj,nv,nv,Zb];rfl,_,_,rfl];intro x z;rcases Zh.mp z with w | w
  .exact d x w
  .rw [Za.mp w];show Mm.FT b num
 .rintro r H' ⟨a,g,d,o,e,l,n,rfl⟩;symm;refine fG (SqL.of e) λ t k=> ?_
  show q t _ a ((o.off f).new k) aj g d
abbrev Lw:=Str×V×List Nat
variable {p:Lw} {kvs:List Lw}
def gU (kvs:List Lw):List (Key×V):=kvs.map λ p:Lw=>(Sum.inr p.1,p.2.1)
theorem zx {s:Str} (h:s∉kvs.map (·.1)):dh (gU kvs) (Sum.inr s)=none:=kY (f:=λ p:Lw=>(Sum.inr p.1:Key)) (g:=λ p:Lw=>p.2.1) λ m=>by
 let#[p,a,e]:=Ze.mp m;show h (Ze.mpr #[p,a,Â e])
theorem jH {p:Lw}: ∀ {kvs:List Lw},(kvs.map (·.1)).Nodup->p∈kvs->dh (gU kvs) (Sum.inr p.1)=some p.2.1
 | [],_,m=>by cases m
 | q::r,hn,m=>by
  rw [Zn,Ym] at hn;unfold gU;rw [Zn];rcases Zx.mp m with rfl | m
  .exact fX rfl
  .rw [dZ λ e=>hn.1 (Ze.mpr #[p,m,(Â e).symm])];show jH hn.2 m
theorem uR {s:Str}:((gU kvs).any λ b=>decide (b.1=Sum.inr s))=decide (s∈kvs.map (·.1)):=by
 rw [Ò,Xs,decide_eq_true_iff];constructor
 .rintro ⟨b,m,e⟩;let#[p,a,rfl]:=Ze.mp m;show Ze.mpr #[p,a,Â (Ys e)]
 .intro m;let#[p,a,e]:=Ze.mp m;show#[_,Ze.mpr #[p,a,rfl],Yi (by rw [e])]
theorem uT {s:Str} (v:V) (c:List Nat) (h:s∉kvs.map (·.1)):putK (gU kvs) (Sum.inr s) v=gU (kvs++[(s,v,c)]):=by
 unfold putK;rw [uR,if_neg (by rw [Yj h];decide)];unfold gU;rw [Zb];rfl
theorem w6 {s:Str} {a:V} (b:List Nat) (h:s∉kvs.map (·.1)):putK (gU (kvs++[(s,v,c)])) (Sum.inr s) a=gU (kvs++[(s,a,b)]):=by
 unfold putK;rw [uR,if_pos (Yi (by rw [Zb];simp))];unfold gU;rw [Zb,Zb,Zb];congr 1
 .rw [Zj];apply ê;intro p d;show if_neg λ e=>h (Ze.mpr #[p,d,Â e])
 .show [if (Sum.inr s:Key)=Sum.inr s then _ else _]=_;rw [if_pos rfl];rfl
def GoodL (H:Hp) (ht:Nat) (p:Lw):Prop:=Hs.Sg p.1/\(1<=p.2.2.length/\p.2.2.length<=3)/\(∀x∈p.2.2,x<2^ht)/\ ∃t,p.2.1= .ref t/\H t=some (.tup (nv p.2.2))
theorem GoodL.same (h:GoodL H ht p) (s:Same H H'):GoodL H' ht p:=by
 let#[a,b,c,t,e,d]:=h;show#[a,b,c,t,e,s.get d]
theorem GoodL.put {kvs:List (Key×V)} {o:HO} (h:GoodL H ht p) (e:H d=some (.dK kvs)):GoodL (upd H d o) ht p:=by
 let#[c,f,g,t,b,a]:=h;show#[c,f,g,t,b,by rw [aC (fJ a e (by intro q;cases q))];show a]
structure LtT (H:Hp) (d:Addr) (ht:Nat) (kvs:List Lw) (fs:Str) (c0:Nat):Prop where
 d:Rd H d (.dK (gU kvs))
 n:(kvs.map (·.1)).Nodup
 f:(tx [],V.str fs,[])∈kvs
 k: ∀p∈kvs,p.1≠tx []->GoodL H ht p
 o: ∃v,(fs,v,[c0])∈kvs
 e:fs≠tx []
 l:kvs.length<=5
 m: ∃p∈kvs,p.1≠tx []/\p.1≠fs
theorem zy {a b:Str} (c:(kvs.map (·.1)).Nodup) (h:3<=kvs.length): ∃p∈kvs,p.1≠a/\p.1≠b:=by
 match kvs,c,h with
 | x::y::z::r,c,_=>
  simp only [Zn,Ym,Zx,not_or] at c;let#[#[j,d,_],#[f,_],_]:=c;by_cases g:x.1≠a/\x.1≠b
  .exact #[x,by simp,g]
  by_cases i:y.1≠a/\y.1≠b
  .exact #[y,by simp,i]
  refine#[z,by simp,λ e=> ?_,λ e=> ?_]
  .rw [e] at d f;show j ((à.mp λ q=>g #[d,q]).trans (à.mp λ q=>i #[f,q]).symm)
  .rw [e] at d f;show j ((à.mp λ q=>g #[q,d]).trans (à.mp λ q=>i #[q,f]).symm)
def Bg (kvs:List Lw) (ls:List (Str×List Nat)):Prop:= ∀s co,Fo.lk ls s=some co↔s≠tx []/\ ∃v,(s,v,co)∈kvs
section
variable {H H':Hp} {d:Addr} {ht:Nat} {kvs:List Lw} {fs:Str} {c0:Nat} {ls:List (Str×List Nat)} {s:Str}
theorem LtT.same (h:LtT H d ht kvs fs c0) (z:Same H H'):LtT H' d ht kvs fs c0:=#[h.d.elim (λ e=> .inl (z.get e)) λ ⟨o,e⟩=> .inr #[o,z.get e],h.n,h.f,λ p a b=>(h.k p a b).same z,h.o,h.e,h.l,h.m]
theorem LtT.get (h:LtT H d ht kvs fs c0) (k:Bg kvs ls) (e:Fo.lk ls s=some co): ∃r,DGet H d (.str s) (some (.ref r))/\H r=some (.tup (nv co)):=by
 let#[n,v,m]:=(k s co).mp e;let#[_,_,_,t,b,a]:=h.k _ m n;have:=DGet.r (k:=Sum.inr s) h.d;rw [show dh (gU kvs) (Sum.inr s)=some v from jH h.n m,show v=V.ref t from b] at this;show#[t,this,a]
theorem LtT.no (h:LtT H d ht kvs fs c0) (k:Bg kvs ls) (n:s≠tx []) (e:Fo.lk ls s=none):DGet H d (.str s) none:=by
 have:=DGet.r (k:=Sum.inr s) h.d;rw [zx λ m=> ?_] at this
 .exact this
 .obtain ⟨p,a,rfl⟩:=Ze.mp m;have:=(k p.1 p.2.2).mpr #[n,p.2.1,a];rw [e] at this;cases this
theorem LtT.fil (h:LtT H d ht kvs fs c0):DGet H d (.str (tx [])) (some (.str fs)):=by
 have:=DGet.r (k:=Sum.inr (tx [])) h.d;rw [show dh (gU kvs) (Sum.inr (tx []))=some (.str fs) from jH (p:=(tx [],V.str fs,[])) h.n h.f] at this;show this
end
theorem nZ {ls:List (Str×List Nat)}: ∀cs:List Nat,cs.filterMap (λ c=>if (Fo.lk ls (tx [c])).isNone=true then some (V.str (tx [c])) else none)=((cs.filter λ c=>(Fo.lk ls (tx [c])).isNone).map λ c=>[c]).map λ l=>V.str (tx l)
 | []=>rfl
 | c::r=>by
  rw [Wl,Wp];by_cases h:(Fo.lk ls (tx [c])).isNone=true
  .rw [if_pos h,if_pos h,Zn,Zn,nZ r]
  .rw [if_neg h,if_neg h];show nZ r
def gm (ls:List (Str×List Nat)):List Nat:=Hs.qw.cps.toList.filter λ c=>(Fo.lk ls (tx [c])).isNone
theorem o9 (ls:List (Str×List Nat)):(gm ls).length<=94:=Zy (À _ _) (by ac_nf)
theorem lq {ls:List (Str×List Nat)} (h:ls.length<=40):0<(gm ls).length:=by
 rcases Nat.eq_zero_or_pos (gm ls).length with z | z
 .exfalso;have a: ∀s∈Hs.qw.cps.toList.map (λ c=>tx [c]),s∈ls.map (·.1):=by
   intro s m;let#[c,f,rfl]:=Ze.mp m;have:=List.filter_eq_nil_iff.mp (List.length_eq_zero_iff.mp z) c f
   cases e:Fo.lk ls (tx [c]) with
   | none=>rw [e] at this;show absurd rfl this
   | some co=>show Ze.mpr #[_,Fo.bW e,rfl]
  have d:(Hs.qw.cps.toList.map λ c=>tx [c]).Nodup:=by ac_nf
  have:=gR d a;have b:Hs.qw.cps.toList.length=94:=by ac_nf
  rw [Qb,Qb,b] at this;rfl'
 .exact z
theorem oh {ls:List (Str×List Nat)} {c:Nat} (h:c∈gm ls):Fo.lk ls (tx [c])=none/\Hs.Sg (tx [c])/\c<1114112:=by
 let#[g,a]:=Xh.mp h;let#[j,i,f]:=Xn.mp g;have d:Hs.qw.cps.toList.length=94:=by ac_nf
 have b:c=Hs.gG (j:Int):=by
  unfold Hs.gG;rw [show((j:Int)%94).toNat=j by rfl',Zz,Zc i,f];rfl
 refine#[?_,#[j,by rw [b]],by rw [b];show Hs.yP _]
 cases e:Fo.lk ls (tx [c]) with
 | none=>rfl
 | some co=>rw [e] at a;cases a
theorem ou {i:Str} {ls:List (Str×List Nat)} (g:cap [none,some 1] σ=[none,some (.ref d)]) (b:LtT H d ht kvs i c0) (f:Bg kvs ls) (h: ∀p,H p=none->Q (.ref p) (upd H p (.lst ((gm ls).map λ c=>V.str (tx [c]))))):iS (yC [none,some 1] (aA 0) (tB (dM (ak 0) (ak 1))) (ak 0) σ Q) (.str Hs.qw) H:=by
 refine DY (by ac_nf) (λ c=>if (Fo.lk ls (tx [c])).isNone=true then some (V.str (tx [c])) else none) (λ j c o A B l m=> ?_) λ n a=> ?_
 .rw [g];symm
  cases e:Fo.lk ls (tx [c]) with
  | none=>
   refine#[d,none,rfl,b.no f (λ z=>by cases ir.mp z) e,?_];symm;change if (!false)=true then _ else _
   symm;show l _ (by rw [e];rfl)
  | some co=>
   let#[r,k,_]:=b.get f e;refine#[d,_,rfl,k,?_];symm;change if (!true)=true then _ else _
   symm;show m (by rw [e];rfl)
 .rw [nZ,Zj];show h n a
theorem LtT.frz {H1:Hp} {b:Str} (h:LtT H d ht kvs b c0) (e:H d=some (.dK (gU kvs))) (q:Sb [d] H H1) (c:H1 d=some (.frz od (.dK (gU kvs)))):LtT H1 d ht kvs b c0:=by
 refine#[.inr #[od,c],h.n,h.f,λ p i j=> ?_,h.o,h.e,h.l,h.m];let#[k1,k2,k3,t,g,a]:=h.k p i j;show#[k1,k2,k3,t,g,q t _ (by intro m;rw [Za.mp m,e] at a;cases a) a]
theorem Ld {g:TG} {E:TT} {F:TE} {kvs:List (Key×V)} (K:Rd H a (.dK kvs)) (U:kvs.length<=1000000) (f:Key×V->Option V)
  (h: ∀od H1,Sb [a] H H1->H1 a=some (.frz od (.dK kvs))->
   (∀ (i:Nat) z H',kvs[i]? =some z->Same H1 H'-> ∀ (A:VK) (B:Hp->Prop),(∀y H2,f z=some y->Same H' H2->A y H2)->(∀H2,f z=none->Same H' H2->B H2)->g (kV z.1) (cap κ σ) H' λ l H2=>mU (cap κ σ) l/\E l H2 λ b H3=>if b=true then F l H3 A else B H3)/\
   ∀p H',Same H1 H'->H' p=none->Q (.ref p) (upd H' p (.lst (kvs.filterMap f)))):PP (yC κ g E F σ Q) (.ref a) H:=by
 have n: ∀od H1,Sb [a] H H1->H1 a=some (.frz od (.dK kvs))->yC κ g E F σ Q (vW od a) H1:=by
  intro od H1 R s;let#[O,M]:=h od H1 R s;refine#[λ i m ys H'=>m=kvs.length-i/\i<=kvs.length/\Same H1 H'/\ys=(kvs.take i).filterMap f,#[kvs.length,by simp,Yv _,Same.refl _,rfl],?_];rintro i m ys H' ⟨rfl,T,j,rfl⟩;by_cases d:i<kvs.length
  .have u:kvs[i]? =some kvs[i]:=Zc d;have G:kvs.take (i+1)=kvs.take i++[kvs[i]]:=by rw [Yc,u];rfl
   have C:((kvs.take i).filterMap f).length<=1000000:=Zy (List.length_filterMap_le _ _) (by rw [Yp];rfl');refine .inr #[#[kvs,j.get s,d],Yg C (by decide),λ r c=>Same H1 c/\r=(kvs.take (i+1)).filterMap f,λ r c J=>#[kvs.length-(i+1),(),rfl,d,J.1,J.2],λ v c y=> ?_];let#[rfl,S]:=y;let#[k,x,I,rfl]:=S kvs (j.get s);rw [u] at I;have w:kvs[i]=(k,x):=Zr I;show O i (k,x) c (by rw [u,w]) j (λ y t=>Same H1 t/\(kvs.take i).filterMap f++[y]=(kvs.take (i+1)).filterMap f) (λ t=>Same H1 t/\(kvs.take i).filterMap f=(kvs.take (i+1)).filterMap f)
    (λ y H2 e D=>#[j.trans D,by rw [G,Mm.cL,w,e];rfl]) (λ H2 e D=>#[j.trans D,by rw [G,Mm.cL,w,e];simp])
  .have L:i=kvs.length:=()
   subst L;refine .inl #[#[kvs,j.get s,Zo _],λ p N=> ?_];rw [Yh];show M p _ j N
 rcases K with e | ⟨od,e⟩
 .refine #[a,kvs,rfl, .inl #[e,λ od=>n od _ ?_ aj]];intro b o P q;rw [aC (by simpa using P)];show q
 .exact #[a,kvs,rfl, .inr #[od,e,n od H (λ b o _ q=>q) e]]
theorem uU {x y:Lw} (e:x.1=y.1): ∀ {kvs:List Lw},(kvs.map (·.1)).Nodup->x∈kvs->y∈kvs->x=y
 | [],_,h,_=>by cases h
 | p::r,hn,h1,h2=>by
  rw [Zn,Ym] at hn;rcases Zx.mp h1 with r1 | h1
  .rcases Zx.mp h2 with r2 | h2
   .rw [r1,r2]
   .exact absurd (Ze.mpr #[y,h2,by rw [<- e,r1]]) hn.1
  .rcases Zx.mp h2 with r2 | h2
   .exact absurd (Ze.mpr #[x,h1,by rw [e,r2]]) hn.1
   .exact uU e hn.2 h1 h2
inductive sp_f4 (K:W.Frag) (vs:List V) (H:Hp) (Q:VK) (E:XK):Prop
 | mk (a:Addr) (ns:List Int) (ht:Nat) (h0:vs=[.ref a, .int ht]) (h1:SqL K H a (ns.map V.int)) (h2:ht<=60) (h3: ∀d H' (kvs:List Lw) fs c0,Same H H'->H' d=some (.dK (gU kvs))->LtT H' d ht kvs fs c0->Q (.ref d) H'):sp_f4 K vs H Q E
abbrev Dh (K:W.Frag):TS:=
  (aG (jP (ak 6) (aK wX (ak 2) (aK bu (ak 5) (tC (V.int 94)))) (aJ (sp_f5 K) [] E0 (aa (ak 8) (aa (aK cP (tC (V.int 1)) (aK bu (aK bV (ak 8) (tC (V.int 2))) (tC (V.int 3)))) (aa (ak 1) au)))))
  (bL (b7 (aK qt (ak 7) (aK bu (aK bV (ak 3) (tC (V.int 3))) (ak 4)))) (aG (jP (ak 6) (aK wX (ak 2) (aK bu (ak 5) (tC (V.int 94)))) (aJ (sp_f5 K) [] E0 (aa (ak 8) (aa (tC (V.int 1)) (aa (ak 1) au)))))
  (jP (ak 6) (tC (V.str (Str.ofString ""))) (aK wX (ak 2) (aK bu (ak 5) (tC (V.int 94)))))) aW))
abbrev Di (K:W.Frag):TS:=
  (aG (aO (aK bu (aK eF (aK cP (aK cP (aJ (sp_f3 K) [] E0 (aa (ak 0) (aa (tC (V.int 3)) au))) (aK eF (aK eF (tC (V.int 7919)) (ak 7)) (ak 7))) (aK eF (tC (V.int 31)) (ak 7))) (tC (V.int 48271))) (tC (V.int 2147483647))) (aA 8))
  (aG (aO (aK cP (aK cP (ak 5) (tC (V.int 1))) (aK bu (ak 8) (tC (V.int 2)))) (aA 5))
  (Dh K)))
abbrev Dj (K:W.Frag):TS:=
  (aG (aO (aK cP (tC (V.int 2)) (aK bu (ak 3) (tC (V.int 3)))) (aA 4))
  (aG (aO (aK bu (aJ (sp_f3 K) [] E0 (aa (ak 0) (aa (tC (V.int 2)) au))) (tC (V.int 94))) (aA 5))
  (aG (aO jQ (aA 6))
  (aG (dO (iz (aa (ak 4) au)) (aA 7) (Di K))
  (bh (ak 6))))))
def zz (K:W.Frag) (E:XK) (Eh:XK):TS:=
  (aG (aO (aJ (fH K) [] E0 au) (aA 2))
  (aG (aO (aJ (sp_f3 K) [] E0 (aa (ak 0) (aa (tC (V.int 1)) au))) (aA 3))
  (Dj K)))
theorem Le (h:sp_f4 K vs H Q E): ∃Eh,zz K E Eh { nx:=λ _ H'=>Q .non H',rt:=Q } (start ["script","height","menu","cell","many","at","letters","k","number"] vs) H:=by
 let#[a,ns,D,rfl,hS,ac,q]:=h;refine#[E0,?_];unfold zz;symm;refine#[rfl,?_];symm;refine#[a,ns,1,rfl,hS,?_];let#[m,em,hm]:=Mm.cJ (Mm.cellAt ns 1) 3 (by decide);generalize Mm.cellAt ns 1=cl at em ⊢;replace em:cl%3=(m:Int):=em;let#[X,eX,hX]:=Mm.cJ (cl / 3) (m+2) ();symm;refine#[a,ns,2,rfl,hS,?_];symm;rw [em,show(2:Int)+((m:Nat):Int)=((m+2:Nat):Int) by rfl'];intro g ag;have af: ∀p'∈[g],H p'=none:=λ p' am=>by rw [Za.mp am];show ag
 symm;walk_at "ns";refine uC (m+2) (Yu _) () () (λ i σ H'=> ∃ (kvs:List Lw) (b:Int),kvs.length=i+(if X<i then 1 else 0)/\(kvs.map (·.1)).Nodup/\Sb [g] H H'/\H' g=some (.dK (gU kvs))/\(∀p∈kvs,p.1≠tx []->(∃x:Int,p.1=tx [Hs.gG x]/\b-2*(i:Int)<=x/\x<=b)/\GoodL H' D p)/\(i<=X->tx []∉kvs.map (·.1))/\(X<i-> ∃fs r v,(tx [],V.str fs,[])∈kvs/\(fs,v,[r])∈kvs/\fs≠tx [])/\ ∃o1 o2,σ=[some (.ref a),some (.int (D:Nat)),some (.str O2),some (.int cl),some (.int ((m+2:Nat):Int)),some (.int b),some (.ref g),o1,o2]) #[[],_,rfl,by simp,Sb.of (aD ag _),aj,by simp,by simp,by simp,none,none,rfl] ?_ ?_
 .rintro i σ H' hi ⟨kvs,b,u,G,sb,e,S,P,B,o1,o2,rfl⟩;symm;refine#[a,ns,3,rfl,sb.seq af hS,?_];symm;have n0:0<=(Mm.cellAt ns 3+7919*(i:Int)*(i:Int)+31*(i:Int))*48271%2147483647:=Xi _ (by decide);generalize (Mm.cellAt ns 3+7919*(i:Int)*(i:Int)+31*(i:Int))*48271%2147483647=num at n0;let#[w,ew,hw]:=Mm.cJ (num / 2) 3 ();replace ew:num / 2%3=(w:Int):=ew;rw [ew];refine#[num,1+w,D,by rw [show((1+w:Nat):Int)=1+(w:Int) by rfl'],(),ac,λ t H3 U s3 e3 an al=> ?_];symm;have hsz:O2.length=94:=by ac_nf
  have h0:0<=(b+1+num%2)%94:=Xi _ (by decide);have h1:(b+1+num%2)%94<94:=Xk _ (by decide);have O:oG Hs.qw.cps.toList ((b+1+num%2)%94)=some (Hs.gG (b+1+num%2)):=by
   have hl:Hs.qw.cps.toList.length=94:=by ac_nf
   rw [yw h0 ()];unfold Hs.gG;rw [Zz,Zc ()];rfl
  refine yF (c:=Hs.gG (b+1+num%2)) (by rw [hsz];decide) O ?_;have n2:num%2=0\/num%2=1:=()
  have l:tx [Hs.gG (b+1+num%2)]∉kvs.map (·.1):=λ j=>by
   let#[p,f,ep]:=Ze.mp j;have W:p.1=tx [Hs.gG (b+1+num%2)]:=ep;let#[#[x,ex,x1,x2],_]:=S p f (by rw [W];intro z;cases ir.mp z);have:=Hs.Dc (ù (ir.mp (ex.symm.trans W))).1;rfl'
  have I:tx [Hs.gG (b+1+num%2)]≠tx []:=λ z=>by cases ir.mp z
  have R:Hs.Sg (tx [Hs.gG (b+1+num%2)]):=#[_,rfl];let#[s,Y]: ∃s,s=tx [Hs.gG (b+1+num%2)]:=#[_,rfl];rw [<- Y] at l I R;have F:=s3.get e;have A:kvs.length<=5:=by rw [u];split<;>rfl'
  refine#[g,_,rfl,DPut.k (k:=Sum.inr (tx [Hs.gG (b+1+num%2)])) F (by unfold gU;rw [Qb];show Yg A (by decide)),?_];rw [<- Y,uT (.ref t) U l];have L: ∀ (v:V) (c:List Nat),((kvs++[(s,v,c)]).map (·.1)).Nodup:=λ v c=>by
   rw [Zb,Yl];show#[G,by simp,λ x mx y my ee=>l (by rw [<- show y=s by simpa using my,<- ee];show mx)]
  have gn:GoodL H3 D (s, .ref t,U):=#[R,by dsimp only;rfl',al,t,rfl,e3];have J: ∀ (v:V) (c:List Nat) (H4:Hp),(∀p∈kvs,p.1≠tx []->GoodL H4 D p)->GoodL H4 D (s,v,c)-> ∀p∈kvs++[(s,v,c)],p.1≠tx []->(∃x:Int,p.1=tx [Hs.gG x]/\(b+1+num%2)-2*((i+1:Nat):Int)<=x/\x<=b+1+num%2)/\GoodL H4 D p:=λ v c H4 g1 g2 p f n=>by
   rcases Zh.mp f with f | f
   .obtain ⟨⟨x,ex,x1,x2⟩,_⟩:=S p f n;show#[#[x,ex,(),()],g1 p f n]
   .rw [Za.mp f];show#[#[_,Y,(),Int.le_refl _],g2]
  symm;rw [show cl / 3%((m+2:Nat):Int)=(X:Int) from eX];have e4:upd H3 g (HO.dK (gU (kvs++[(s,V.ref t,U)]))) g=some (.dK (gU (kvs++[(s,V.ref t,U)]))):=aj;refine eQ (λ c=> ?_) λ c=> ?_
  .replace c:i=X:=()
   subst c;symm;refine#[num,1,D,rfl,(),ac,λ C T d s5 e5 ae ad=> ?_];symm;refine yF (c:=Hs.gG (b+1+num%2)) (by rw [hsz];decide) O ?_;have N:=s5.get e4;refine#[g,_,rfl,DPut.k (k:=Sum.inr (tx [Hs.gG (b+1+num%2)])) N (by unfold gU;rw [Qb,Zf];show Yg (Nat.add_le_add_right A 1) (by decide)),?_];rw [<- Y,w6 d l];have ai:GoodL T D (s, .ref C,d):=#[R,by dsimp only;rfl',ad,C,rfl,e5];have e6:upd T g (HO.dK (gU (kvs++[(s,V.ref C,d)]))) g=some (.dK (gU (kvs++[(s,V.ref C,d)]))):=aj;have gk: ∀p∈kvs,p.1≠tx []->GoodL (upd T g (HO.dK (gU (kvs++[(s,V.ref C,d)])))) D p:=λ p f n=>((((S p f n).2.same s3).put F).same s5).put N
   have Z:=ai.put (o:=HO.dK (gU (kvs++[(s,V.ref C,d)]))) N;have ah:Sb [g] H (upd T g (HO.dK (gU (kvs++[(s,V.ref C,d)])))):=((((sb.same s3).set (by simp)).same s5).set (by simp));generalize upd T g (HO.dK (gU (kvs++[(s,V.ref C,d)])))=H6 at e6 gk Z ah ⊢;symm;refine yF (c:=Hs.gG (b+1+num%2)) (by rw [hsz];decide) O ?_;symm;have M:tx []∉(kvs++[(s,V.ref C,d)]).map (·.1):=λ j=>by
    rw [Zb,Zh] at j;rcases j with j | j
    .exact P (Zo _) j
    .exact I (show tx []=s by simpa using j).symm
   refine#[g,_,rfl,DPut.k (k:=Sum.inr (tx [])) e6 (by unfold gU;rw [Qb,Zf];show Yg (Nat.add_le_add_right A 1) (by decide)),?_];rw [uT (.str #[([Hs.gG (b+1+num%2)].toArray)]) [] M];symm;let#[r,rfl]: ∃r,d=[r]:=by
    match d,ae with
    | [r],_=>show#[r,rfl]
   refine#[_,_,?_,?_,ah.set (by simp),aj,λ p f n=> ?_,λ z=>absurd z (),λ _=>#[s,r, .ref C,by rw [Y];show Yb _ Zp,by simp,I],_,_,rfl]
   .rw [Zf,Zf,u,if_neg (),if_pos ()];rfl
   .rw [Zb,Yl];show#[L _ _,by simp,λ x mx y my ee=>M (by rw [<- show y=tx [] by simpa using my,<- ee];show mx)]
   .rcases Zh.mp f with f | f
    .exact J (.ref C) [r] _ (λ p f n=>(gk p f n).put e6) (Z.put e6) p f n
    .rw [Za.mp f] at n;show absurd rfl n
  .replace c: ¬i=X:=λ z=>c ()
   symm;refine#[kvs++[(s, .ref t,U)],_,?_,L _ _,(sb.same s3).set (by simp),aj,J _ _ _ (λ p f n=>((S p f n).2.same s3).put F) (gn.put F),λ z j=> ?_,λ z=> ?_,_,_,rfl]
   .rw [Zf,u];by_cases c2:X<i
    .rw [if_pos c2,if_pos ()];rfl
    .rw [if_neg c2,if_neg ()];rfl
   .rw [Zb,Zh] at j;rcases j with j | j
    .exact P () j
    .exact I (show tx []=s by simpa using j).symm
   .obtain ⟨fs,r,v,h5,h6,h7⟩:=B ();show#[fs,r,v,Yw _ h5,Yw _ h6,h7]
 .rintro σ H' ⟨kvs,b,u,G,sb,e,S,P,B,o1,o2,rfl⟩;let#[fs,r,v,h5,h6,h7]:=B hX;rw [if_pos hX] at u;symm;show q g H' kvs fs r (sb.off af) e #[.inl e,G,h5,λ p f n=>(S p f n).2,#[v,h6],h7,(),zy G ()]
def DrF (H:Hp) (a:Addr) (ps:L1S):Prop:= ∃ (zs:List (Addr×Str×Int)) (ob:PySem.Obj),zs.map (·.2)=ps/\ob.dict=none/\H a=some (.frz ob (.tup (zs.map λ z=>V.ref z.1)))/\ ∀z∈zs,H z.1=some (.tup [.str z.2.1, .int z.2.2])
theorem DrF.same {b:L1S} (h:DrF H a b) (s:Same H H'):DrF H' a b:=by
 let#[zs,ob,e,f,c,d]:=h;show#[zs,ob,e,f,s.get c,λ z g=>s.get (d z g)]
theorem uV {q:Addr} {c:L1S} {o:HO} (h:DrF H a c) (e:H q=some (.lst ys)):DrF (upd H q o) a c:=by
 let#[zs,ob,d,g,b,f]:=h;show#[zs,ob,d,g,by rw [aC λ z=>by rw [z,e] at b;cases b];show b,λ z i=>nW (f z i) e]
def HsF (K:W.Frag) (H:Hp) (a:Addr) (ds:L2S) (es:List Int):Prop:= ∃ (d e:Addr) (rs:List (Addr×L1S)),H a=some (.tup [.ref d, .ref e])/\rs.map (·.2)=ds/\SqT K H d (rs.map λ r=>V.ref r.1)/\(∀r∈rs,DrF H r.1 r.2)/\H e=some (.tup (es.map V.int))
theorem HsF.same {K:W.Frag} {b:List Int} (h:HsF K H a ds b) (s:Same H H'):HsF K H' a ds b:=by
 let#[d,e,l,c,f,g,i,j]:=h;show#[d,e,l,s.get c,f,s.tup g,λ r k=>(i r k).same s,s.get j]
theorem tG {s:Str}: ∀ {zs:List (Addr×Str×Int)},dh (zs.map λ z:Addr×Str×Int=>((Sum.inr z.2.1:Key),V.int z.2.2)) (Sum.inr s)=(Hs.dr (zs.map (·.2)) s).map V.int
 | []=>rfl
 | z::zs=>by
  rw [Zn,Zn,Hs.jF];by_cases e:z.2.1=s
  .rw [if_pos e,fX (by rw [e])];rfl
  .rw [if_neg e,dZ (by intro q;show e (Â q)),tG]
theorem Hw (a:List Int):inV .non (a.map V.int)=false:=by
 unfold inV;rw [List.any_map];show List.any_eq_false.mpr λ x _=>by simp [wY]
inductive sp_f19 (K:W.Frag) (vs:List V) (H:Hp) (Q:VK) (E:XK):Prop
 | mk (a sg:Addr) (ns:List Int) (ss:List Str) (h0:vs=[.ref a, .ref sg]) (h1:SqL K H a (ns.map V.int)) (h2:SqL K H sg (ss.map V.str)) (h3:ss.Pairwise jC) (h4:ss.length<=10) (h5:(∀s∈ss,Hs.Sg s)) (h6: ∀r H' ds es,Same H H'->HsF K H' r ds es->GoodH ds es->ds.length<=3->(∀ps∈ds,∀p∈ps,p.1∈ss)->Q (.ref r) H'):sp_f19 K vs H Q E
abbrev zA (K:W.Frag):TS:=
  (aG (aO (aK bu (aK eF (ak 8) (tC (V.int 69621))) (tC (V.int 2147483629))) (aA 8))
  (bL (b7 (aK Dv (aK bu (ak 8) (tC (V.int 4))) (tC (V.int 1)))) (cD (qu K "list" bY (ak 6) (aa (dH (aa (aK (dU K) (ak 1) (ak 7)) (aa (aK bu (aK bV (ak 8) (tC (V.int 4))) (ak 3)) au))) au))) aW))
abbrev zB (K:W.Frag):TS:=
  (aG (dO (iz (aa (cz (cV K) (aa (ak 1) au)) au)) (aA 7) (aG (aO (aK cP (aK bV (ak 2) (tC (V.int 3))) (aK eF (aK eF (tC (V.int 7919)) (aK cP (aK cP (aK eF (ak 5) (tC (V.int 5))) (ak 7)) (tC (V.int 1)))) (aK cP (aK cP (ak 5) (ak 7)) (tC (V.int 2))))) (aA 8))
  (zA K)))
  (cD (qu K "list" bY (ak 4) (aa (cz (uw K) (aa (ak 6) au)) au))))
abbrev zE (K:W.Frag):TS:=
  (aG (aO (lu [none,some 2] (iz (aa (ak 3) au)) (aA 0) (b7 (aK qt (aK bu (aK Jl (aK bV (ak 1) (tC (V.int 3))) (ak 0)) (tC (V.int 2))) (tC (V.int 0)))) (ak 0)) (aA 9))
  (bh (dH (aa (cz (cI K) (aa (ak 4) au)) (aa (cz (cI K) (aa (ak 9) au)) au)))))
def tH (K:W.Frag) (E:XK) (Eh:XK):TS:=
  (aG (aO (aJ (sp_f3 K) [] E0 (aa (ak 0) (aa (tC (V.int 4)) au))) (aA 2))
  (aG (aO (aK cP (tC (V.int 1)) (aK bu (ak 2) (tC (V.int 3)))) (aA 3))
  (aG (aO (cC au) (aA 4))
  (aG (dO (iz (aa (ak 3) au)) (aA 5) (aG (aO (cC au) (aA 6))
  (zB K)))
  (zE K)))))
theorem Hx (h:sp_f19 K vs H Q E): ∃Eh,tH K E Eh { nx:=λ _ H'=>Q .non H',rt:=Q } (start ["script","signs","cell","many","doors","room","found","k","number","ends"] vs) H:=by
 let#[a,sg,ns,Y,rfl,hS,hG,al,ap,ai,q]:=h;refine#[E0,?_];unfold tH;symm;refine#[a,ns,4,rfl,hS,?_];let#[m,em,hm]:=Mm.cJ (Mm.cellAt ns 4) 3 (by decide);generalize Mm.cellAt ns 4=cl at em ⊢;replace em:cl%3=(m:Int):=em;symm;intro dr L;rw [em,show(1:Int)+((m:Nat):Int)=((m+1:Nat):Int) by rfl'];symm;walk_at "ns";refine uC (m+1) (Yu _) () () (λ i Z H'=>Sb [dr] H H'/\ ∃ (I:List (Addr×L1S)) (o5 o6 U W:Option V),H' dr=some (.lst (I.map λ t=>V.ref t.1))/\I.length=i/\(∀t∈I,DrF H' t.1 t.2/\(t.2.map (·.1)).Sublist Y/\ ∀q∈t.2,0<=q.2/\q.2<((m+1:Nat):Int))/\Z=[some (.ref a),some (.ref sg),some (.int cl),some (.int ((m+1:Nat):Int)),some (.ref dr),o5,o6,U,W,none]) #[Sb.of (aD L _),[],_,_,_,_,aj,rfl,by simp,rfl] ?_ ?_
 .rintro i Z H' hi ⟨sb,I,o5,o6,U,W,D,S,G,rfl⟩;symm;intro pl w;have ar:dr≠pl:=aP D w;have S0:Same H H':=sb.off λ p mp=>by rw [Za.mp mp];show L
  have ac:H pl=none:=S0.free w;have ag: ∀p∈[dr,pl],H p=none:=λ p mp=>by
   simp only [Zx,Xo,ċ] at mp;rcases mp with rfl | rfl
   .exact L
   .exact ac
  have an:=sb.new (o:=HO.lst []) w;symm;refine cM ((S0.new w).seq hG) ?_;rw [Qb];symm;walk_at "ns";refine uC Y.length (Yu _) () () (λ k Z H2=>Sb [dr,pl] H H2/\Same H' H2/\ ∃ (zs:List Dz) (U W:Option V),H2 pl=some (.lst (zs.map λ z:Dz=>V.ref z.1))/\(zs.map (·.2.1)).Sublist (Y.take k)/\(∀z∈zs,H2 z.1=some (.tup [.str z.2.1, .int z.2.2])/\0<=z.2.2/\z.2.2<((m+1:Nat):Int))/\Z=[some (.ref a),some (.ref sg),some (.int cl),some (.int ((m+1:Nat):Int)),some (.ref dr),some (.int (i:Nat)),some (.ref pl),U,W,none]) #[an.more (by simp),aD w _,[],_,_,aj,by simp,by simp,rfl] ?_ ?_
  .rintro k Z H2 hk ⟨O,X,zs,U,W,u,d,hz,rfl⟩;have S2:=O.off ag;let#[s,hs]: ∃s,Y[k]? =some s:=#[_,Zc ()];have af:Y.take (k+1)=Y.take k++[s]:=by rw [Yc,hs];rfl
   have am:zs.length<=k:=by
    have:=d.length_le;rw [Qb,Yp] at this;rfl'
   symm;generalize (cl / 3+7919*((i:Int)*5+(k:Int)+1)*((i:Int)+(k:Int)+2))*69621%2147483629=nb;refine iW (λ c=> ?_) λ c=> ?_
   .symm;refine dN (SqL.of u) ?_;symm;refine cQ (S2.seq hG) (bf (j:=k) (v:= .str s) (by rw [Zm,hs];rfl)) ?_;symm;intro t ht;symm;refine eU (aq ht u) (by rw [Qb];rfl') ?_;symm;have x0:=Xi (nb / 4) (show((m+1:Nat):Int)≠0 by rfl');have x1:=Xk (nb / 4) (show(0:Int)<((m+1:Nat):Int) by rfl');refine#[(O.new ht).set (by simp),λ b o e=> ?_,zs++[(t,s,nb / 4%((m+1:Nat):Int))],_,_,by rw [aj,Zb];rfl,by rw [Zb,af];show d.append (List.Sublist.refl _),λ z A=> ?_,rfl]
    .rw [aC λ z=>by rw [z,w] at e;cases e];show(X.new ht) b o e
    .rcases Zh.mp A with A | A
     .exact #[nW (aq ht (hz z A).1) (aq ht u),(hz z A).2]
     .rw [Za.mp A];show#[nW aj (aq ht u),x0,x1]
   .symm;show#[O,X,zs,_,_,u,d.trans (List.take_sublist_take_left (ó k)),hz,rfl]
  .rintro Z H2 ⟨O,X,zs,U,W,u,d,hz,rfl⟩;rw [Yh] at d;have am:zs.length<=10:=by
    have:=d.length_le;rw [Qb] at this;rfl'
   symm;refine dN (SqL.of (X.get D)) ?_;symm;refine Gr (SqL.of u) λ l ob ah hl=> ?_
   have s3:=aD (o:=HO.frz ob (.tup (zs.map λ z:Dz=>V.ref z.1))) hl;have hD:DrF (upd H2 l (HO.frz ob (.tup (zs.map λ z:Dz=>V.ref z.1)))) l (zs.map (·.2)):=#[zs,ob,rfl,ah,aj,λ z m=>s3.get (hz z m).1];generalize upd H2 l (HO.frz ob (.tup (zs.map λ z:Dz=>V.ref z.1)))=H3 at s3 hD ⊢;symm;have F:=s3.get (X.get D);refine eU F (by rw [Qb];rfl') ?_;symm;refine#[λ b o n e=> ?_,I++[(l,zs.map (·.2))],_,_,_,_,by rw [aj,Zb];rfl,by rw [Zf,Yf,S],λ t J=> ?_,rfl]
   .rw [aC λ z=>n (by rw [z];simp)];show s3 b o (X b o (S0 b o e))
   .rcases Zh.mp J with J | J
    .exact #[uV (((G t J).1.same X).same s3) F,(G t J).2]
    .rw [Za.mp J];refine#[uV hD F,by rw [Zj];show d,λ q mq=> ?_];let#[z,A,rfl]:=Ze.mp mq;show(hz z A).2
 .rintro Z H' ⟨sb,I,o5,o6,U,W,D,S,G,rfl⟩;have S0:Same H H':=sb.off λ p mp=>by rw [Za.mp mp];show L
  symm;refine Gh (m+1) (Yu _) () () (λ i ys H2=>H2=H'/\ ∃B:List Int,ys=B.map V.int/\B.length<=i/\B.Pairwise (· < ·)/\ ∀e∈B,0<=e/\e<(i:Int)) #[rfl,[],rfl,by simp,by simp,by simp] ?_ ?_ ?_
  .rintro i ys H2 ⟨_,B,rfl,h,_⟩;rw [Qb];show h
  .rintro i ys H2 hi ⟨rfl,B,rfl,hl,M,hr⟩;symm;refine eQ (λ c=> ?_) λ c=> ?_
   .symm;refine#[rfl,B++[(i:Int)],by rw [Zb];rfl,by rw [Zf,Yf];rfl',?_,λ e N=> ?_]
    .rw [List.pairwise_append];show#[M,by simp,λ x mx y my=>by rw [Za.mp my];show(hr x mx).2]
    .rcases Zh.mp N with N | N
     .have:=hr e N;rfl'
     .rw [Za.mp N];rfl'
   .exact #[rfl,B,rfl,(),M,λ e N=>by have:=hr e N;rfl']
  rintro ys H2 ⟨rfl,B,rfl,hl,M,hr⟩ p hp;symm;refine fG (SqL.of (aq hp D)) λ td ad=> ?_
  symm;refine fG (SqL.of (aq ad aj)) λ te ae=> ?_
  symm;intro r R;have T:=(((aD (o:=HO.lst (B.map V.int)) hp).new (o:=HO.tup (I.map λ t=>V.ref t.1)) ad).new (o:=HO.tup (B.map V.int)) ae).new (o:=HO.tup [V.ref td,V.ref te]) R;have P:(I.map (·.2)).length=m+1:=by rw [Qb];show S
  have g: ∀C∈I.map (·.2),(C.map (·.1)).Sublist Y/\ ∀q∈C,0<=q.2/\q.2<((m+1:Nat):Int):=λ C f=>by
   let#[t,J,rfl]:=Ze.mp f;show(G t J).2
  refine q r _ (I.map (·.2)) B (S0.trans T) #[td,te,I,aj,rfl,SqT.of (aq R (aq ae aj)),λ t J=>(G t J).1.same T,aq R aj] #[(),(),λ C f=>al.sublist (g C f).1,λ C f=> ?_,λ C f z A=>#[ai _ ((g C f).1.subset (Ze.mpr #[z,A,rfl])),?_],M,(),λ e N=> ?_] () λ C f z A=>(g C f).1.subset (Ze.mpr #[z,A,rfl])
  .have:=(g C f).1.length_le;rw [Qb] at this;rfl'
  .rw [P];show(g C f).2 z A
  .rw [P];show hr e N
inductive sp_f12 (K:W.Frag) (vs:List V) (H:Hp) (Q:VK) (E:XK):Prop
 | mk (a:Addr) (ds:L2S) (es:List Int) (cs:List Nat) (h0:vs=[.ref a, .str (tx cs)]) (h1:HsF K H a ds es) (h2:Hs.Wf ds) (h3:(∀ps∈ds,(ps.map (·.1)).Nodup/\ps.length<=100)) (h4: ∀H',Same H H'->Q (.bl (inV (ov (Hs.go ds cs)) (es.map V.int))) H'):sp_f12 K vs H Q E
abbrev zF (K:W.Frag):TS:=
  (aG (dO (jU (ak 1)) (aA 3) (aG (aO (cz (jE K) (aa (aK (cF K) (aK (cF K) (ak 0) (tC (V.int 0))) (ak 2)) au)) (aA 4))
  (aG (bL (tB (dM (ak 3) (ak 4))) (bh (tC (V.bl false))) aW)
  (aO (fL (ak 4) (ak 3)) (aA 2)))))
  (bh (aK (Be K false) (ak 2) (aK (cF K) (ak 0) (tC (V.int 1))))))
def tK (K:W.Frag) (E:XK) (Eh:XK):TS:=
  (aG (aO (tC (V.int 0)) (aA 2))
  (zF K))
theorem Hy (h:sp_f12 K vs H Q E): ∃P,tK K E P { nx:=λ _ H'=>Q .non H',rt:=Q } (start ["house","text","room","sign","doors"] vs) H:=by
 let#[a,ds,J,b,rfl,X,hw,x,q]:=h;refine#[E0,?_];unfold tK;let#[d,e,O,M,n,T,U,W]:=X;symm;refine uE (λ i I H'=>Same H H'/\ ∃r D F,Hs.go ds (b.take i)=some r/\I=[some (.ref a),some (.str (tx b)),some (.int r),D,F]) #[Same.refl _,0,_,_,rfl,rfl] ?_ ?_
 .rintro i c I H' Y ⟨s,r,D,F,l,rfl⟩;have w:b[i]? =some c:=by simpa [tx] using Y
  have R:b.take (i+1)=b.take i++[c]:=by rw [Yc,w];rfl
  let#[g0,S]:=Hs.yO hw l;let#[j,rfl]: ∃j:Nat,r=(j:Int):=#[r.toNat,()];have A:j<O.length:=by rw [<- n,Qb] at S;rfl'
  let#[g,f]: ∃g,O[j]? =some g:=#[_,Zc A];have C:=Zg f;have t:ds[j]? =some g.2:=by rw [<- n,Zm,f];rfl
  have step:Hs.go ds (b.take (i+1))=Hs.dr g.2 (tx [c]):=by
   rw [R,Hs.jG,l];change Hs.dr (ds.getD ((j:Int)).toNat []) _=_;rw [Yu,Zz,t];rfl
  let#[zs,ob,u,B,z1,z2]:=U g C;let#[N,Z]:=x g.2 (Zg t);rw [<- u,Zj] at N;rw [<- u,Qb] at Z;symm;refine lE (s.get M) ?_;symm;refine gQ (s.tup T) (bf (j:=j) (v:= .ref g.1) (by rw [Zm,f];rfl)) ?_;symm;refine yS (zs:=zs.map λ z=>(z.1,z.2.1,V.int z.2.2)) B (by rw [Zj];show s.get z1) (λ z m=> ?_) (by rw [Zj];show N) (by rw [Qb];rfl') λ p hp=> ?_
  .obtain ⟨y,my,rfl⟩:=Ze.mp m;show SqT.of (s.get (z2 y my))
  rw [Zj];have ep:upd H' p (HO.dK (zs.map ((λ z:Addr×Str×V=>((Sum.inr z.2.1:Key),z.2.2))∘λ z:Addr×Str×Int=>(z.1,z.2.1,V.int z.2.2)))) p=some (.dK (zs.map λ z:Addr×Str×Int=>((Sum.inr z.2.1:Key),V.int z.2.2))):=aj;have G:=s.new (o:=HO.dK (zs.map ((λ z:Addr×Str×V=>((Sum.inr z.2.1:Key),z.2.2))∘λ z:Addr×Str×Int=>(z.1,z.2.1,V.int z.2.2)))) hp;generalize upd H' p (HO.dK (zs.map ((λ z:Addr×Str×V=>((Sum.inr z.2.1:Key),z.2.2))∘λ z:Addr×Str×Int=>(z.1,z.2.1,V.int z.2.2))))=H2 at ep G ⊢;symm;refine#[p,_,rfl,DGet.k (k:=Sum.inr (tx [c])) ep,?_];rw [tG,u,<- step]
  cases hg:Hs.go ds (b.take (i+1)) with
  | none=>
   symm;change if (!false)=true then _ else _
   symm;have L:=Hs.uL (ys:=b.drop (i+1)) hg;rw [Wy] at L;have:=q _ G;rw [L,show inV (ov none) (J.map V.int)=false from Hw J] at this;show this
  | some r2=>
   symm;change if (!true)=true then _ else _
   symm;refine#[p, .int r2,rfl,?_,?_]
   .have:=DGet.k (k:=Sum.inr (tx [c])) ep;rw [tG,u,<- step,hg] at this;show this
   symm;show#[G,r2,_,_,rfl,rfl]
 .rintro I H' ⟨s,r,D,F,l,rfl⟩;have hz:(tx b).cps.size=b.length:=by simp [tx]
  rw [hz,Yh] at l;symm;refine Gw (s.get M) ?_;symm;refine KD (.inr (SqT.of (s.get W))) rfl (pY _) ?_;have:=q _ s;rw [l] at this;show this
def IV (rows:List (List Nat)):Prop:= ∀cs∈rows,cs.length<=8/\ ∀c∈cs,c<1114112
inductive sp_f24 (K:W.Frag) (vs:List V) (H:Hp) (Q:VK) (E:XK):Prop
 | mk (ha sg ce:Addr) (ds:L2S) (es:List Int) (ss:List Str) (ns:List Int) (way:Int) (h0:vs=[.ref ha, .ref sg, .ref ce, .int way]) (h1:HsF K H ha ds es) (h2:Hs.Wf ds) (h3:(∀ps∈ds,(ps.map (·.1)).Nodup/\ps.length<=100)) (h4:SqL K H sg (ss.map V.str)) (h5:0<ss.length) (h6:ss.length<=100) (h7:(∀s∈ss,Hs.Sg s)) (h8:SqL K H ce (ns.map V.int)) (h9:ns.length<=500) (h10: ∀r H' (rows:List (List Nat)),Same H H'->H' r=some (.lst (rows.map λ cs=>V.str (tx cs)))->rows.length<=501->IV rows->Q (.ref r) H'):sp_f24 K vs H Q E
abbrev zG (K:W.Frag):TS:=
  (aG (bL (J4 (b7 (aK qt (aK bu (ak 5) (tC (V.int 7))) (tC (V.int 0)))) (b7 (aK qt (cz (cV K) (aa (aK (dU K) (ak 4) (Et pG (tC (V.int 1)))) au)) (tC (V.int 8))))) (cD (qu K "list" bY (ak 4) (aa (tC (V.str (Str.ofString ""))) au))) aW)
  (aO (aK dw (aK (dU K) (ak 4) (Et pG (tC (V.int 1)))) (aK (dU K) (ak 1) (aK bu (aK bu (aK eF (ak 5) (tC (V.int 69621))) (tC (V.int 2147483629))) (cz (cV K) (aa (ak 1) au))))) (Bo (ak 4) (Et pG (tC (V.int 1))) ph)))
abbrev zH (K:W.Frag):TS:=
  (aG (aO (lu [none,some 0,some 7] (iz (aa (aK cP (cz (cV K) (aa (ak 7) au)) (tC (V.int 1))) au)) (aA 0) (ie K (aJ (sp_f12 K) [] E0 (aa (ak 1) (aa (Fd vO (ak 2) gr (ji (ak 0))) au)))) (ak 0)) (aA 8))
  (bL (b7 (aK (rNeD K) (ak 8) (cC au))) (cD (qu K "list" bY (ak 6) (aa (Fd vO (ak 7) gr (ji (aK (dU K) (ak 8) (Et pG (tC (V.int 1)))))) au))) aW))
def tL (K:W.Frag) (E:XK) (Eh:XK):TS:=
  (aG (aO (cC (aa (tC (V.str (Str.ofString ""))) au)) (aA 4))
  (aG (dO (cO K (ak 2)) (aA 5) (zG K))
  (aG (bL (b7 (aK qt (aK bu (ak 3) (tC (V.int 2))) (tC (V.int 0)))) (bh (ak 4)) aW)
  (aG (aO (cC au) (aA 6))
  (aG (dO (cO K (ak 4)) (aA 7) (zH K))
  (bh (ak 6)))))))
theorem Hz (h:sp_f24 K vs H Q E): ∃Eh,tL K E Eh { nx:=λ _ H'=>Q .non H',rt:=Q } (start ["house","signs","cells","way","rows","cell","found","row","taken"] vs) H:=by
 let#[T,sg,W,ds,es,ss,ns,C,rfl,hH,hw,af,hG,an,a2,am,hN,a1,q]:=h;refine#[E0,?_];unfold tL;symm;intro b B;have F: ∀p'∈[b],H p'=none:=λ p' O=>by rw [Za.mp O];show B
 symm;walk_at "ns";refine jq V.int (zs:=ns) (gC B hN) (λ i I H'=>Sb [b] H H'/\ ∃ (rows:List (List Nat)) (l:List Nat) (o5:Option V),H' b=some (.lst ((rows++[l]).map λ a=>V.str (tx a)))/\rows.length<=i/\IV (rows++[l])/\I=[some (.ref T),some (.ref sg),some (.ref W),some (.int C),some (.ref b),o5,none,none,none]) #[Sb.of (aD B _),[],[],_,aj,by simp,by intro a m;rw [show a=[] by simpa using m];simp,rfl] ?_ ?_ ?_
 .rintro i I H' ⟨S,_⟩;show(S.off F).seq hN
 .rintro i n I H' hi ⟨S,rows,l,o5,erw,al,p,rfl⟩;have U:=S.off F;let#[a4,a3]:=p l (by simp);walk_at "gj";with_reducible refine yK (λ σ' H2=>Sb [b] H H2/\ ∃ (rows:List (List Nat)) (l:List Nat),H2 b=some (.lst ((rows++[l]).map λ a=>V.str (tx a)))/\rows.length<=i+1/\l.length<=7/\IV (rows++[l])/\σ'=[some (.ref T),some (.ref sg),some (.ref W),some (.int C),some (.ref b),some (.int n),none,none,none]) ?_ ?_
  .rintro σ' H2 ⟨d,e,r,J,A,ar,L,rfl⟩;have S2:=d.off F;let#[_,ac]:=L r (by simp);symm;refine cQ (SqL.of J) (v:= .str (tx r)) (by rw [Zb];show iB _ _) ?_;symm;refine cM (S2.seq hG) ?_;rw [Qb];symm;let#[j,ej,hj]:=Mm.cJ (n*69621%2147483629) ss.length an;rw [ej];let#[s,X]: ∃s,ss[j]? =some s:=#[_,Zc hj];let#[m,em]:=am s (Zg X);refine cQ (S2.seq hG) (bf (j:=j) (v:= .str s) (by rw [Zm,X];rfl)) ?_;subst em;symm;refine kJ (by rw [bK,bK];simp;rfl') ?_;symm;refine De J (by simp) ?_;symm;have Y:(List.map (λ a=>V.str (tx a)) (e++[r])).set ((List.map (λ a=>V.str (tx a)) (e++[r])).length-1) (V.str (tx r++tx [Hs.gG m]))=List.map (λ a=>V.str (tx a)) (e++[r++[Hs.gG m]]):=by
    rw [Zb,Zb,Zf,Qb,List.set_append_right _ _ (by rw [Qb];simp),Qb];simp [nP]
   rw [Y];refine#[d.set (by simp),e,r++[Hs.gG m],_,aj,A,λ a u=> ?_,rfl];rcases Zh.mp u with u | u
   .exact L a (Yw _ u)
   .rw [Za.mp u];refine#[by rw [Zf,Yf];rfl',λ c u=> ?_];rcases Zh.mp u with u | u
    .exact ac c u
    .rw [Za.mp u];show Hs.yP m
  .have ax:i<ns.length:=(Zv.mp hi).1;have app: ∀σ',σ'=[some (V.ref T),some (V.ref sg),some (V.ref W),some (.int C),some (.ref b),some (.int n),none,none,none]->Sb [b] H (upd H' b (.lst ((rows++[l]).map (λ a=>V.str (tx a))++[V.str (tx [])])))/\ ∃ (t:List (List Nat)) (R:List Nat),(upd H' b (.lst ((rows++[l]).map (λ a=>V.str (tx a))++[V.str (tx [])]))) b=some (.lst ((t++[R]).map λ a=>V.str (tx a)))/\t.length<=i+1/\R.length<=7/\IV (t++[R])/\σ'=[some (.ref T),some (.ref sg),some (.ref W),some (.int C),some (.ref b),some (.int n),none,none,none]:=λ σ' ad=>
    ⟨S.set (by simp),rows++[l],[],by rw [aj,Zb (l₁:=rows++[l])];rfl,by rw [Zf,Yf];rfl',by simp,λ a m=>by
     rcases Zh.mp m with m | m
     .exact p a m
     .rw [Za.mp m];simp,ad⟩
   have av:(List.map (λ a=>V.str (tx a)) (rows++[l])).length<=1000:=by rw [Qb,Zf,Yf];rfl'
   intro N kN;symm;refine eQ (λ c=> ?_) λ c=> ?_
   .symm;refine dN (SqL.of erw) ?_;symm;refine eU erw () ?_;symm;show kN _ _ (app _ rfl)
   .symm;refine cQ (SqL.of erw) (v:= .str (tx l)) (by rw [Zb];show iB _ _) ?_;symm;refine rT (by rw [bK];rfl') ?_;rw [bK];symm;refine eQ (λ c2=> ?_) λ c2=> ?_
    .symm;refine dN (SqL.of erw) ?_;symm;refine eU erw () ?_;symm;show kN _ _ (app _ rfl)
    .symm;show kN _ _ #[S,rows,l,erw,(),(),p,rfl]
 .rintro I H' ⟨S,rows,l,o5,erw,al,p,rfl⟩;have U:=S.off F;generalize hrs:rows++[l]=rws at erw p;have A:rws.length<=501:=by rw [<- hrs,Zf,Yf];rfl'
  clear hrs;symm;refine eQ (λ c=> ?_) λ c=> ?_
  .symm;show q b _ rws U erw A p
  symm;intro f hf;have S1:=U.new (o:=HO.lst []) hf;have y: ∀p'∈[f],H' p'=none:=λ p' O=>by rw [Za.mp O];show hf
  symm;walk_at "ns";refine jq (λ a:List Nat=>V.str (tx a)) (zs:=rws) (SqL.of (aq hf erw)) (λ i I H2=>Sb [f] H' H2/\ ∃ (fs:List (List Nat)) (o7 o8:Option V),H2 f=some (.lst (fs.map λ a=>V.str (tx a)))/\fs.length<=i/\IV fs/\I=[some (.ref T),some (.ref sg),some (.ref W),some (.int C),some (.ref b),o5,some (.ref f),o7,o8]) #[Sb.of (aD hf _),[],_,_,aj,by simp,λ a m=>absurd m Xo,rfl] ?_ ?_ ?_
  .rintro i I H2 ⟨d,_⟩;show(d.off y).seq (SqL.of erw)
  .rintro i a I H2 hi ⟨d,fs,o7,o8,ef,ag,D,rfl⟩;have S2:=U.trans (d.off y);let#[aw,ae]:=p a (Zg hi);have ay:i<rws.length:=(Zv.mp hi).1;symm;refine rT (by rw [bK];rfl') ?_;rw [bK];symm;rw [show((a.length:Int)+1)=((a.length+1:Nat):Int) by rfl'];refine Gh (a.length+1) (Yu _) () () (λ k ys H3=>Same H2 H3/\ ∃g:List Nat,ys=g.map (λ n:Nat=>V.int (n:Int))/\g.length<=k/\ ∀x∈g,x<k) #[Same.refl _,[],rfl,by simp,by simp] ?_ ?_ ?_
   .rintro k ys H3 ⟨_,g,rfl,h,_⟩;rw [Qb];show h
   .rintro k ys H3 hk ⟨s3,g,rfl,ah,G⟩;symm;refine uH (by rw [bK];rfl') ?_;rw [uF ()];symm;refine#[T,ds,es,a.take k,rfl,hH.same (S2.trans s3),hw,af,λ H4 s4=> ?_];symm
    cases inV (ov (Hs.go ds (a.take k))) (es.map V.int) with
    | true=>
     symm;refine#[s3.trans s4,g++[k],by rw [Zb];rfl,by rw [Zf,Yf];rfl',λ x w=> ?_];rcases Zh.mp w with w | w
     .have:=G x w;rfl'
     .rw [Za.mp w];rfl'
    | false=>
     symm;show#[s3.trans s4,g,rfl,(),λ x w=>by have:=G x w;rfl']
   rintro ys H3 ⟨s3,g,rfl,ah,G⟩ p3 ai;have S3:=(s3.new (o:=HO.lst (g.map λ n:Nat=>V.int (n:Int))) ai);symm;intro p4 P;refine rNeD.ints (ns:=g.map λ n:Nat=>(n:Int)) (ms:=[]) (SqL.of (by rw [<- uB];show aq P aj)) (SqL.of aj) ?_;have S4:=S3.new (o:=HO.lst []) P;have e4:upd (upd H3 p3 (HO.lst (g.map λ n:Nat=>V.int (n:Int)))) p4 (HO.lst []) p3=some (.lst (g.map λ n:Nat=>V.int (n:Int))):=aq P aj;generalize upd (upd H3 p3 (HO.lst (g.map λ n:Nat=>V.int (n:Int)))) p4 (HO.lst [])=H4 at S4 e4 ⊢;have M:=S4.get ef;symm;refine iW (λ c2=> ?_) λ c2=> ?_
   .obtain ⟨k0,kl,rfl⟩: ∃k0 kl,g=k0++[kl]:=by
     have Z:g≠[]:=λ z=>c2 (by rw [z];rfl)
     show#[g.dropLast,g.getLast Z,(List.dropLast_concat_getLast Z).symm]
    have ap:=G kl (by simp);symm;refine dN (SqL.of M) ?_;symm;refine cQ (SqL.of e4) (v:= .int (kl:Nat)) (by rw [Zb];show iB _ _) ?_;symm;refine uH (by rw [bK];rfl') ?_;rw [uF ()];symm;refine eU M (by rw [Qb];rfl') ?_;symm;refine#[(d.same S4).set (by simp),fs++[a.take kl],_,_,by rw [aj,Zb];rfl,by rw [Zf,Yf];rfl',λ x w=> ?_,rfl];rcases Zh.mp w with w | w
    .exact D x w
    .rw [Za.mp w];show#[Nat.le_trans (List.length_take_le _ _) (),λ c u=>ae c (ç u)]
   .symm;show#[d.same S4,fs,_,_,M,(),D,rfl]
  .rintro I H2 ⟨d,fs,o7,o8,ef,ag,D,rfl⟩;symm;show q f _ fs (U.trans (d.off y)) ef () D
inductive sp_f26 (K:W.Frag) (vs:List V) (H:Hp) (Q:VK) (E:XK):Prop
 | mk (d:Addr) (ht:Nat) (kvs:List Lw) (fs:Str) (c0:Nat) (ls:List (Str×List Nat)) (cs:List Nat) (h0:vs=[.ref d, .str (tx cs)]) (h1:LtT H d ht kvs fs c0) (h2:Bg kvs ls) (h3:cs.length<=1000) (h4: ∀H',Same H H'->Q (.int ((Fo.fM ls cs).length:Nat)) H'):sp_f26 K vs H Q E
def tM (K:W.Frag) (E:XK) (Eh:XK):TS:=
  (bh (cz (Fw K) (aa (lu [none,some 0] (jU (ak 1)) (aA 0) jc (cz (cV K) (aa (qR (ak 1) (ak 0) (dH au)) au))) au)))
theorem HB (h:sp_f26 K vs H Q E): ∃w,tM K E w { nx:=λ _ H'=>Q .non H',rt:=Q } (start ["letters","row"] vs) H:=by
 let#[d,G,kvs,fs,D,ls,g,rfl,B,t,F,q]:=h;refine#[E0,?_];unfold tM;symm;refine NZ () (λ i ys H'=>Same H H'/\ ∃ns:List Nat,ys=ns.map (λ n:Nat=>V.int (n:Int))/\ns.length=i/\ns.sum=(Fo.fM ls (g.take i)).length) #[Same.refl _,[],rfl,rfl,rfl] ?_ ?_ ?_
 .rintro i ys H' ⟨_,ns,rfl,h,_⟩;rw [Qb];rfl'
 .intro i c ys H' C h;let#[s,ns,rfl,f,b]:=h;symm;have j:=B.same s;refine#[d,rfl, .inl #[_,j.d],?_];symm;intro p l;have m:g[i]? =some c:=by simpa [tx] using C
  have x:g.take (i+1)=g.take i++[c]:=by rw [Yc,m];rfl
  have u:Fo.fM ls (g.take (i+1))=Fo.fM ls (g.take i)++Fo.cl ls c:=by rw [x,Fo.uN];simp [Fo.fM]
  have k:=j.same (aD (o:=HO.tup []) l);have v:=s.new (o:=HO.tup []) l
  cases e:Fo.lk ls (tx [c]) with
  | none=>
   refine#[none,k.no t (λ z=>by cases ir.mp z) e,?_];symm;refine il (SqT.of aj) ?_;refine#[v,ns++[0],by rw [Zb];rfl,by rw [Zf,f];rfl,?_];rw [u,List.sum_append,b,Zf];unfold Fo.cl;rw [e];rfl
  | some co=>
   let#[r,y,A]:=k.get t e;refine#[_,y,?_];symm;refine il (SqT.of A) ?_;refine#[v,ns++[co.length],by rw [Zb,Qb];rfl,by rw [Zf,f];rfl,?_];rw [u,List.sum_append,b,Zf];unfold Fo.cl;rw [e];simp
 .rintro ys H' ⟨s,ns,rfl,f,b⟩ p l;symm;refine Kq (ns:=ns.map λ n:Nat=>(n:Int)) (SqL.of (by rw [Zj];show aj)) ?_;rw [Yh] at b;have:=q _ (s.new (o:=HO.lst (ns.map λ n:Nat=>V.int (n:Int))) l);rw [<- b] at this;rw [show(ns.map λ n:Nat=>(n:Int)).sum=((ns.sum:Nat):Int) by clear f b this;induction ns with
   | nil=>rfl
   | cons a r ih=>simp [ih]]
  show this
def jr (i:Nat):List V:=(List.range 7).map λ k:Nat=>V.bl (decide ((k:Int)=(i:Int)))
inductive sp_f23 (K:W.Frag) (vs:List V) (H:Hp) (Q:VK) (E:XK):Prop
 | mk (i:Nat) (h0:vs=[.int (i:Nat)]) (h1: ∀r p H',Same H H'->H' r=some (.tup [.non, .ref p])->H' p=some (.lst (jr i))->Q (.ref r) H'):sp_f23 K vs H Q E
def tO (K:W.Frag) (E:XK) (Eh:XK):TS:=
  (bh (dH (aa (tC V.non) (aa (lu [none,some 0] (iz (aa (tC (V.int 7)) au)) (aA 0) jc (aK qt (ak 0) (ak 1))) au))))
theorem HD (h:sp_f23 K vs H Q E): ∃b,tO K E b { nx:=λ _ H'=>Q .non H',rt:=Q } (start ["at"] vs) H:=by
 let#[i,rfl,q]:=h;refine#[E0,?_];unfold tO;symm;refine Kg 7 rfl (by decide) (by decide) (λ k=>V.bl (decide ((k:Int)=(i:Int)))) ?_ λ p d=> ?_
 .intro k e A c;symm;show c
 symm;intro r a;show q r p _ ((aD d _).new a) aj (aq a aj)
def DuE (H:Hp) (t:Addr):Nat ⊕ List (List Nat)->Prop
 | .inl i=> ∃p,H t=some (.tup [.non, .ref p])/\H p=some (.lst (jr i))
 | .inr yss=> ∃ (r p:Addr) (zs:List (Addr×List Nat)),zs.map (·.2)=yss/\H t=some (.tup [.ref r, .ref p])/\H p=some (.lst [])/\H r=some (.lst (zs.map λ z=>V.ref z.1))/\ ∀z∈zs,H z.1=some (.lst (nv z.2))
inductive sp_f29 (K:W.Frag) (vs:List V) (H:Hp) (Q:VK) (E:XK):Prop
 | mk (d ha ra:Addr) (ht:Nat) (kvs:List Lw) (fs:Str) (c0:Nat) (ls:List (Str×List Nat)) (ds:L2S) (es:List Int) (rows:List (List Nat)) (wd:Nat) (h0:vs=[.ref d, .ref ha, .ref ra, .int (wd:Nat)]) (h1:LtT H d ht kvs fs c0) (h2:Bg kvs ls) (h3:Fo.Wf ht ls) (h4:HsF K H ha ds es) (h5:Hs.Wf ds) (h6:(∀ps∈ds,(ps.map (·.1)).Nodup/\ps.length<=100)) (h7:SqL K H ra (rows.map λ cs=>V.str (tx cs))) (h8:rows.length<=1000) (h9:(∀cs∈rows,cs.length<=1000/\ ∀c∈cs,c<1114112)) (h10:wd<=10000) (h11: ∀r H',Same H H'->DuE H' r (iu (cN ls ds es c0 wd) rows)->Q (.ref r) H'):sp_f29 K vs H Q E
abbrev zJ (K:W.Frag):TS:=
  (aG (bL (b7 (aK xN (cz (cV K) (aa (ak 6) au)) (ak 3))) (bh (aJ (sp_f23 K) [] E0 (aa (tC (V.int 2)) au))) aW)
  (aG (aO (cz (cH K) (aa (fL (ak 0) (fL (ak 0) (tC (V.str (Str.ofString ""))))) au)) (aA 8))
  (cD (qu K "list" bY (ak 4) (aa (aK j8 (ak 6) (aK Fi (ak 8) (aK lU (ak 3) (cz (cV K) (aa (ak 6) au))))) au)))))
abbrev zK (K:W.Frag):TS:=
  (aG (bL (iy (ie K (aJ (sp_f12 K) [] E0 (aa (ak 1) (aa (ak 5) au))))) (bh (aJ (sp_f23 K) [] E0 (aa (tC (V.int 1)) au))) aW)
  (aG (aO (cC au) (aA 6))
  (aG (dO (jU (ak 5)) (aA 7) (aO (aK j8 (ak 6) (cz (cH K) (aa (fL (ak 0) (ak 7)) au))) (aA 6)))
  (zJ K))))
abbrev zL (K:W.Frag):TS:=
  (aG (dO (cO K (ak 2)) (aA 5) (aG (bL (b7 (aK (rNeD K) (lu [none,some 0] (jU (ak 5)) (aA 0) (tB (dM (ak 0) (ak 1))) (ak 0)) (cC au))) (bh (aJ (sp_f23 K) [] E0 (aa (tC (V.int 0)) au))) aW)
  (zK K)))
  (bh (dH (aa (ak 4) (aa (cC au) au)))))
def tQ (K:W.Frag) (E:XK) (Eh:XK):TS:=
  (aG (aO (cC au) (aA 4))
  (zL K))
theorem HF (h:sp_f29 K vs H Q E): ∃Eh,tQ K E Eh { nx:=λ _ H'=>Q .non H',rt:=Q } (start ["letters","house","rows","wide","due","row","strip","sign","blank"] vs) H:=by
 let#[d,ha,ra,ht,kvs,fs,b,ls,ds,G,rows,f,rfl,hL,hk,wf,hH,hw,ar,hR,a2,ay,a3,qd]:=h;have qe: ∀i,iu (cN ls ds G b f) rows= .inl i-> ∀r p H',Same H H'->H' r=some (.tup [.non, .ref p])->H' p=some (.lst (jr i))->Q (.ref r) H':=λ i e r p H' s h1 h2=>qd r H' s (by rw [e];show#[p,h1,h2])
 have q: ∀zs:List (Addr×List Nat),iu (cN ls ds G b f) rows= .inr (zs.map (·.2))-> ∀r p t H',Same H H'->H' t=some (.tup [.ref r, .ref p])->H' p=some (.lst [])->H' r=some (.lst (zs.map λ z=>V.ref z.1))->(∀z∈zs,H' z.1=some (.lst (nv z.2)))->Q (.ref t) H':=λ zs e r p t H' s h1 h2 h3 h4=>qd t H' s (by rw [e];show#[r,p,zs,rfl,h1,h2,h3,h4])
 clear qd;refine#[E0,?_];unfold tQ;symm;intro F P;have R: ∀p'∈[F],H p'=none:=λ p' aw=>by rw [Za.mp aw];show P
 symm;walk_at "ns";refine jq (λ a:List Nat=>V.str (tx a)) (zs:=rows) (gC P hR) (λ i J H'=>Sb [F] H H'/\ ∃ (zs:List (Addr×List Nat)) (o5 o6 U o8:Option V),H' F=some (.lst (zs.map λ z=>V.ref z.1))/\zs.length=i/\iu (cN ls ds G b f) (rows.take i)= .inr (zs.map (·.2))/\(∀z∈zs,H' z.1=some (.lst (nv z.2))/\z.1≠F)/\J=[some (.ref d),some (.ref ha),some (.ref ra),some (.int (f:Nat)),some (.ref F),o5,o6,U,o8]) #[Sb.of (aD P _),[],_,_,_,_,aj,rfl,rfl,by simp,rfl] ?_ ?_ ?_
 .rintro i J H' ⟨W,_⟩;show(W.off R).seq hR
 .rintro i a J H' hi ⟨W,zs,o5,o6,U,o8,O,al,y,hz,rfl⟩;have S0:=W.off R;let#[a1,an]:=ay a (Zg hi);let#[av,ei]:=Zv.mp hi;have am:rows=rows.take i++a::rows.drop (i+1):=by
   rw [<- ei,<- Wa av,Wy]
  have w: ∀j,cN ls ds G b f a= .inl j->iu (cN ls ds G b f) rows= .inl j:=λ j e=>by
   rw [am];show kZ e y
  have ae:=hL.same S0;symm;have ap:(tx a).cps.size=a.length:=by simp [tx]
  refine DY () (λ c=>if (Fo.lk ls (tx [c])).isNone=true then some (V.str (tx [c])) else none) (λ j c hc A B kA kB=> ?_) λ p3 ai=> ?_
  .symm
   cases e:Fo.lk ls (tx [c]) with
   | none=>
    refine#[d,none,rfl,ae.no hk (λ z=>by cases ir.mp z) e,?_];symm;change if (!false)=true then _ else _
    symm;show kA _ (by rw [e];rfl)
   | some M=>
    let#[r,g1,_]:=ae.get hk e;refine#[d,_,rfl,g1,?_];symm;change if (!true)=true then _ else _
    symm;show kB (by rw [e];rfl)
  rw [nQ,nZ];symm;intro p4 S;refine rNeD.nil (Dp.txs (SqL.of (aq S aj))) (nR λ l ml c mc=> ?_) (by decide) (SqL.of aj) ?_
  .obtain ⟨x,mx,rfl⟩:=Ze.mp ml;rw [Za.mp mc];show an x (Xh.mp mx).1
  have s4:Same H' (upd (upd H' p3 (HO.lst (List.map (λ l=>V.str (tx l)) (List.map (λ c=>[c]) (List.filter (λ c=>(Fo.lk ls (tx [c])).isNone) a))))) p4 (HO.lst [])):=(aD ai _).new S;generalize upd (upd H' p3 (HO.lst (List.map (λ l=>V.str (tx l)) (List.map (λ c=>[c]) (List.filter (λ c=>(Fo.lk ls (tx [c])).isNone) a))))) p4 (HO.lst [])=H1 at s4 ⊢;clear ai S;have S1:=S0.trans s4;by_cases L:a.any (λ c=>(Fo.lk ls (tx [c])).isNone)=true
  .rw [Yj (by
    let#[x,mx,ex]:=Xs.mp L;intro z;have:x∈List.filter (λ c=>(Fo.lk ls (tx [c])).isNone) a:=Xh.mpr #[mx,ex];rw [Wn.mp (Wn.mp (Wn.mp z))] at this
    cases this)]
   symm;refine#[0,rfl,λ r p H2 s2 Y Z=> ?_];symm;show qe 0 (w 0 (by unfold cN;rw [if_pos L])) r p _ (S1.trans s2) Y Z
  have ag: ∀c∈a,∃M,Fo.lk ls (tx [c])=some M:=λ c mc=>by
   cases e:Fo.lk ls (tx [c]) with
   | none=>show absurd (Xs.mpr #[c,mc,by rw [e];rfl]) L
   | some M=>show#[M,rfl]
  rw [Yi (by
    rw [List.filter_eq_nil_iff.mpr λ c mc z=>L (Xs.mpr #[c,mc,z])];rfl)]
  symm;refine#[ha,ds,G,a,rfl,hH.same S1,hw,ar,λ H2 s2=> ?_];have S2:=S1.trans s2;symm;by_cases X:inV (ov (Hs.go ds a)) (G.map V.int)=false
  .rw [X];symm;refine#[1,rfl,λ r p H3 I Y Z=> ?_];symm;show qe 1 (w 1 (by unfold cN;rw [if_neg L,if_pos X])) r p _ (S2.trans I) Y Z
  rw [eq_true_of_ne_false X];symm;intro p5 ax;symm;walk_at "ns";refine uE (λ k J H3=>Same H2 H3/\ ∃st U,H3 st=some (.lst (nv (Fo.fM ls (a.take k))))/\J=[some (.ref d),some (.ref ha),some (.ref ra),some (.int (f:Nat)),some (.ref F),some (.str (tx a)),some (.ref st),U,o8]) #[aD ax _,p5,_,aj,rfl] ?_ ?_
  .rintro k c J H3 hc ⟨I,st,U,m,rfl⟩;have ah:a[k]? =some c:=by simpa [tx] using hc
   have et:a.take (k+1)=a.take k++[c]:=by rw [Yc,ah];rfl
   let#[M,N]:=ag c (Zg ah);let#[r,g1,g2]:=(hL.same (S2.trans I)).get hk N;symm;refine#[d,_,rfl,g1,?_];symm;refine eV (SqT.of g2) λ p6 g=> ?_
   symm;refine gh (aq g m) aj ?_ λ p7 u=> ?_
   .have:=wf.pic_le (a.take k);have h2:=(wf.c1 _ (Fo.bW N)).2;have h3:M.length<=8:=h2;rw [Yp] at this;unfold nv;rw [Qb,Qb];rfl'
   symm;refine#[(I.new g).new u,p7,_,?_,rfl];rw [aj,et,Fo.q9,show Fo.cl ls c=M by unfold Fo.cl;rw [N];rfl];unfold nv;rw [Zb]
  .rintro J H3 ⟨I,st,U,m,rfl⟩;rw [ap,Yh] at m;have S3:=S2.trans I;symm;refine cM (SqL.of m) ?_;rw [Qb];symm;refine eQ (λ c3=> ?_) λ c3=> ?_
   .symm;refine#[2,rfl,λ r p H4 s5 Y Z=> ?_];symm;show qe 2 (w 2 (by unfold cN;rw [if_neg L,if_neg X,if_pos ()])) r p _ (S3.trans s5) Y Z
   have ad:cN ls ds G b f a= .inr (Fo.fM ls a++List.replicate (f-(Fo.fM ls a).length) b):=by
    unfold cN;rw [if_neg L,if_neg X,if_neg ()]
   symm;have af:=hL.same S3;refine#[d,_,rfl,af.fil,?_];let#[v0,m0]:=hL.o;let#[r0,g1,g2]:=af.get hk ((hk fs [b]).mpr #[hL.e,v0,m0]);symm;refine#[d,_,rfl,g1,?_];symm;refine eV (SqT.of g2) λ p6 g=> ?_
   symm;have ac:=I.get (s2.get (s4.get O));have v:=aq (o':=HO.lst (nv [b])) g ac;refine dN (SqL.of v) ?_;symm;refine cM (SqL.of (aq g m)) ?_;rw [Qb];symm;have ek:((f:Int)-((Fo.fM ls a).length:Int)).toNat=f-(Fo.fM ls a).length:=()
   refine#[p6,_,_,rfl,rfl,aj,(),(),?_,λ p7 u=> ?_]
   .rw [ek];show Zy (show 1*(f-(Fo.fM ls a).length)<=10000 by rfl') (by decide)
   have ef: ∀n:Nat,(List.replicate n (nv [b])).flatten=nv (List.replicate n b):=λ n=>by
    induction n with
    | zero=>rfl
    | succ n ih=>rw [Xb,Wd,ih,Xb];rfl
   rw [ek,ef];symm;refine gh (aq u (aq g m)) aj (by unfold nv;rw [Qb,Qb,Yo];rfl') λ p8 C=> ?_
   have e8:=aq (o':=HO.lst (nv (Fo.fM ls a)++nv (List.replicate (f-(Fo.fM ls a).length) b))) C (aq (o':=HO.lst (nv (List.replicate (f-(Fo.fM ls a).length) b))) u v);have T:Same H' (upd (upd (upd H3 p6 (HO.lst (nv [b]))) p7 (HO.lst (nv (List.replicate (f-(Fo.fM ls a).length) b)))) p8 (HO.lst (nv (Fo.fM ls a)++nv (List.replicate (f-(Fo.fM ls a).length) b)))):=((((s4.trans s2).trans I).new g).new u).new C;have n8:p8≠F:=λ z=>by rw [z,aq u v] at C;cases C
   symm;refine eU e8 (by rw [Qb];rfl') ?_;symm;refine#[(W.same T).set (by simp),zs++[(p8,Fo.fM ls a++List.replicate (f-(Fo.fM ls a).length) b)],_,_,_,_,by rw [aj,Zb];rfl,by rw [Zf,al];rfl,?_,λ z D=> ?_,rfl]
   .rw [Yc,hi,Zb];show lg ad y
   .rcases Zh.mp D with D | D
    .exact #[by rw [aC (hz z D).2];show T.get (hz z D).1,(hz z D).2]
    .rw [Za.mp D];show#[by rw [aC n8,aj];unfold nv;rw [Zb],n8]
 .rintro J H' ⟨W,zs,o5,o6,U,o8,O,al,y,hz,rfl⟩;rw [Yh] at y;symm;intro p hp;symm;intro t ht;refine q zs y F p t _ (((W.off R).new hp).new ht) aj (aq ht aj) (aq ht (aq hp O)) λ z D=>aq ht (aq hp (hz z D).1)
def ql (ls:List (Str×List Nat)) (ds:L2S) (x:V) (c0:Nat):Prop:= ∃s,x= .str s/\Fo.lk ls s=some [c0]/\(∀ps∈ds,Hs.dr ps s=none)/\ds.length<40
abbrev Lf (H:Hp) (Q:VK) (ls:List (Str×List Nat)) (ds:L2S) (es:List Int) (x:V) (wd:Nat) (rows:List (List Nat)):Prop:=(∀i,i<4->((i=3/\ ∀c0,¬ql ls ds x c0)\/ ∃c0,ql ls ds x c0/\iu (cN ls ds es c0 wd) rows= .inl i)-> ∀r p H',Same H H'->H' r=some (.tup [.non, .ref p])->H' p=some (.lst (jr i))->Q (.ref r) H')/\ ∀c0 zs,ql ls ds x c0->iu (cN ls ds es c0 wd) rows= .inr (zs.map (·.2))-> ∀r p t H1 H',H1 t=none->LsL H H1 r zs->H'=upd H1 t (.tup [.ref r, .ref p])->H1 p=some (.lst [])->H p=none->r≠p->(∀z∈zs,z.1≠p)->Q (.ref t) H'
inductive sp_f15 (K:W.Frag) (vs:List V) (H:Hp) (Q:VK) (E:XK):Prop
 | mk (f ha ra:Addr) (ht:Nat) (ls:List (Str×List Nat)) (ds:L2S) (es:List Int) (x:V) (rows:List (List Nat)) (wd:Nat) (h0:vs=[.ref f, .ref ha,x, .ref ra, .int (wd:Nat)]) (h1:RefG K dW dW []) (h2:RefG K fO fO []) (h3:(∀i,i<4->RefH K ([dW,d7,cZ,iY].getD i 0) wj [(dW,decide (i=0)),(d7,decide (i=1)),(cZ,decide (i=2)),(iY,decide (i=3)),(fO,false)] [[gH,gJ,qx,qy,qz],[qC,qD,qF]])) (h4:Thing H x) (h5:FnT K H f ht ls) (h6:Fo.Wf ht ls) (h7:HsG K H ha ds es) (h8:GoodH ds es) (h9:Hs.Wf ds) (h10:SqL K H ra (rows.map λ cs=>V.str (tx cs))) (h11:rows.length<=1000) (h12:(∀cs∈rows,cs.length<=1000)) (h13:wd<=10000) (h14:Lf H Q ls ds es x wd rows):sp_f15 K vs H Q E
abbrev zM (K:W.Frag):TS:=
  (aG (cD (qu K "list" bY (ak 6) (aa (cz (cj K) (aa (ak 7) (aa (dH (aa (tC (V.ref gH)) (aa (tC (V.ref gJ)) (aa (tC (V.ref qx)) (aa (tC (V.ref qy)) (aa (tC (V.ref qz)) au)))))) au))) au)))
  (cD (qu K "list" bY (ak 6) (aa (cz (cj K) (aa (ak 7) (aa (dH (aa (tC (V.ref qC)) (aa (tC (V.ref qD)) (aa (tC (V.ref qF)) au)))) au))) au))))
abbrev zN (K:W.Frag):TS:=
  (aG (aO (aK j8 (ak 6) (cC (aa (cz (cj K) (aa (ak 7) (aa (tC (V.ref cZ)) au))) (aa (cz (cj K) (aa (ak 7) (aa (tC (V.ref iY)) au))) au)))) (aA 6))
  (aG (cD (qu K "list" bY (ak 6) (aa (cz (cj K) (aa (ak 7) (aa (tC (V.ref fO)) au))) au)))
  (zM K)))
abbrev zO (K:W.Frag) (Eh:XK):TS:=
  (aG (yh K wj 7 Eh (aO (aJ (sp_f35 K) [] Eh (aa (ak 0) (aa (ak 1) (aa (ak 2) (aa (ak 3) (aa (ak 4) au)))))) (aA 5)) (aG (aO (cC (aa (cz (cj K) (aa (ak 7) (aa (tC (V.ref dW)) au))) (aa (cz (cj K) (aa (ak 7) (aa (tC (V.ref d7)) au))) au))) (aA 6))
  (zN K)))
  (bh (dH (aa (ak 5) (aa (ak 6) au)))))
def tR (K:W.Frag) (E:XK) (Eh:XK):TS:=
  (aG (aO (tC V.non) (aA 5))
  (aG (aO (cC au) (aA 6))
  (zO K Eh)))
theorem HH (h:sp_f15 K vs H Q E): ∃Eh,tR K E Eh { nx:=λ _ H'=>Q .non H',rt:=Q } (start ["font","house","filler","rows","wide","found","kinds","e"] vs) H:=by
 let#[f,ha,ra,ht,ls,ds,es,x,rows,wd,rfl,F1,F2,hr,hx,hF,wf,hH,gd,hw,hR,ac,Z,ad,qb,qg]:=h;refine#[λ C _ H'=> ∃i:Nat,i<4/\C= .ref ([dW,d7,cZ,iY].getD i 0)/\Same H H'/\((i=3/\ ∀k,¬ql ls ds x k)\/ ∃k,ql ls ds x k/\iu (cN ls ds es k wd) rows= .inl i),?_];unfold tR;symm;intro p0 G;have u:=aD (o:=HO.lst []) G;symm;refine Gv ?_ ?_
 .symm;refine#[f,ha,ra,ht,ls,ds,es,x,rows,wd,rfl,F1,F2,hx.same u,hF.same u,wf,hH.same u,gd,hw,u.seq hR,ac,Z,ad,λ s k N O S T=>#[λ i w H1 F=>#[i,?_,?_,u.trans F, .inr #[k,#[s,N,O,S,T],w]],λ zs Y r H1 j=> ?_],λ z H1 F=>#[3,by decide,rfl,u.trans F, .inl #[rfl,λ k ⟨s,N,O,S,T⟩=>z s k N O S T]]]
  .have:=t7 uQ w;rfl'
  .have h3:=t7 uQ w
   match i,h3 with
   | 0,_=>rfl
   | 1,_=>rfl
   | 2,_=>rfl
  .symm;intro t ht;have np: ∀ {a:Addr},upd H p0 (HO.lst []) a=none->a≠p0:=λ h e=>by rw [e,aj] at h;cases h
   show qg k zs #[s,N,O,S,T] Y r p0 t H1 _ ht #[u.trans j.s,j.l,λ z J=>#[(j.z z J).1,u.free (j.z z J).2.1,(j.z z J).2.2],j.n,u.free j.r] rfl (j.s.get aj) G (np j.r) λ z J=>np (j.z z J).2.1
 .rintro _ H1 ⟨i,w,rfl,F,hb⟩;have R:=hr i w;refine#[R.em,λ e he=> ?_];symm;refine kW aj R.ex R.kl.1 ?_;symm;refine kW aj R.ex R.kl.2.1 ?_;symm;intro p1 g;symm;refine kW (aq g aj) R.ex R.kl.2.2.1 ?_;symm;refine kW (aq g aj) R.ex R.kl.2.2.2.1 ?_;symm;intro p2 p;symm;refine gh (aq p aj) aj (show 4<=1000000 by decide) λ b A=> ?_
  let#[H3,c]: ∃H3,H3=upd (upd (upd (upd H1 e (mY e (Value.ref ([dW,d7,cZ,iY].getD i 0)))) p1 (HO.lst [V.bl (decide (i=0)),V.bl (decide (i=1))])) p2 (HO.lst [V.bl (decide (i=2)),V.bl (decide (i=3))])) b (HO.lst [V.bl (decide (i=0)),V.bl (decide (i=1)),V.bl (decide (i=2)),V.bl (decide (i=3))]):=#[_,rfl];have P:H3 e=some (mY e (Value.ref ([dW,d7,cZ,iY].getD i 0))):=by rw [c];show aq A (aq p (aq g aj))
  have U:H3 b=some (HO.lst [V.bl (decide (i=0)),V.bl (decide (i=1)),V.bl (decide (i=2)),V.bl (decide (i=3))]):=by rw [c];show aj
  have s3:Same H H3:=by rw [c];show(((F.new he).new g).new p).new A
  have n3:H b=none:=(((F.new he).new g).new p).free A;have L:e≠b:=λ z=>by rw [z,U] at P;cases P
  change aA 6 (V.ref b) _ (upd (upd (upd (upd H1 e (mY e (Value.ref ([dW,d7,cZ,iY].getD i 0)))) p1 (HO.lst [V.bl (decide (i=0)),V.bl (decide (i=1))])) p2 (HO.lst [V.bl (decide (i=2)),V.bl (decide (i=3))])) b (HO.lst [V.bl (decide (i=0)),V.bl (decide (i=1)),V.bl (decide (i=2)),V.bl (decide (i=3))])) _;rw [<- c];clear c;symm;refine dN (SqL.of U) ?_;symm;refine kW P R.ex R.kl.2.2.2.2.1 ?_;symm;refine eU U (show 4<=1000000 by decide) ?_;have s4:Same H (upd H3 b (HO.lst ([V.bl (decide (i=0)),V.bl (decide (i=1)),V.bl (decide (i=2)),V.bl (decide (i=3))]++[V.bl false]))):=λ a o z=>by
   rw [aC λ y=>by rw [y,n3] at z;cases z];show s3.get z
  have W:upd H3 b (HO.lst ([V.bl (decide (i=0)),V.bl (decide (i=1)),V.bl (decide (i=2)),V.bl (decide (i=3))]++[V.bl false])) b=some (HO.lst [V.bl (decide (i=0)),V.bl (decide (i=1)),V.bl (decide (i=2)),V.bl (decide (i=3)),V.bl false]):=aj;have v:upd H3 b (HO.lst ([V.bl (decide (i=0)),V.bl (decide (i=1)),V.bl (decide (i=2)),V.bl (decide (i=3))]++[V.bl false])) e=some (mY e (Value.ref ([dW,d7,cZ,iY].getD i 0))):=by rw [aC L];show P
  generalize upd H3 b (HO.lst ([V.bl (decide (i=0)),V.bl (decide (i=1)),V.bl (decide (i=2)),V.bl (decide (i=3))]++[V.bl false]))=H4 at s4 W v ⊢;symm;refine dN (SqL.of W) ?_;symm;intro q1 q;symm;refine yJ (aq q v) R.ex (ds:=[gH,gJ,qx,qy,qz]) aj R.ka.1 ?_;symm;refine eU (aq q W) (show 5<=1000000 by decide) ?_;have s5:=s4.new (o:= .tup [V.ref gH,V.ref gJ,V.ref qx,V.ref qy,V.ref qz]) q;let#[D,d]: ∃D,D=upd (upd H4 q1 (.tup [V.ref gH,V.ref gJ,V.ref qx,V.ref qy,V.ref qz])) b (HO.lst ([V.bl (decide (i=0)),V.bl (decide (i=1)),V.bl (decide (i=2)),V.bl (decide (i=3)),V.bl false]++[V.bl false])):=#[_,rfl];have s6:Same H D:=λ a o z=>by
   rw [d,aC λ y=>by rw [y,n3] at z;cases z];show s5.get z
  have e6:D b=some (HO.lst [V.bl (decide (i=0)),V.bl (decide (i=1)),V.bl (decide (i=2)),V.bl (decide (i=3)),V.bl false,V.bl false]):=by rw [d];show aj
  have X:D e=some (mY e (Value.ref ([dW,d7,cZ,iY].getD i 0))):=by rw [d,aC L];show aq q v
  rw [<- d];clear d;symm;refine dN (SqL.of e6) ?_;symm;intro q2 B;symm;refine yJ (aq B X) R.ex (ds:=[qC,qD,qF]) aj R.ka.2.1 ?_;symm;refine eU (aq B e6) (show 6<=1000000 by decide) ?_;have s7:=s6.new (o:= .tup [V.ref qC,V.ref qD,V.ref qF]) B;let#[M,m]: ∃M,M=upd (upd D q2 (.tup [V.ref qC,V.ref qD,V.ref qF])) b (HO.lst ([V.bl (decide (i=0)),V.bl (decide (i=1)),V.bl (decide (i=2)),V.bl (decide (i=3)),V.bl false,V.bl false]++[V.bl false])):=#[_,rfl];have s8:Same H M:=λ a o z=>by
   rw [m,aC λ y=>by rw [y,n3] at z;cases z];show s7.get z
  have e8:M b=some (HO.lst (jr i)):=by
   rw [m,aj]
   match i,w with
   | 0,_=>rfl
   | 1,_=>rfl
   | 2,_=>rfl
   | 3,_=>rfl
  rw [<- m];clear m;symm;intro r I;show qb i w hb r b _ (s8.new I) aj (aq I e8)
inductive sp_f7 (K:W.Frag) (vs:List V) (H:Hp) (Q:VK) (E:XK):Prop
 | mk (f:Addr) (zs:List (Addr×List Nat)) (h0:vs=[.ref f]) (h1:H f=some (.lst (zs.map λ z=>V.ref z.1))) (h2:(∀z∈zs,H z.1=some (.lst (nv z.2))/\z.1≠f/\z.2.length<=100000)) (h3:(zs.map (·.1)).Nodup) (h4:zs.length<=1000) (h5: ∀H',Sb (zs.map (·.1)) H H'->Q (.bl true) H'):sp_f7 K vs H Q E
abbrev Dk (K:W.Frag):TS:=
  (aG (bL (b7 (aK xN (cz (cV K) (aa (ak 3) au)) (tC (V.int 1)))) (aG (cD (qu K "list" bY (aK (dU K) (ak 3) (tC (V.int 0))) (aa (tC (V.int 1)) au)))
  (cD (qu K "list" bY (aK (dU K) (ak 0) (tC (V.int 0))) (aa (tC (V.int 1)) au)))) aW)
  (bh (aK (rEqD K) (ak 0) (ak 3))))
abbrev Dm (K:W.Frag):TS:=
  (aG (dO (cO K (ak 0)) (aA 1) (aG (bL (iy (ie K (cz (dj K) (aa (ak 1) (aa (tC (V.ty "list")) au))))) (bh (tC (V.bl false))) aW)
  (dO (cO K (ak 1)) (aA 2) (bL (iy (ie K (aJ (sp_f13 K) [] E0 (aa (ak 2) au)))) (bh (tC (V.bl false))) aW))))
  (aG (aO (lu [none] (cO K (ak 0)) (aA 0) jc (cz (cH K) (aa (ak 0) au))) (aA 3))
  (Dk K)))
def zP (K:W.Frag) (E:XK) (Eh:XK):TS:=
  (aG (bL (iy (ie K (cz (dj K) (aa (ak 0) (aa (tC (V.ty "list")) au))))) (bh (tC (V.bl false))) aW)
  (Dm K))
theorem Lg (h:sp_f7 K vs H Q E): ∃Eh,zP K E Eh { nx:=λ _ H'=>Q .non H',rt:=Q } (start ["found","strip","column","kept"] vs) H:=by
 let#[f,zs,rfl,C,J,Y,ad,q]:=h;refine#[E0,?_];unfold zP;symm;refine di (.lst C) (b:=true) rfl ?_;symm;refine jq (λ z:Addr×List Nat=>V.ref z.1) (zs:=zs) (SqL.of C) (λ i s H'=>H=H'/\ ∃W D,s=[some (.ref f),W,D,none]) #[rfl,_,_,rfl] ?_ ?_ ?_
 .rintro i s _ ⟨rfl,_⟩;show SqL.of C
 .rintro i z s _ P ⟨rfl,W,D,rfl⟩;let#[g,_,_]:=J z (Zg P);symm;refine di (.lst g) (b:=true) rfl ?_;symm;refine jq (λ n:Nat=>V.int (n:Int)) (zs:=z.2) (SqL.of g) (λ j s H'=>H=H'/\ ∃D,s=[some (.ref f),some (.ref z.1),D,none]) #[rfl,_,rfl] ?_ ?_ ?_
  .rintro j s _ ⟨rfl,_⟩;show SqL.of g
  .rintro j n s _ hj ⟨rfl,D,rfl⟩;symm;refine#[_,rfl,?_];symm;show#[rfl,_,rfl]
  .rintro s _ ⟨rfl,D,rfl⟩;show#[rfl,_,_,rfl]
 rintro s _ ⟨rfl,W,D,rfl⟩;symm;refine yV (λ z:Addr×List Nat=>V.ref z.1) (zs:=zs) (SqL.of C) () (λ z=>nv z.2) (λ i z H' P s' A hA=> ?_) λ p H1 bs F hp ep L O nb U=> ?_
 .obtain ⟨g,_,_⟩:=J z (Zg P);symm;refine kO (SqL.of (s'.get g)) λ l hl=> ?_
  symm;show hA l hl
 have G:bs.length=zs.length:=by rw [<- L,Qb]
 symm;refine cM (SqL.of ep) ?_;rw [Qb];symm;refine eQ (λ c=> ?_) λ c=> ?_
 .obtain ⟨z,u,rfl⟩: ∃z u,zs=z::u:=by
   cases zs with
   | nil=>simp at G;simp [G] at c
   | cons z u=>show#[z,u,rfl]
  let#[b,w,rfl]: ∃b w,bs=b::w:=by
   cases bs with
   | nil=>simp at c
   | cons b w=>show#[b,w,rfl]
  let#[M,N]:b.2=z/\w.map (·.2)=u:=by simpa using L
  let#[m,R,ac]:=J z (by simp);let#[k,B]:=O b (by simp);rw [M] at B;rw [Zn,Ym] at Y nb;have a: ∀ {x y:Addr} {o:HO},H x=some o->H y=none->x≠y:=λ g h2 e=>by rw [e,h2] at g;cases g
  symm;refine cQ (SqL.of ep) (bf (j:=0) (v:= .ref b.1) rfl) ?_;symm;refine dN (SqL.of B) ?_;symm;refine eU B (by rw [Qb];rfl') ?_;symm;have I:upd H1 b.1 (HO.lst (nv z.2++[V.int 1])) f=some (.lst ((z::u).map λ z=>V.ref z.1)):=by rw [aC (a C k)];show F.get C
  have t:upd H1 b.1 (HO.lst (nv z.2++[V.int 1])) z.1=some (.lst (nv z.2)):=by rw [aC (a m k)];show F.get m
  refine cQ (SqL.of I) (bf (j:=0) (v:= .ref z.1) rfl) ?_;symm;refine dN (SqL.of t) ?_;symm;refine eU t (by rw [Qb];rfl') ?_;symm;have X:nv z.2++[V.int 1]=nv (z.2++[1]):=by unfold nv;rw [Zb];rfl
  refine rEqD.same (LL.dp (rows:=(z.1,z.2++[1])::u) (SqL.of (by rw [aC (λ e=>R e.symm)];show I)) λ r d=> ?_) ?_ (yZ _) (by decide) ?_
  .rcases Zx.mp d with rfl | d
   .rw [aj,X]
   .have g:=(J r (Zu _ d)).1;rw [aC (λ e=>Y.1 (by rw [<- e];show Ze.mpr #[r,d,rfl])),aC (a g k)];show F.get g
  .have:=LL.dp (K:=K) (p:=p) (rows:=(b.1,z.2++[1])::w.map λ b=>(b.1,b.2.2)) (H:=upd (upd H1 b.1 (HO.lst (nv z.2++[V.int 1]))) z.1 (HO.lst (nv z.2++[V.int 1]))) (SqL.of ?_) λ r d=> ?_
   .have e:((b.1,z.2++[1])::w.map λ b:Addr×Addr×List Nat=>(b.1,b.2.2)).map (·.2)=((z.1,z.2++[1])::u).map (·.2):=by
     rw [Zn,Zn,<- N,Zj,Zj];rfl
    rw [e] at this;show this
   .have S:p≠z.1:=λ e=>a m hp e.symm
    have T:p≠b.1:=λ e=>U (by rw [e];simp)
    rw [aC S,aC T,Zn,Zj];show ep
   .rcases Zx.mp d with rfl | d
    .rw [aC (λ e=>a m k e.symm),aj,X]
    .obtain ⟨x,Z,rfl⟩:=Ze.mp d;let#[x1,x2]:=O x (Zu _ Z);rw [aC (λ e=>a m x1 e.symm),aC (λ e=>nb.1 (by rw [<- e];show Ze.mpr #[x,Z,rfl]))];show x2
  .symm;refine q _ λ x o n e=> ?_
   rw [aC (λ z=>n (by rw [z];simp)),aC (a e k)];show F.get e
 .symm;refine rEqD.same (LL.dp (rows:=zs) (SqL.of (F.get C)) λ r d=>F.get (J r d).1) ?_ (yZ _) (by decide) ?_
  .have:=LL.dp (K:=K) (p:=p) (rows:=bs.map λ b=>(b.1,b.2.2)) (H:=H1) (SqL.of (by rw [Zj];show ep)) λ r d=> ?_
   .have e:(bs.map λ b:Addr×Addr×List Nat=>(b.1,b.2.2)).map (·.2)=zs.map (·.2):=by rw [<- L,Zj,Zj];rfl
    rw [e] at this;show this
   .obtain ⟨b,mb,rfl⟩:=Ze.mp d;show(O b mb).2
  .symm;show q _ (Sb.of F)
inductive sp_f1 (K:W.Frag) (vs:List V) (H:Hp) (Q:VK) (E:XK):Prop
 | mk (cl:Int) (d sg ha:Addr) (ht:Nat) (kvs:List Lw) (fs:Str) (c0:Nat) (ls:List (Str×List Nat)) (ds:L2S) (es:List Int) (ss:List Str) (h0:vs=[.int cl, .ref d, .ref sg, .ref ha]) (h1:LtT H d ht kvs fs c0) (h2:Bg kvs ls) (h3:Fo.Wf ht ls) (h4:HsF K H ha ds es) (h5:ds.length<=40) (h6:(∀ps∈ds,∀z∈ps,Hs.Sg z.1)) (h7:SqL K H sg (ss.map V.str)) (h8:0<ss.length) (h9:ss.length<=10) (h10:(∀s∈ss,∃co,Fo.lk ls s=some co)) (h11: ∀x H',Same H H'->Thing H' x->(∀c,¬ql ls ds x c)->Q x H'):sp_f1 K vs H Q E
abbrev Do (K:W.Frag):TS:=
  (aG (aO (aK j8 (ak 6) (lu [none] (oO K (aK (cF K) (ak 3) (tC (V.int 0)))) (aA 0) (b7 (aK xN (cz (cV K) (aa (ak 0) au)) (tC (V.int 0)))) (aK (cF K) (aK (cF K) (ak 0) (tC (V.int 0))) (tC (V.int 0))))) (aA 6))
  (bh (aK (dU K) (ak 6) (aK bu (ak 0) (cz (cV K) (aa (ak 6) au))))))
abbrev Dq (K:W.Frag):TS:=
  (aG (aO (cC (aa (tC (V.str (Str.ofString ""))) (aa (aK (dU K) (ak 4) (tC (V.int 0))) (aa (aK (dU K) (ak 4) (Et pG (tC (V.int 1)))) (aa (aK dw (ak 5) (aK (dU K) (ak 2) (tC (V.int 0)))) (aa (tC V.non) (aa (tC (V.int 7)) (aa (tC (V.bl true)) (aa (dH (aa (ak 5) au)) (aa (cC (aa (ak 5) au)) au)))))))))) (aA 6))
  (aG (aO (aK j8 (ak 6) (lu [none,some 1] (cO K (ak 2)) (aA 0) (b7 (aK xN (cz (cV K) (aa (fL (ak 1) (ak 0)) au)) (tC (V.int 1)))) (ak 0))) (aA 6))
  (Do K)))
def zQ (K:W.Frag) (E:XK) (Eh:XK):TS:=
  (aG (aO (lu [none,some 1] (jU (aJ (fH K) [] E0 au)) (aA 0) (tB (dM (ak 0) (ak 1))) (ak 0)) (aA 4))
  (aG (aO (fL (ak 1) (tC (V.str (Str.ofString "")))) (aA 5))
  (Dq K)))
theorem Lh (h:sp_f1 K vs H Q E): ∃Eh,zQ K E Eh { nx:=λ _ H'=>Q .non H',rt:=Q } (start ["cell","letters","signs","house","lacked","filler","some"] vs) H:=by
 let#[cl,d,sg,ha,ht,kvs,fs,c0,ls,ds,es,ss,rfl,T,hk,wf,hH,U,ah,hG,an,Y,Z,q]:=h;refine#[E0,?_];unfold zQ;symm;refine#[rfl,?_];symm;refine ou rfl T hk λ p1 al=> ?_
 have lp:=lq wf.le;have ll:=o9 ls;have ln:=λ c (h:c∈gm ls)=>oh h
 generalize gm ls=lc at lp ll ln ⊢;have s1:=aD (o:=HO.lst (lc.map λ c=>V.str (tx [c]))) al;have l:upd H p1 (HO.lst (lc.map λ c=>V.str (tx [c]))) p1=some (.lst (lc.map λ c=>V.str (tx [c]))):=aj;generalize upd H p1 (HO.lst (lc.map λ c=>V.str (tx [c])))=H1 at s1 l ⊢;symm;refine#[d,_,rfl,(T.same s1).fil,?_];symm;let#[t,lr,rfl]: ∃t lr,lc=t::lr:=by
  cases lc with
  | nil=>cases lp
  | cons a r=>show#[a,r,rfl]
 refine cQ (SqL.of l) (bf (j:=0) (v:= .str (tx [t])) rfl) ?_;symm;let#[N,m2,u]: ∃N∈t::lr,oG ((t::lr).map λ c=>V.str (tx [c])) (-1)=some (.str (tx [N])):=by
  refine#[(t::lr).getLast (by simp),List.getLast_mem _,?_];rw [FZ (by simp),List.getLast_map]
 refine cQ (SqL.of l) u ?_;symm;let#[b,sr,rfl]: ∃b sr,ss=b::sr:=by
  cases ss with
  | nil=>cases an
  | cons a r=>show#[a,r,rfl]
 refine cQ (s1.seq hG) (bf (j:=0) (v:= .str b) rfl) ?_;symm;have g: ∀ {s:Str} {H':Hp},Hs.Sg s->Thing H' (.str s):=λ {s H'} ⟨k,e⟩=>by
  change s.length<=100000;rw [show s=_ from e,bK];show Wz rfl
 have p: ∀s,Fo.lk ls s=none-> ∀c,¬ql ls ds (.str s) c:=λ s e c ⟨s',l,u,_⟩=>by
  cases l;rw [e] at u;cases u
 let#[v0,m0]:=T.o;have ai:=(hk fs [c0]).mpr #[T.e,v0,m0];let#[n1,w]:=wf.sg _ (Fo.bW ai);replace w:fs=tx [Hs.gG n1]:=w;let#[ar,P]:=Z b (by simp);let#[n2,A]:=wf.sg _ (Fo.bW P);replace A:b=tx [Hs.gG n2]:=A;refine kJ (by rw [w,A,bK,bK];show Wz rfl) ?_;have O:fs++b=tx [Hs.gG n1,Hs.gG n2]:=by rw [w,A,nP];rfl
 have ag:Fo.lk ls (fs++b)=none:=by
  cases e:Fo.lk ls (fs++b) with
  | none=>rfl
  | some co=>
   let#[n3,af]:=wf.sg _ (Fo.bW e);have:=Zk List.length (ir.mp (O.symm.trans af));simp at this
 have h0:Fo.lk ls (tx [])=none:=by
  cases e:Fo.lk ls (tx []) with
  | none=>rfl
  | some co=>show absurd rfl ((hk _ _).mp e).1
 have S:(fs++b).length<=100000:=by rw [O,bK];show Wz rfl
 symm;intro p2 W;symm;intro p3 J;symm;intro p4 C;let#[xs,B]: ∃xs,xs=[V.str (Str.ofString ""),V.str (tx [t]),V.str (tx [N]),V.str (fs++b),V.non,V.int 7,V.bl true,V.ref p2,V.ref p3]:=#[_,rfl];have n: ∀x:V,(∀s,x≠ .str s)-> ∀c,¬ql ls ds x c:=λ x h c ⟨s',l,_⟩=>h s' l
 have M:=((s1.new (o:=HO.tup [V.str fs]) W).new (o:=HO.lst [V.str fs]) J).new (o:=HO.lst xs) C;have b4: ∀x∈xs,Thing (upd (upd (upd H1 p2 (HO.tup [V.str fs])) p3 (HO.lst [V.str fs])) p4 (HO.lst xs)) x/\ ∀c,¬ql ls ds x c:=by
  rw [B];intro x f;simp only [Zx,Xo,ċ] at f;rcases f with rfl | rfl | rfl | rfl | rfl | rfl | rfl | rfl | rfl
  .exact #[Nat.zero_le _,p _ h0]
  .exact #[g (ln t (by simp)).2.1,p _ (ln t (by simp)).1]
  .exact #[g (ln N m2).2.1,p _ (ln N m2).1]
  .exact #[S,p _ ag]
  .exact #[trivial,n _ λ s z=>by cases z]
  .exact #[trivial,n _ λ s z=>by cases z]
  .exact #[trivial,n _ λ s z=>by cases z]
  .exact #[.inr (.inl #[_,aq C (aq J aj)]),n _ λ s z=>by cases z]
  .exact #[.inl #[_,aq C aj],n _ λ s z=>by cases z]
 have l4:xs.length=9:=by rw [B];rfl
 rw [<- B];have e4:upd (upd (upd H1 p2 (HO.tup [V.str fs])) p3 (HO.lst [V.str fs])) p4 (HO.lst xs) p4=some (.lst xs):=aj;clear B;generalize upd (upd (upd H1 p2 (HO.tup [V.str fs])) p3 (HO.lst [V.str fs])) p4 (HO.lst xs)=H4 at M b4 e4 ⊢;symm;refine rR V.str (zs:=b::sr) (M.seq hG) () (λ i ys H'=>H4=H'/\ys.length<=i/\ ∀y∈ys,Thing H4 y/\ ∀c,¬ql ls ds y c) #[rfl,by simp,by simp] ?_ ?_ ?_ ?_
 .rintro i ys _ ⟨rfl,_⟩;show M.seq hG
 .rintro i ys _ ⟨rfl,h,_⟩;show h
 .rintro i s ys _ hi ⟨rfl,ad,F⟩;let#[co,I]:=Z s (Zg hi);let#[r,g1,g2]:=(T.same M).get hk I;symm;refine#[d,_,rfl,g1,?_];symm;refine il (SqT.of g2) ?_;rw [Qb];symm;refine eQ (λ c=> ?_) λ c=> ?_
  .symm;refine#[rfl,by rw [Zf,Yf];rfl',λ y m=> ?_];rcases Zh.mp m with m | m
   .exact F y m
   .rw [Za.mp m];refine#[g (wf.sg _ (Fo.bW I)),λ c' ⟨s',l,u,_⟩=> ?_]
    cases l;rw [I] at u
    cases u;simp at c
  .exact #[rfl,(),F]
 rintro ys _ ⟨rfl,ad,F⟩ p5 D;symm;refine gh (aq D e4) aj (by have:(b::sr).length<=10:=Y;rfl') λ p6 L=> ?_
 have S6:=(M.new (o:=HO.lst ys) D).new (o:=HO.lst (xs++ys)) L;have T6:=(aD (o:=HO.lst ys) D).new (o:=HO.lst (xs++ys)) L;have b6: ∀x∈xs++ys,Thing (upd (upd H4 p5 (HO.lst ys)) p6 (HO.lst (xs++ys))) x/\ ∀c,¬ql ls ds x c:=λ x f=>by
  rcases Zh.mp f with f | f
  .exact #[(b4 x f).1.same T6,(b4 x f).2]
  .exact #[(F x f).1.same T6,(F x f).2]
 have e6:upd (upd H4 p5 (HO.lst ys)) p6 (HO.lst (xs++ys)) p6=some (.lst (xs++ys)):=aj;have l6:9<=(xs++ys).length/\(xs++ys).length<=19:=by rw [Zf];have:(b::sr).length<=10:=Y;rfl'
 generalize upd (upd H4 p5 (HO.lst ys)) p6 (HO.lst (xs++ys))=H6 at S6 b6 e6 ⊢;generalize xs++ys=ws at b6 e6 l6 ⊢;clear T6 D L C J W b4 F e4;let#[d1,d2,rs,h1,R,h3,h4,h5]:=hH.same S6;symm;refine lE h1 ?_;symm;have aw:rs.length<=40:=by rw [<- R,Qb] at U;show U
 refine KH (λ r:Addr×L1S=>V.ref r.1) (zs:=rs) h3 () (λ i ys H'=>H6=H'/\ys.length<=i/\ ∀y∈ys,Thing H6 y/\ ∀c,¬ql ls ds y c) #[rfl,by simp,by simp] ?_ ?_ ?_ ?_
 .rintro i ys _ ⟨rfl,_⟩;show h3
 .rintro i ys _ ⟨rfl,h,_⟩;show h
 .rintro i r ys _ hi ⟨rfl,ad,F⟩;have mr:=Zg hi;let#[zs,ob,ez,av,z1,z2]:=h4 r mr;have ae:r.2∈ds:=by rw [<- R];show Ze.mpr #[r,mr,rfl]
  symm;refine il (.inl (.inr #[ob,z1])) ?_;rw [Qb];symm;refine eQ (λ c=> ?_) λ c=> ?_
  .obtain ⟨z,zr,rfl⟩: ∃z zr,zs=z::zr:=by
    cases zs with
    | nil=>simp at c
    | cons z zr=>show#[z,zr,rfl]
   symm;refine gQ (.inl (.inr #[ob,z1])) (bf (j:=0) (v:= .ref z.1) rfl) ?_;symm;refine lE (z2 z (by simp)) ?_;refine#[rfl,by rw [Zf,Yf];rfl',λ y m=> ?_];rcases Zh.mp m with m | m
   .exact F y m
   .rw [Za.mp m];refine#[g (ah r.2 ae z.2 (by rw [<- ez];simp)),λ c' ⟨s',l,_,u,_⟩=> ?_];have:=u r.2 ae
    cases l;rw [<- ez,Zn,Hs.jF,if_pos rfl] at this
    cases this
  .exact #[rfl,(),F]
 rintro G _ ⟨rfl,ap,ac⟩ p7 X;symm;refine gh (aq X e6) aj () λ p8 am=> ?_
 symm;refine cM (SqL.of aj) ?_;symm;let#[j,ej,hj]:=Mm.cJ cl (ws++G).length (by rw [Zf];rfl');refine Gu (by rw [Zf];rfl') ej ?_;let#[x,ex]: ∃x,(ws++G)[j]? =some x:=#[_,Zc hj];refine cQ (SqL.of aj) (bf ex) ?_;symm;have T8:=(aD (o:=HO.lst G) X).new (o:=HO.lst (ws++G)) am;rcases Zh.mp (Zg ex) with f | f
 .exact q x _ (S6.trans T8) ((b6 x f).1.same T8) (b6 x f).2
 .exact q x _ (S6.trans T8) ((ac x f).1.same T8) (ac x f).2
theorem HJ:Txt.slice (tx b) (some (j:Int)) none=tx (b.drop j):=by
 by_cases h:j<=b.length
 .exact uG h
 .have e:Txt.slice (tx b) (some (j:Int)) none=Txt.slice (tx b) (some ((b.length:Nat):Int)) none:=by
   change StrLaws.sliceText _ _ _=StrLaws.sliceText _ _ _;have f:(tx b).length=b.length:=rfl;have a: ¬ ((j:Int)<0):=()
   have c: ¬ (((b.length:Nat):Int)<0):=()
   have d:max (0:Int) (min (j:Int) (b.length:Int))=max (0:Int) (min (b.length:Int) (b.length:Int)):=()
   have:Builtin.Str.strSliceIndices (some (j:Int)) none 1 (tx b).length=Builtin.Str.strSliceIndices (some ((b.length:Nat):Int)) none 1 (tx b).length:=by
    simp [Builtin.Str.strSliceIndices,f,a,c,d]
   unfold StrLaws.sliceText;rw [this]
  rw [e,uG (Zo _),ÿ,ß ()]
theorem Dr:Txt.slice (tx b) none (some (j:Int))=tx (b.take j):=by
 by_cases h:j<=b.length
 .exact uF h
 .have e:Txt.slice (tx b) none (some (j:Int))=Txt.slice (tx b) none (some ((b.length:Nat):Int)):=by
   change StrLaws.sliceText _ _ _=StrLaws.sliceText _ _ _;have f:(tx b).length=b.length:=rfl;have a: ¬ ((j:Int)<0):=()
   have c: ¬ (((b.length:Nat):Int)<0):=()
   have d:max (0:Int) (min (j:Int) (b.length:Int))=max (0:Int) (min (b.length:Int) (b.length:Int)):=()
   have:Builtin.Str.strSliceIndices none (some (j:Int)) 1 (tx b).length=Builtin.Str.strSliceIndices none (some ((b.length:Nat):Int)) 1 (tx b).length:=by
    simp [Builtin.Str.strSliceIndices,f,a,c,d]
   unfold StrLaws.sliceText;rw [this]
  rw [e,uF (Zo _),Yh,Xr ()]
inductive sp_f8 (K:W.Frag) (vs:List V) (H:Hp) (Q:VK) (E:XK):Prop
 | mk (ra d:Addr) (rows:List (List Nat)) (ht:Nat) (kvs:List Lw) (fs:Str) (c0:Nat) (ls:List (Str×List Nat)) (cl:Int) (h0:vs=[.ref ra, .ref d, .int cl]) (h1:SqL K H ra (rows.map λ cs=>V.str (tx cs))) (h2:rows.length<=501) (h3:IV rows) (h4:LtT H d ht kvs fs c0) (h5:Bg kvs ls) (h6:ls.length<=40) (h7: ∀r H' (rows':List (List Nat)),Same H H'->H' r=some (.lst (rows'.map λ cs=>V.str (tx cs)))->rows'.length<=501->(∀cs∈rows',cs.length<=1000/\ ∀c∈cs,c<1114112)->Q (.ref r) H'):sp_f8 K vs H Q E
abbrev Ds (K:W.Frag):TS:=
  (aG (aO (aK (dU K) (ak 4) (aK bu (aK bV (ak 2) (tC (V.int 64))) (cz (cV K) (aa (ak 4) au)))) (aA 7))
  (aO (aK dw (aK dw (Fd vO (aK (dU K) (ak 3) (ak 5)) gr (ji (ak 6))) (ak 7)) (Fd vO (aK (dU K) (ak 3) (ak 5)) (ji (ak 6)) gr)) (Bo (ak 3) (ak 5) ph)))
abbrev Dt (K:W.Frag):TS:=
  (aG (aO (lu [none,some 1] (jU (aJ (fH K) [] E0 au)) (aA 0) (tB (dM (ak 0) (ak 1))) (ak 0)) (aA 4))
  (aG (aO (aK bu (aK bV (ak 2) (tC (V.int 16))) (cz (cV K) (aa (ak 3) au))) (aA 5))
  (aG (aO (aK bu (aK bV (ak 2) (tC (V.int 7))) (tC (V.int 9))) (aA 6))
  (Ds K))))
def zR (K:W.Frag) (E:XK) (Eh:XK):TS:=
  (aG (aO (cz (cH K) (aa (ak 0) au)) (aA 3))
  (aG (bL (wz (b7 (aK qt (aK bu (aK bV (ak 2) (tC (V.int 4))) (tC (V.int 4))) (tC (V.int 1)))) (b7 (aK (rNeD K) (ak 3) (cC au)))) (Dt K) aW)
  (bh (ak 3))))
theorem Li (h:sp_f8 K vs H Q E): ∃Y,zR K E Y { nx:=λ _ H'=>Q .non H',rt:=Q } (start ["rows","letters","cell","found","lacked","at","where","sign"] vs) H:=by
 let#[ra,d,rows,ht,kvs,fs,c0,ls,cl,rfl,hR,u,p,hL,hk,M,q]:=h;refine#[E0,?_];unfold zR;symm;refine kO hR λ f S=> ?_
 have O:=aD (o:=HO.lst (rows.map λ b=>V.str (tx b))) S;symm;have D:upd H f (HO.lst (rows.map λ b=>V.str (tx b))) f=some (.lst (rows.map λ b=>V.str (tx b))):=aj;generalize upd H f (HO.lst (rows.map λ b=>V.str (tx b)))=H1 at O D ⊢;have i: ∀b∈rows,b.length<=1000/\ ∀c∈b,c<1114112:=λ b m=>#[Nat.le_trans (p b m).1 (by decide),(p b m).2]
 refine eQ (λ c=> ?_) λ c=> ?_
 rotate_left
 .symm;show q f H1 rows O D u i
 symm;intro W t;refine rNeD.nil (Dp.txs (SqL.of (aq t D))) (nR λ l C c n=>(p l C).2 c n) (by decide) (SqL.of aj) ?_;have F:=O.new (o:=HO.lst []) t;have G:upd H1 W (HO.lst []) f=some (.lst (rows.map λ b=>V.str (tx b))):=aq t D;generalize upd H1 W (HO.lst [])=H2 at F G ⊢;symm;refine iW (λ P=> ?_) λ P=> ?_
 rotate_left
 .symm;show q f H2 rows F G u i
 have B:0<rows.length:=by
  cases rows with
  | nil=>show absurd rfl P
  | cons a r=>simp
 symm;refine#[rfl,?_];refine ou rfl (hL.same F) hk λ N A=> ?_
 have lp:=lq M;have ll:=o9 ls;have U:=λ c (h:c∈gm ls)=>oh h
 generalize gm ls=lc at lp ll U ⊢;have I:upd H2 N (HO.lst (lc.map λ c=>V.str (tx [c]))) N=some (.lst (lc.map λ c=>V.str (tx [c]))):=aj;have g:=aq (o':=HO.lst (lc.map λ c=>V.str (tx [c]))) A G;have Z:=aD (o:=HO.lst (lc.map λ c=>V.str (tx [c]))) A;have X:=F.trans Z;generalize upd H2 N (HO.lst (lc.map λ c=>V.str (tx [c])))=H3 at X I g ⊢;symm;refine cM (SqL.of g) ?_;rw [Qb];let#[j,ej,T]:=Mm.cJ (cl / 16) rows.length B;symm;rw [ej];let#[w,J,hw]:=Mm.cJ (cl / 7) 9 (by decide);replace J:cl / 7%9=(w:Int):=J;rw [J];refine cM (SqL.of I) ?_;rw [Qb];let#[k,ek,L]:=Mm.cJ (cl / 64) lc.length lp;symm;rw [ek];let#[x,R]: ∃x,lc[k]? =some x:=#[_,Zc L];let#[b,s]: ∃b,rows[j]? =some b:=#[_,Zc T];refine cQ (SqL.of I) (bf (j:=k) (v:= .str (tx [x])) (by rw [Zm,R];rfl)) ?_;symm;let#[h8,y]:=p b (Zg s);refine cQ (SqL.of g) (bf (j:=j) (v:= .str (tx b)) (by rw [Zm,s];rfl)) ?_;symm;refine uH (by rw [bK];rfl') ?_;rw [Dr];have t8:(b.take w).length<=8:=Zy (List.length_take_le' _ _) h8;have d8:(b.drop w).length<=8:=by rw [É];rfl'
 symm;refine kJ (by rw [bK,bK];simp;rfl') ?_;symm;refine cQ (SqL.of g) (bf (j:=j) (v:= .str (tx b)) (by rw [Zm,s];rfl)) ?_;symm;refine uH (by rw [bK];rfl') ?_;rw [HJ,nP];symm;refine kJ (by rw [bK,bK,Zf];simp;rfl') ?_;rw [nP];symm;refine Gi j g rfl (by rw [Qb];show T) ?_;symm;refine q f _ (rows.set j (b.take w++[x]++b.drop w)) (λ a o e=> ?_) ?_ (by rw [Ą];show u) λ l C=> ?_
 .rw [aC λ z=>by rw [z,S] at e;cases e];show X.get e
 .rw [aj,<- List.map_set]
 .rcases List.mem_or_eq_of_mem_set C with C | rfl
  .exact i l C
  .refine #[by rw [Zf,Zf,Yf];rfl',λ c n=> ?_];rcases Zh.mp n with n | n
   .rcases Zh.mp n with n | n
    .exact y c (ç n)
    .rw [Za.mp n];show(U x (Zg R)).2.2
   .exact y c (List.mem_of_mem_drop n)
inductive sp_f20 (K:W.Frag) (vs:List V) (H:Hp) (Q:VK) (E:XK):Prop
 | mk (w:Nat) (c:Int) (h0:vs=[.int (w:Nat), .int c]) (h1: ∀n:Nat,n<=w+500->Q (.int (n:Nat)) H):sp_f20 K vs H Q E
abbrev zT:TS:=
  (aG (bL (b7 (aK qt (aK bu (ak 1) (tC (V.int 3))) (tC (V.int 1)))) (bh (aK lU (tC (V.int 400)) (aK bu (aK bV (ak 1) (tC (V.int 6))) (tC (V.int 50))))) aW)
  (bh (cz xO (aa (tC (V.int 0)) (aa (aK lU (ak 0) (aK bu (aK bV (ak 1) (tC (V.int 6))) (tC (V.int 3)))) au)))))
def tU (K:W.Frag) (E:XK) (Eh:XK):TS:=
  (aG (bL (b7 (aK qt (aK bu (ak 1) (tC (V.int 3))) (tC (V.int 0)))) (bh (aK cP (ak 0) (aK bu (aK bV (ak 1) (tC (V.int 6))) (tC (V.int 10))))) aW)
  (zT))
theorem HN (h:sp_f20 K vs H Q E): ∃a,tU K E a { nx:=λ _ H'=>Q .non H',rt:=Q } (start ["widest","cell"] vs) H:=by
 let#[w,c,rfl,q]:=h;refine#[E0,?_];unfold tU;symm;refine eQ (λ b=> ?_) λ b=> ?_
 .symm;have:=Xi (c / 6) (by decide:(10:Int)≠0);have:=Xk (c / 6) (by decide:(0:Int)<10);have h:=q (w+(c / 6%10).toNat) ();rw [show((w+(c / 6%10).toNat:Nat):Int)=(w:Int)+c / 6%10 by rfl'] at h;show h
 symm;refine eQ (λ d=> ?_) λ d=> ?_
 .symm;have:=Xi (c / 6) (by decide:(50:Int)≠0);have:=Xk (c / 6) (by decide:(0:Int)<50);have h:=q (400-c / 6%50).toNat ();rw [show(((400-c / 6%50).toNat:Nat):Int)=400-c / 6%50 by rfl'] at h;show h
 symm;have:=Xi (c / 6) (by decide:(3:Int)≠0);have h:=q ((w:Int)-c / 6%3).toNat ();rw [show((((w:Int)-c / 6%3).toNat:Nat):Int)=if (w:Int)-c / 6%3>0 then (w:Int)-c / 6%3 else 0 by split<;>rfl'] at h;show h
inductive sp_f0 (K:W.Frag) (vs:List V) (H:Hp) (Q:VK) (E:XK):Prop
 | mk (cl:Int) (d kn:Addr) (ht:Nat) (kvs:List Lw) (fs:Str) (c0:Nat) (ls:List (Str×List Nat)) (ss:List Str) (h0:vs=[.int cl, .ref d, .ref kn]) (h1:LtT H d ht kvs fs c0) (h2:Bg kvs ls) (h3:ls.length<=40) (h4:H kn=some (.lst (ss.map V.str))) (h5:ss.Pairwise jC) (h6:0<ss.length) (h7:ss.length<=9) (h8:(∀s∈ss,Hs.Sg s/\ ∃co,Fo.lk ls s=some co)) (h9: ∀r H' (ss':List Str),Same H H'->H' r=some (.lst (ss'.map V.str))->ss'.Pairwise jC->0<ss'.length->ss'.length<=10->(∀s∈ss',Hs.Sg s/\(s∈ss\/Fo.lk ls s=none))->Q (.ref r) H'):sp_f0 K vs H Q E
def zU (K:W.Frag) (E:XK) (Eh:XK):TS:=
  (aG (aO (lu [none,some 1] (jU (aJ (fH K) [] E0 au)) (aA 0) (tB (dM (ak 0) (ak 1))) (ak 0)) (aA 3))
  (aG (bL (b7 (aK qt (aK bu (ak 0) (tC (V.int 2))) (tC (V.int 0)))) (bh (ak 2)) aW)
  (bh (cz (kh K) (aa (aK j8 (ak 2) (cC (aa (aK (dU K) (ak 3) (aK bu (aK bV (ak 0) (tC (V.int 2))) (cz (cV K) (aa (ak 3) au)))) au))) au)))))
theorem Lj (h:sp_f0 K vs H Q E): ∃N,zU K E N { nx:=λ _ H'=>Q .non H',rt:=Q } (start ["cell","letters","known","lacked"] vs) H:=by
 let#[cl,d,U,ht,kvs,fs,c0,ls,G,rfl,P,R,w,J,l,C,T,f,q]:=h;refine#[E0,?_];unfold zU;symm;refine#[rfl,?_];refine ou rfl P R λ F A=> ?_
 have lp:=lq w;have W:=o9 ls;have L:=λ c (h:c∈gm ls)=>oh h
 generalize gm ls=lc at lp W L ⊢;have t:upd H F (HO.lst (lc.map λ c=>V.str (tx [c]))) F=some (.lst (lc.map λ c=>V.str (tx [c]))):=aj;have p:=aD (o:=HO.lst (lc.map λ c=>V.str (tx [c]))) A;generalize upd H F (HO.lst (lc.map λ c=>V.str (tx [c])))=H3 at p t ⊢;symm;refine eQ (λ c=> ?_) λ c=> ?_
 .symm;show q U H3 G p (p.get J) l C () λ s ms=>#[(f s ms).1, .inl ms]
 symm;refine cM (SqL.of t) ?_;rw [Qb];let#[k,O,u]:=Mm.cJ (cl / 2) lc.length lp;symm;rw [O];let#[x,I]: ∃x,lc[k]? =some x:=#[_,Zc u];let#[M,Z,x3]:=L x (Zg I);refine cQ (SqL.of t) (bf (j:=k) (v:= .str (tx [x])) (by rw [Zm,I];rfl)) ?_;symm;intro p4 i;symm;refine gh (aq i (p.get J)) aj (by rw [Qb];simp;rfl') λ p5 B=> ?_
 symm;have y:(G++[tx [x]]).Nodup:=by
  rw [Yl];refine#[qi l,by simp,λ a X b Y e=> ?_];let#[co,g]:=(f a X).2;rw [e,show b=tx [x] by simpa using Y,M] at g
  cases g
 refine uO (ns:=G++[tx [x]]) (SqL.of (by rw [aj,Zb];rfl)) y (by simp;rfl') λ r D z n S=> ?_
 symm;refine q r _ D (((p.new i).new B).new S) aj n (by rw [z.length_eq];simp) (by rw [z.length_eq];simp;rfl') λ s ms=> ?_
 rcases Zh.mp (z.mem_iff.mp ms) with m | m
 .exact #[(f s m).1, .inl m]
 .rw [Za.mp m];show#[Z, .inr M]
theorem DrF.g {K:W.Frag} {b:L1S} (h:DrF H a b):DrG K H a b:=by
 let#[zs,ob,e,f,c,d]:=h;show#[zs,e, .inl (.inr #[ob,c]),d]
theorem HsF.g {K:W.Frag} {b:List Int} (h:HsF K H a ds b):HsG K H a ds b:=by
 let#[d,e,m,c,f,i,j,k]:=h;show#[d,e,m,c,f,i,λ r l=>(j r l).g,k]
theorem GoodH.big {c:List Int} (g:GoodH ds c) (h:ds.length+n<=40):GoodH (ds++List.replicate n []) c:=by
 have i:(ds++List.replicate n ([]:L1S)).length=ds.length+n:=by rw [Zf,Yo]
 have b: ∀a∈ds++List.replicate n ([]:L1S),a∈ds\/a=[]:=λ a m=>(Zh.mp m).imp id λ m=>(ï.mp m).2
 refine#[by have:=g.r1;rfl',(),λ a m=> ?_,λ a m=> ?_,λ a m z d=> ?_,g.ei,g.el,λ e f=>by have:=g.er e f;rfl']
 .rcases b a m with m | rfl
  .exact g.sr a m
  .exact List.Pairwise.nil
 .rcases b a m with m | rfl
  .exact g.ln a m
  .exact Yv _
 .rcases b a m with m | rfl
  .have:=g.sg a m z d;show#[this.1,this.2.1,()]
  .cases d
theorem GoodH.wf {a:List Int} (g:GoodH ds a):Hs.Wf ds:=#[g.r1,λ c m z b=>(g.sg c m z b).2]
theorem HQ {xs:L2S} (w:Hs.Wf ds) (a:List Nat):Hs.go (ds++xs) a=Hs.go ds a:=by
 have b: ∀n,Hs.go (ds++xs) (a.take n)=Hs.go ds (a.take n):=λ n=>by
  induction n with
  | zero=>rfl
  | succ n ih=>
   rcases Wh n a.length with h | h
   .have c:a.take (n+1)=a.take n++[a[n]]:=by rw [Yc,Zc h];rfl
    rw [c,Hs.jG,Hs.jG,ih]
    cases e:Hs.go ds (a.take n) with
    | none=>rfl
    | some r=>
     let#[d,f]:=Hs.yO w e;change Hs.dr ((ds++xs).getD r.toNat []) _=Hs.dr (ds.getD r.toNat []) _;rw [Zz,Zz,Yx ()]
   .rw [Xr ()];rw [Xr h] at ih;show ih
 have:=b a.length;rw [Yh] at this;show this
theorem zV {ls:List (Str×List Nat)} {xs:L2S} {a:List Int} (w:Hs.Wf ds):cN ls (ds++xs) a c0 wd=cN ls ds a c0 wd:=by
 funext cs;unfold cN;rw [HQ w]
def O3 (i:Nat):PyData:= .tuple [.none, .list ((List.range 7).map λ k:Nat=>PyData.bool (decide ((k:Int)=(i:Int))))]
theorem qm {K:W.Frag} {p:Addr} {i:Nat} (a:H r=some (.tup [.non, .ref p])) (b:H p=some (.lst (jr i))):Dp K H (.ref r) (O3 i):=by
 refine .tup (SqT.of a) (.cons .non (.cons (.lst (SqL.of b) ?_) .nil));unfold jr;generalize List.range 7=ks;induction ks with
 | nil=>show .nil
 | cons k r ih=>show .cons (.bl _) ih
theorem zW (i:Nat):Sh 2 (O3 i):=yH λ d a=>by
 simp only [Zx,Xo,ċ] at a;rcases a with rfl | rfl
 .exact #[by simp [PyData.canLay0],by simp [PyData.depth]]
 .refine gD λ d a=> ?_
  let#[k,_,rfl]:=Ze.mp a;show Ks _ _
def O4 (yss:List (List Nat)):PyData:= .tuple [.list (yss.map λ xs=> .list ((xs.map λ i:Nat=>(i:Int)).map PyData.int)), .list []]
theorem Ea {K:W.Frag} {p:Addr} (a:H t=some (.tup [.ref r, .ref p])) (b:H p=some (.lst [])) (c:H r=some (.lst (zs.map λ z=>V.ref z.1))) (d: ∀z∈zs,H z.1=some (.lst (nv z.2))):Dp K H (.ref t) (O4 (zs.map (·.2))):= .tup (SqT.of a) (.cons (LL.dp (SqL.of c) d) (.cons (.lst (SqL.of b) .nil) .nil))
theorem Ec (b:List (List Nat)):Sh 3 (O4 b):=yH λ d a=>by
 simp only [Zx,Xo,ċ] at a;rcases a with rfl | rfl
 .exact yZ _
 .exact (gD (n:=0) (ds:=[]) λ d a=>by cases a).more (by decide)
def PQ:Nat ⊕ List (List Nat)->PyData
 | .inl i=>O3 i
 | .inr yss=>O4 yss
theorem Ed: ∀x:Nat ⊕ List (List Nat),Sh 3 (PQ x)
 | .inl i=>(zW i).more (by decide)
 | .inr yss=>Ec yss
theorem HsF.bigG {K:W.Frag} {f:List Int} (c:rs.map (·.2)=ds) (i: ∀r∈rs,DrF H r.1 r.2) {b e d:Addr} (l:H t=some (.tup [.ref b, .ref e])) (j:H b=some (.tup (rs.map (λ r=>V.ref r.1)++List.replicate n (V.ref d)))) (h:H d=some (.tup [])) (k:H e=some (.tup (f.map V.int))):HsG K H t (ds++List.replicate n []) f:=by
 refine#[b,e,rs++List.replicate n (d,[]),l,by rw [Zb,c,List.map_replicate],SqT.of (by rw [Zb,List.map_replicate];show j),λ r a=> ?_,k];rcases Zh.mp a with a | a
 .exact (i r a).g
 .rw [(ï.mp a).2];show#[[],rfl,SqT.of h,by simp]
theorem DuE.same (s:Same H H'): ∀ {x:Nat ⊕ List (List Nat)},DuE H t x->DuE H' t x
 | .inl _,⟨p,h1,h2⟩=>#[p,s.get h1,s.get h2]
 | .inr _,⟨r,p,zs,e,h1,h2,h3,h4⟩=>#[r,p,zs,e,s.get h1,s.get h2,s.get h3,λ z a=>s.get (h4 z a)]
theorem DuE.dp {K:W.Frag}: ∀ {x:Nat ⊕ List (List Nat)},DuE H t x->Dp K H (.ref t) (PQ x)
 | .inl _,⟨_,h1,h2⟩=>qm h1 h2
 | .inr _,⟨_,_,zs,e,h1,h2,h3,h4⟩=>by rw [<- e];show Ea h1 h2 h3 h4
def DuS (H H':Hp) (t:Addr):Nat ⊕ List (List Nat)->Prop
 | .inl i=> ∃p,H' t=some (.tup [.non, .ref p])/\H' p=some (.lst (jr i))
 | .inr yss=> ∃ (r p:Addr) (zs:List (Addr×List Nat)),zs.map (·.2)=yss/\H' t=some (.tup [.ref r, .ref p])/\H' p=some (.lst [])/\H' r=some (.lst (zs.map λ z=>V.ref z.1))/\(∀z∈zs,H' z.1=some (.lst (nv z.2))/\H z.1=none/\z.1≠r)/\(zs.map (·.1)).Nodup
theorem DuS.e {H a:Hp} {t:Addr}: ∀ {x:Nat ⊕ List (List Nat)},DuS H a t x->DuE a t x
 | .inl _,h=>h
 | .inr _,⟨r,p,zs,e,h1,h2,h3,h4,_⟩=>#[r,p,zs,e,h1,h2,h3,λ z b=>(h4 z b).1]
theorem oA {ls:List (Str×List Nat)} {k:List Int} {g:Str} (m:ql ls ds (.str g) c0) (h: ∀t H',Same H H'->DuS H H' t (iu (cN ls ds k c0 wd) rows)->Q (.ref t) H'):Lf H Q ls ds k (.str g) wd rows:=by
 have q: ∀ {c},ql ls ds (.str g) c->c=c0:=λ {c} ⟨s,u,v,_⟩=>by
  let#[s',f,a,_]:=m
  cases u
  cases f;rw [v] at a
  cases a;rfl
 refine#[λ i _ A r p H' s x y=> ?_,λ c zs j e r p t H1 H' d b w B _ _ _=> ?_]
 .rcases A with ⟨_,hn⟩ | ⟨c,j,e⟩
  .exact absurd m (hn c0)
  .rw [q j] at e;show h r H' s (by rw [e];show#[p,x,y])
 .rw [q j] at e;subst w;show h t _ (b.s.new d) (by rw [e];show#[r,p,zs,rfl,aj,aq d B,aq d b.l,λ z o=>#[aq d (b.z z o).1,(b.z z o).2],b.n])
theorem zX {f:List Nat->Nat ⊕ List Nat}: ∀ {l:List (List Nat)} {ys:List (List Nat)},iu f l= .inr ys->ys.length=l.length/\ ∀y∈ys,∃cs,f cs= .inr y
 | [],ys,e=>by cases e;show#[rfl,by simp]
 | a::l,ys,e=>by
  change(match f a with | .inl i=>_ | .inr y=>match iu f l with | .inl i=>_ | .inr ys=>_)=_ at e
  cases ha:f a with
  | inl j=>rw [ha] at e;cases e
  | inr y=>
   rw [ha] at e
   cases hl:iu f l with
   | inl j=>rw [hl] at e;cases e
   | inr zs=>
    rw [hl] at e
    cases e;let#[c,d]:=zX hl;refine#[by rw [Wo,Wo,c],λ x b=> ?_];rcases Zx.mp b with rfl | b
    .exact #[a,ha]
    .exact d x b
theorem zY {ls:List (Str×List Nat)} {b:List Int} {a y:List Nat} (e:cN ls ds b c0 wd a= .inr y):y.length=wd:=by
 unfold cN at e;split at e
 .cases e
 split at e
 .cases e
 split at e
 .cases e
 .cases e;rw [Zf,Yo];rfl'
inductive sp_f25 (K:W.Frag) (vs:List V) (H:Hp) (Q:VK) (E:XK):Prop
 | mk (a f d ha ra:Addr) (ns:List Int) (ht:Nat) (kvs:List Lw) (fs:Str) (c0:Nat) (ls:List (Str×List Nat)) (ds:L2S) (es:List Int) (rows:List (List Nat)) (wd:Nat) (h0:vs=[.ref a, .ref f, .ref d, .ref ha, .ref ra, .int (wd:Nat)]) (h1:RefG K dW dW []) (h2:RefG K fO fO []) (h3:(∀i,i<4->RefH K ([dW,d7,cZ,iY].getD i 0) wj [(dW,decide (i=0)),(d7,decide (i=1)),(cZ,decide (i=2)),(iY,decide (i=3)),(fO,false)] [[gH,gJ,qx,qy,qz],[qC,qD,qF]])) (h4:SqL K H a (ns.map V.int)) (h5:FnT K H f ht ls) (h6:Fo.Wf ht ls) (h7:LtT H d ht kvs fs c0) (h8:Bg kvs ls) (h9:HsF K H ha ds es) (h10:GoodH ds es) (h11:ds.length<=3) (h12:SqL K H ra (rows.map λ cs=>V.str (tx cs))) (h13:rows.length<=1000) (h14:(∀cs∈rows,cs.length<=1000)) (h15:wd<=10000) (h16: ∀H',Same H H'->Q (.bl true) H'):sp_f25 K vs H Q E
abbrev zZ (K:W.Frag):TS:=
  (aG (aO (aJ (sp_f1 K) [] E0 (aa (aJ (sp_f3 K) [] E0 (aa (ak 0) (aa (tC (V.int 7)) au))) (aa (ak 2) (aa (ak 7) (aa (ak 3) au))))) (aA 9))
  (bh (aK (rEqD K) (aJ (sp_f15 K) [] E0 (aa (ak 1) (aa (ak 3) (aa (ak 9) (aa (ak 4) (aa (ak 5) au)))))) (ak 6))))
abbrev Aa (K:W.Frag):TS:=
  (aG (bL (b7 (aK (rNeD K) (aJ (sp_f15 K) [] E0 (aa (ak 1) (aa (dH (aa (ak 8) (aa (aK (cF K) (ak 3) (tC (V.int 1))) au))) (aa (fL (ak 2) (tC (V.str (Str.ofString "")))) (aa (ak 4) (aa (ak 5) au)))))) (ak 6))) (bh (tC (V.bl false))) aW)
  (zZ K))
abbrev Ab (K:W.Frag):TS:=
  (aG (aO (lu [none,some 2] (cO K (cz jD (aa (ak 2) au))) (aA 0) (b7 (aK (Be K true) (ak 0) (cC (aa (tC (V.str (Str.ofString ""))) (aa (fL (ak 1) (tC (V.str (Str.ofString "")))) au))))) (ak 0)) (aA 7))
  (aG (aO (aK (uf K) (aK (cF K) (ak 3) (tC (V.int 0))) (aK (uy K) (dH (aa (dH au) au)) (aK lU (tC (V.int 40)) (cz (cV K) (aa (aK (cF K) (ak 3) (tC (V.int 0))) au))))) (aA 8))
  (Aa K)))
def tV (K:W.Frag) (E:XK) (Eh:XK):TS:=
  (aG (aO (aJ (sp_f23 K) [] E0 (aa (tC (V.int 3)) au)) (aA 6))
  (Ab K))
theorem HR (h:sp_f25 K vs H Q E): ∃Eh,tV K E Eh { nx:=λ _ H'=>Q .non H',rt:=Q } (start ["script","font","letters","house","rows","wide","none","signs","big","bad"] vs) H:=by
 let#[a,f,d,ha,ra,ns,ht,kvs,fs,c0,ls,ds,X,rows,wd,rfl,F1,F2,hr,hS,hF,wf,y,hk,hH,Z,h3,hR,am,al,av,q]:=h;refine#[E0,?_];unfold tV;symm;refine#[3,rfl,λ r0 p0 H1 s1 e0 U=> ?_];symm;refine m8 (kvs:=kvs.map λ p:Lw=>(p.1,p.2.1)) (by rw [Zj];show(y.same s1).d) (by rw [Qb];show Yg y.l (by decide)) λ r1 t v ax A=> ?_
 rw [Zj] at v;symm;have s2:=s1.new (o:=HO.lst (t.map V.str)) A;have e2:upd H1 r1 (HO.lst (t.map V.str)) r1=some (.lst (t.map V.str)):=aj;have I:=aq (o':=HO.lst (t.map V.str)) A e0;have u:=aq (o':=HO.lst (t.map V.str)) A U;generalize upd H1 r1 (HO.lst (t.map V.str))=H2 at s2 e2 I u ⊢;have a1:t.length<=5:=by rw [v.length_eq,Qb];show y.l
 refine rR V.str (zs:=t) (SqL.of e2) () (λ i ys H'=>Same H2 H'/\ys=((t.take i).filter λ s=>decide (s∉[tx [],fs])).map V.str) #[Same.refl _,rfl] ?_ ?_ ?_ ?_
 .rintro i ys H' ⟨s',_⟩;show SqL.of (s'.get e2)
 .rintro i ys H' ⟨_,rfl⟩;rw [Qb];show Zy (À _ _) (List.length_take_le _ _)
 .rintro i s ys H' hi ⟨s',rfl⟩;have et:t.take (i+1)=t.take i++[s]:=by rw [Yc,hi];rfl
  symm;refine#[d,_,rfl,(y.same (s2.trans s')).fil,?_];symm;intro p3 n;refine uJ (.inl (SqL.of aj)) rfl rfl ?_;change ∃k,_=V.bl k/\_;rw [show inV (V.str s) [V.str (Str.ofString ""),V.str fs]=decide (s∈[tx [],fs]) from uK s [tx [],fs]];symm;refine iW (λ c=> ?_) λ c=> ?_
  .symm;refine#[s'.new n,?_];rw [et,Ø,Zb];congr 1;rw [Wp,if_pos (Yi c)];rfl
  .refine #[s'.new n,?_];rw [et,Ø,Wp,if_neg (λ z=>(show s∉[tx [],fs] from Ys z) c)];simp
 rintro ys H3 ⟨B,rfl⟩ p3 n;rw [Yh];have ap: ∀s∈t.filter (λ s=>decide (s∉[tx [],fs])),s≠tx []/\s≠fs/\ ∃co,Fo.lk ls s=some co:=λ s ms=>by
  let#[m1,m2]:=Xh.mp ms;have m3:s∉[tx [],fs]:=Ys m2;have n1:s≠tx []:=λ z=>m3 (by rw [z];show Zp)
  have n2:s≠fs:=λ z=>m3 (by rw [z];show Zu _ Zp)
  let#[p,mp,rfl]:=Ze.mp (v.mem_iff.mp m1);show#[n1,n2,p.2.2,(hk _ _).mpr #[n1,p.2.1,mp]]
 have ar:0<(t.filter λ s=>decide (s∉[tx [],fs])).length:=by
  let#[p,mp,n1,n2]:=y.m;show Ws (Xh.mpr #[v.mem_iff.mpr (Ze.mpr #[p,mp,rfl]),Yi (by simp [n1,n2])])
 have an:(t.filter λ s=>decide (s∉[tx [],fs])).length<=10:=Zy (À _ _) ();generalize t.filter (λ s=>decide (s∉[tx [],fs]))=sg at ap ar an ⊢;have s3:=(s2.trans B).new (o:=HO.lst (sg.map V.str)) n;have e3:upd H3 p3 (HO.lst (sg.map V.str)) p3=some (.lst (sg.map V.str)):=aj;have S:=aq (o':=HO.lst (sg.map V.str)) n (B.get I);have C:=aq (o':=HO.lst (sg.map V.str)) n (B.get u);generalize upd H3 p3 (HO.lst (sg.map V.str))=H4 at s3 e3 S C ⊢;clear e2 I u e0 U n A s1 s2 B v ax;let#[d1,d2,b,h1,W,ad,h4,h5]:=hH.same s3;have F:b.length=ds.length:=by rw [<- W,Qb]
 symm;refine lE h1 ?_;symm;intro j ah;symm;intro p5 J;have P:=(aD (o:=HO.tup []) ah).new (o:=HO.tup [V.ref j]) J;have Y:upd (upd H4 j (HO.tup [])) p5 (HO.tup [V.ref j]) j=some (.tup []):=aq J aj;have g5:upd (upd H4 j (HO.tup [])) p5 (HO.tup [V.ref j]) p5=some (.tup [V.ref j]):=aj;generalize upd (upd H4 j (HO.tup [])) p5 (HO.tup [V.ref j])=H5 at P Y g5 ⊢;clear ah J;symm;refine lE (P.get h1) ?_;symm;refine il (P.tup ad) ?_;rw [Qb];symm;have ek:((40:Int)-(b.length:Int)).toNat=40-b.length:=()
 refine#[p5,_,_,rfl,rfl,SqT.of g5,by simp,(),(),?_,λ p6 L=> ?_]
 .rw [ek];show Zy (show 1*(40-b.length)<=40 by rfl') (by decide)
 rw [ek,List.flatten_replicate_singleton];symm;refine#[d1,p6,_,_,rfl,rfl,(aD L _).tup (P.tup ad),SqT.of aj,?_,?_,λ z=> ?_,λ _ R ai=> ?_]
 .intro z;have:=Z.r1;rw [Wn] at z;rw [z] at F;simp at F;rfl'
 .rw [Qb,Yo];show Zy (show b.length+(40-b.length)<=40 by rfl') (by decide)
 .have:=Zk List.length z;rw [Yo] at this;simp at this;rfl'
 have T7:=(aD (o:=HO.tup (List.replicate (40-b.length) (V.ref j))) L).new (o:=HO.tup (b.map (λ r=>V.ref r.1)++List.replicate (40-b.length) (V.ref j))) ai;have g7:upd (upd H5 p6 (HO.tup (List.replicate (40-b.length) (V.ref j)))) R (HO.tup (b.map (λ r=>V.ref r.1)++List.replicate (40-b.length) (V.ref j))) R=some (.tup (b.map (λ r=>V.ref r.1)++List.replicate (40-b.length) (V.ref j))):=aj;have T5:=P.trans T7;replace Y:=T7.get Y;generalize upd (upd H5 p6 (HO.tup (List.replicate (40-b.length) (V.ref j)))) R (HO.tup (b.map (λ r=>V.ref r.1)++List.replicate (40-b.length) (V.ref j)))=H7 at T7 g7 T5 Y ⊢;clear L ai P g5;walk_at "ns";symm;refine Gw (T5.get h1) ?_;symm;intro p8 M;have G:=T5.new (o:=HO.tup [V.ref R,V.ref d2]) M;have ae:HsG K (upd H7 p8 (HO.tup [V.ref R,V.ref d2])) p8 (ds++List.replicate (40-b.length) []) X:=HsF.bigG W (λ r mr=>(h4 r mr).same G) aj (aq M g7) (aq M Y) (G.get h5);have ac:GoodH (ds++List.replicate (40-b.length) []) X:=Z.big ();generalize upd H7 p8 (HO.tup [V.ref R,V.ref d2])=H8 at G ae ⊢;have S8:=s3.trans G;symm;refine#[d,_,rfl,(y.same S8).fil,?_];symm;have aw:Hs.Sg fs:=by
  let#[v0,m0]:=y.o;show wf.sg _ (Fo.bW ((hk fs [c0]).mpr #[y.e,v0,m0]))
 have a5:(ds++List.replicate (40-b.length) ([]:L1S)).length=40:=by rw [Zf,Yo];rfl'
 have af: ∀c,¬ql ls (ds++List.replicate (40-b.length) []) (.str fs) c:=λ c ⟨s',_,_,_,a4⟩=>()
 refine#[f,p8,ra,ht,ls,_,X, .str fs,rows,wd,rfl,F1,F2,hr,nY aw,hF.same S8,wf,ae,ac,ac.wf,S8.seq hR,am,al,av,λ i hi hb r p H9 s9 er ep=> ?_,λ c zs h=>absurd h (af c)];obtain rfl:i=3:=by
  rcases hb with ⟨rfl,_⟩ | ⟨c,h,_⟩
  .rfl
  .exact absurd h (af c)
 have S9:=S8.trans s9;have T:=s9.get (G.get S);have D:=s9.get (G.get C);symm;refine rNeD.same (qm er ep) (qm T D) (zW 3) (by decide) ?_;symm;refine#[a,ns,7,rfl,S9.seq hS,?_];symm;refine#[Mm.cellAt ns 7,d,p3,ha,ht,kvs,fs,c0,ls,ds,X,sg,rfl,y.same S9,hk,wf,hH.same S9,(),λ ps ay z mz=>(Z.sg ps ay z mz).1,SqL.of (s9.get (G.get e3)),ar,an,λ s ms=>(ap s ms).2.2,λ x a2 N hx ag=> ?_];have w:=S9.trans N;symm;refine#[f,ha,ra,ht,ls,ds,X,x,rows,wd,rfl,F1,F2,hr,hx,hF.same w,wf,(hH.same w).g,Z,Z.wf,w.seq hR,am,al,av,λ i hi hb r p a3 O er ep=> ?_,λ c zs h=>absurd h (ag c)];obtain rfl:i=3:=by
  rcases hb with ⟨rfl,_⟩ | ⟨c,h,_⟩
  .rfl
  .exact absurd h (ag c)
 symm;refine rEqD.same (qm er ep) (qm (O.get (N.get T)) (O.get (N.get D))) (zW 3) (by decide) ?_;symm;show q _ (w.trans O)
inductive sp_f36 (K:W.Frag) (vs:List V) (H:Hp) (Q:VK) (E:XK):Prop
 | mk (a:Addr) (ns:List Int) (h0:vs=[.ref a]) (h1:(RefG K dW dW []/\RefG K fO fO []/\RefH K dW wj [(dW,true),(d7,false),(cZ,false),(iY,false),(fO,false)] [[gH,gJ,qx,qy,qz],[qC,qD,qF]]/\RefH K d7 wj [(dW,false),(d7,true),(cZ,false),(iY,false),(fO,false)] [[gH,gJ,qx,qy,qz],[qC,qD,qF]]/\RefH K cZ wj [(dW,false),(d7,false),(cZ,true),(iY,false),(fO,false)] [[gH,gJ,qx,qy,qz],[qC,qD,qF]]/\RefH K iY wj [(dW,false),(d7,false),(cZ,false),(iY,true),(fO,false)] [[gH,gJ,qx,qy,qz],[qC,qD,qF]])) (h2:SqL K H a (ns.map V.int)) (h3:ns.length<=63) (h4: ∀H',Q (.bl true) H'):sp_f36 K vs H Q E
abbrev Ac (K:W.Frag):TS:=
  (aG (bL (iy (ie K (aJ (sp_f25 K) [] E0 (aa (ak 0) (aa (ak 5) (aa (ak 2) (aa (ak 6) (aa (ak 11) (aa (ak 10) au))))))))) (bh (tC (V.bl false))) aW)
  (bh (lH (aK (rEqD K) (aJ (sp_f15 K) [] E0 (aa (ak 5) (aa (ak 6) (aa (ak 3) (aa (cC au) (aa (ak 10) au)))))) (dH (aa (cC au) (aa (cC au) au)))) (aK (rEqD K) (ak 11) (ak 8)))))
abbrev Ad (K:W.Frag):TS:=
  (aG (aO (aK (uf K) (aK (cF K) (ak 6) (tC (V.int 0))) (aK (uy K) (dH (aa (dH au) au)) (aK lU (tC (V.int 39)) (cz (cV K) (aa (aK (cF K) (ak 6) (tC (V.int 0))) au))))) (aA 14))
  (aG (bL (b7 (aK (rNeD K) (aJ (sp_f15 K) [] E0 (aa (ak 5) (aa (dH (aa (ak 14) (aa (aK (cF K) (ak 6) (tC (V.int 1))) au))) (aa (ak 3) (aa (ak 11) (aa (ak 10) au)))))) (ak 12))) (bh (tC (V.bl false))) aW)
  (Ac K)))
abbrev Ae (K:W.Frag):TS:=
  (aG (bL (J4 (b7 (aK (rNeD K) (ak 13) (ak 12))) (b7 (aK (rNeD K) (ak 11) (ak 8)))) (bh (tC (V.bl false))) aW)
  (aG (bL (wz (b7 (aK qU (aK (cF K) (ak 13) (tC (V.int 0))) (tC V.non))) (iy (ie K (aJ (sp_f7 K) [] E0 (aa (aK (cF K) (ak 13) (tC (V.int 0))) au))))) (bh (tC (V.bl false))) aW)
  (Ad K)))
abbrev Af (K:W.Frag):TS:=
  (aG (aO (cz (cH K) (aa (ak 8) au)) (aA 11))
  (aG (aO (aJ (sp_f29 K) [] E0 (aa (ak 2) (aa (ak 6) (aa (ak 8) (aa (ak 10) au))))) (aA 12))
  (aG (aO (aJ (sp_f15 K) [] E0 (aa (ak 5) (aa (ak 6) (aa (ak 3) (aa (ak 11) (aa (ak 10) au)))))) (aA 13))
  (Ae K))))
abbrev Ag (K:W.Frag):TS:=
  (aG (aO (cz (uv K) (aa (aK j8 (cC (aa (tC (V.int 0)) au)) (lu [none,some 2] (cO K (ak 8)) (aA 0) jc (aJ (sp_f26 K) [] E0 (aa (ak 1) (aa (ak 0) au))))) au)) (aA 9))
  (aG (aO (aJ (sp_f20 K) [] E0 (aa (ak 9) (aa (aJ (sp_f3 K) [] E0 (aa (ak 0) (aa (tC (V.int 6)) au))) au))) (aA 10))
  (Af K)))
abbrev Ah (K:W.Frag):TS:=
  (aG (aO (aJ (sp_f24 K) [] E0 (aa (ak 6) (aa (aK (dU K) (cC (aa (ak 4) (aa (aK j8 (ak 4) (cC (aa (ak 3) au))) au))) (aK bu (aK bV (ak 7) (tC (V.int 2))) (tC (V.int 2)))) (aa (Fd (By K) (ak 0) (ji (tC (V.int 8))) (ji (tC (V.int 208)))) (aa (ak 7) au))))) (aA 8))
  (aG (aO (aJ (sp_f8 K) [] E0 (aa (ak 8) (aa (ak 2) (aa (ak 7) au)))) (aA 8))
  (Ag K)))
abbrev Ai (K:W.Frag):TS:=
  (aG (aO (aJ (sp_f0 K) [] E0 (aa (aK bV (aJ (sp_f3 K) [] E0 (aa (ak 0) (aa (tC (V.int 7)) au))) (tC (V.int 32))) (aa (ak 2) (aa (ak 4) au)))) (aA 4))
  (aG (aO (aJ (sp_f19 K) [] E0 (aa (ak 0) (aa (ak 4) au))) (aA 6))
  (aG (aO (aJ (sp_f3 K) [] E0 (aa (ak 0) (aa (tC (V.int 5)) au))) (aA 7))
  (Ah K))))
abbrev Aj (K:W.Frag):TS:=
  (aG (aO (dH (aa (ak 1) (aa (cz (cI K) (aa (lu [none,some 2] (cO K (cz jD (aa (ak 2) au))) (aA 0) (b7 (aK Dv (ak 0) (tC (V.str (Str.ofString ""))))) (dH (aa (ak 0) (aa (fL (ak 1) (ak 0)) au)))) au)) au))) (aA 5))
  (Ai K))
abbrev Ak (K:W.Frag):TS:=
  (aG (aO (fL (ak 2) (tC (V.str (Str.ofString "")))) (aA 3))
  (aG (aO (cz (kh K) (aa (lu [none,some 3] (rH (ak 2)) (aA 0) (b7 (aK (Be K true) (ak 0) (cC (aa (tC (V.str (Str.ofString ""))) (aa (ak 1) au))))) (ak 0)) au)) (aA 4))
  (Aj K)))
def tW (K:W.Frag) (E:XK) (Eh:XK):TS:=
  (aG (aO (aJ (sp_f6 K) [] E0 (aa (aJ (sp_f3 K) [] E0 (aa (ak 0) (aa (tC (V.int 0)) au))) au)) (aA 1))
  (aG (aO (aJ (sp_f4 K) [] E0 (aa (ak 0) (aa (ak 1) au))) (aA 2))
  (Ak K)))
theorem HW (h:sp_f36 K vs H Q E): ∃Eh,tW K E Eh { nx:=λ _ H'=>Q .non H',rt:=Q } (start ["script","height","letters","filler","signs","font","house","cell","rows","widest","wide","handed","due","found","big"] vs) H:=by
 let#[a,ns,rfl,#[F1,F2,R0,R1,R2,R3],hS,ho,q]:=h;refine#[E0,?_];unfold tW;have hr: ∀i,i<4->RefH K ([dW,d7,cZ,iY].getD i 0) wj [(dW,decide (i=0)),(d7,decide (i=1)),(cZ,decide (i=2)),(iY,decide (i=3)),(fO,false)] [[gH,gJ,qx,qy,qz],[qC,qD,qF]]:=λ i hi=>by
  match i,hi with
  | 0,_=>show R0
  | 1,_=>show R1
  | 2,_=>show R2
  | 3,_=>show R3
 clear R0 R1 R2 R3;symm;refine#[a,ns,0,rfl,hS,?_];symm;refine#[_,rfl,?_];have en:=Mm.CG (Mm.cellAt ns 0);generalize Mm.pX (Mm.cellAt ns 0)=ht at en;symm;refine#[a,ns,ht,rfl,hS,en,λ d H1 kvs fs c0 s1 hd ay=> ?_];walk_at "ns";symm;refine#[d,_,rfl,ay.fil,?_];symm;refine Ld (kvs:=gU kvs) ay.d (by unfold gU;rw [Qb];show Zy ay.l (by decide)) (λ z=>match z.1 with | .inl _=>none | .inr s=>if s∈[tx [],fs] then none else some (.str s)) λ od H2 bw dk=>⟨λ i z H' hz s' A B kA kB=> ?_,λ p2 H3 s3 fi=> ?_⟩
 .obtain ⟨p,U,rfl⟩:=Ze.mp (Zg hz);symm;intro p3 fm;refine uJ (.inl (SqL.of aj)) rfl rfl ?_;change ∃k,_=V.bl k/\_;rw [show inV (kV (Sum.inr p.1,p.2.1).1) [V.str (Str.ofString ""),V.str fs]=decide (p.1∈[tx [],fs]) from uK p.1 [tx [],fs]];symm;refine iW (λ c=> ?_) λ c=> ?_
  .symm;show kA _ _ (if_neg c) (aD fm _)
  .exact kB _ (if_pos c) (aD fm _)
 have ac:=ay.frz hd bw dk;have e6:SqL K H2 a (ns.map V.int):=by
  rcases s1.seq hS with (h | ⟨o,h⟩) | h
  .exact .inl (.inl (bw _ _ (by intro m;rw [Za.mp m,hd] at h;cases h) h))
  .exact .inl (.inr #[o,bw _ _ (by intro m;rw [Za.mp m,hd] at h;cases h) h])
  .exact .inr h
 clear ay hS hd s1 bw H1;have eh:(gU kvs).filterMap (λ z=>match z.1 with | .inl _=>none | .inr s=>if s∈[tx [],fs] then none else some (V.str s))=((kvs.map (·.1)).filter λ s=>decide (s∉[tx [],fs])).map V.str:=by
  clear ac dk;unfold gU;induction kvs with
  | nil=>rfl
  | cons p r ih=>
   rw [Zn,Wl,Zn,Wp];by_cases c:p.1∈[tx [],fs]
   .dsimp only;rw [if_pos c,if_neg (λ z=>(show p.1∉[tx [],fs] from Ys z) c)];show ih
   .dsimp only;rw [if_neg c,if_pos (Yi c),Zn,ih]
 rw [eh];clear eh;have d0: ∀s,s∈(kvs.map (·.1)).filter (λ s=>decide (s∉[tx [],fs]))->s≠fs/\s≠tx []/\ ∃p∈kvs,p.1=s:=λ s ms=>by
  let#[m1,m2]:=Xh.mp ms;have m3:s∉[tx [],fs]:=Ys m2;let#[p,U,e]:=Ze.mp m1;show#[λ z=>m3 (by rw [z];show Zu _ Zp),λ z=>m3 (by rw [z];show Zp),p,U,e]
 have dy:0<((kvs.map (·.1)).filter λ s=>decide (s∉[tx [],fs])).length:=by
  let#[p,U,n1,n2]:=ac.m;show Ws (Xh.mpr #[List.mem_map.mpr #[p,U,rfl],Yi (by simp [n1,n2])])
 have dq:((kvs.map (·.1)).filter λ s=>decide (s∉[tx [],fs])).length<=5:=Zy (À _ _) (by rw [Qb];show ac.l);have dt:((kvs.map (·.1)).filter λ s=>decide (s∉[tx [],fs])).Nodup:=ac.n.sublist List.filter_sublist;generalize (kvs.map (·.1)).filter (λ s=>decide (s∉[tx [],fs]))=sk at d0 dy dq dt ⊢;have S3:=s3.new (o:=HO.lst (sk.map V.str)) fi;symm;refine uO (SqL.of aj) dt () λ r3 ss D gs fv=> ?_
 have S4:=S3.new (o:=HO.lst (ss.map V.str)) fv;have e4:upd (upd H3 p2 (HO.lst (sk.map V.str))) r3 (HO.lst (ss.map V.str)) r3=some (.lst (ss.map V.str)):=aj;generalize upd (upd H3 p2 (HO.lst (sk.map V.str))) r3 (HO.lst (ss.map V.str))=H4 at S4 e4 ⊢;clear fv S3 fi s3 H3;have f1: ∀s∈ss,s≠fs/\s≠tx []/\ ∃p∈kvs,p.1=s:=λ s ms=>d0 s (D.mem_iff.mp ms)
 have f2:0<ss.length:=by rw [D.length_eq];show dy
 have hb:ss.length<=5:=by rw [D.length_eq];show dq
 clear d0 dy dq dt D sk;have a4:=ac.same S4;have fa:=S4.seq e6;clear ac e6 dk S4 H2;symm;refine m8 (kvs:=kvs.map λ p:Lw=>(p.1,p.2.1)) (by rw [Zj];show a4.d) (by rw [Qb];show Yg a4.l (by decide)) λ r5 nms D cv fw=> ?_
 rw [Zj] at D;have gq:nms.length<=5:=by rw [D.length_eq,Qb];show a4.l
 have S5:=aD (o:=HO.lst (nms.map V.str)) fw;have er:upd H4 r5 (HO.lst (nms.map V.str)) r5=some (.lst (nms.map V.str)):=aj;generalize upd H4 r5 (HO.lst (nms.map V.str))=H5 at S5 er ⊢;have b:=a4.same S5;have ad:=S5.seq fa;have e5:=S5.get e4;clear a4 fa e4 S5 fw;symm;refine rR V.str (zs:=nms) (SqL.of er) () (λ k ys H'=> ∃zs:List Lz,ys=zs.map (λ z:Lz=>V.ref z.1)/\zs.length<=k/\Same H5 H'/\zs.map (·.2.1)=(nms.take k).filter (λ s=>decide (s≠tx []))/\ ∀z∈zs,H' z.1=some (.tup [.str z.2.1, .ref z.2.2.1])/\H' z.2.2.1=some (.tup (nv z.2.2.2))/\z.2.1≠tx []/\(z.2.1,V.ref z.2.2.1,z.2.2.2)∈kvs) #[[],rfl,Yv _,Same.refl _,rfl,by simp] ?_ ?_ ?_ ?_
 .rintro k ys H' ⟨zs,rfl,_,s',_⟩;show SqL.of (s'.get er)
 .rintro k ys H' ⟨zs,rfl,h,_⟩;rw [Qb];show h
 .rintro k nm ys H' fh ⟨zs,rfl,br,s',P,hz⟩;have et:nms.take (k+1)=nms.take k++[nm]:=by rw [Yc,fh];rfl
  let#[p,U,e1]:=Ze.mp (D.mem_iff.mp (Zg fh));replace e1:p.1=nm:=e1;subst e1;symm;refine iW (λ c=> ?_) λ c=> ?_
  .replace c:p.1≠tx []:=c;let#[k1,k2,k3,t,ei,k4]:=(b.same s').k p U c;symm;have hg:=DGet.r (k:=Sum.inr p.1) (b.same s').d;rw [jH b.n U,ei] at hg;refine#[d, .ref t,rfl,hg,?_];symm;intro u hu;refine#[zs++[(u,p.1,t,p.2.2)],by simp,by rw [Zf,Yf];rfl',s'.new hu,?_,λ z m=> ?_]
   .rw [Zb,P,et,Ø,Wp,if_pos (Yi c)];rfl
   .rcases Zh.mp m with m | m
    .obtain ⟨j1,j2,j3⟩:=hz z m;show#[aq hu j1,aq hu j2,j3]
    .rw [Za.mp m];show#[aj,aq hu k4,c,by rw [<- ei];show U]
  .refine #[zs,rfl,(),s',?_,hz];rw [P,et,Ø,Wp,if_neg (λ z=>(show p.1≠tx [] from Ys z) c)];simp
 rintro ys H6 ⟨zs,rfl,br,s6,P,hz⟩ p6 T;rw [Yh] at P;symm;refine fG (SqL.of aj) λ l hl=> ?_
 symm;intro f hf;have T6:=((s6.new (o:=HO.lst (zs.map λ z:Lz=>V.ref z.1)) T).new (o:=HO.tup (zs.map λ z:Lz=>V.ref z.1)) hl).new (o:=HO.tup [V.int (ht:Int),V.ref l]) hf;have U6:=((aD (o:=HO.lst (zs.map λ z:Lz=>V.ref z.1)) T).new (o:=HO.tup (zs.map λ z:Lz=>V.ref z.1)) hl).new (o:=HO.tup [V.int (ht:Int),V.ref l]) hf;have hF:FnT K (upd (upd (upd H6 p6 (HO.lst (zs.map λ z:Lz=>V.ref z.1))) l (HO.tup (zs.map λ z:Lz=>V.ref z.1))) f (HO.tup [V.int (ht:Int),V.ref l])) f ht (zs.map λ z:Lz=>(z.2.1,z.2.2.2)):=#[l,zs,aj,rfl,SqT.of (aq hf aj),λ z m=>#[U6.get (hz z m).1,U6.get (hz z m).2.1]];have ah: ∀z∈zs,z.2.1≠tx []/\(z.2.1,V.ref z.2.2.1,z.2.2.2)∈kvs:=λ z m=>(hz z m).2.2
 have bq: ∀z∈zs,GoodL H5 ht (z.2.1,V.ref z.2.2.1,z.2.2.2):=λ z m=>b.k _ (ah z m).2 (ah z m).1
 have d3: ∀s,s≠tx []->(∃p∈kvs,p.1=s)->s∈zs.map (·.2.1):=λ s n ⟨p,U,e⟩=>by
  rw [P];show Xh.mpr #[D.mem_iff.mpr (Ze.mpr #[p,U,e]),Yi n]
 have wf:Fo.Wf ht (zs.map λ z:Lz=>(z.2.1,z.2.2.2)):=by
  refine#[?_,by rw [Qb];rfl',?_,?_,?_,?_]
  .obtain ⟨p,U,n1,_⟩:=b.m;have:=Ws (d3 p.1 n1 #[p,U,rfl]);rw [Qb] at this ⊢;show this
  .rw [Zj,show((λ p:Str×List Nat=>p.1)∘λ z:Lz=>(z.2.1,z.2.2.2))=λ z:Lz=>z.2.1 from rfl,P];show cv.sublist List.filter_sublist
  .intro p m;let#[z,G,rfl]:=Ze.mp m;show(bq z G).1
  .intro p m;let#[z,G,rfl]:=Ze.mp m;have:=(bq z G).2.1;show#[this.1,Zy this.2 (by decide)]
  .intro p m;let#[z,G,rfl]:=Ze.mp m;show(bq z G).2.2.1
 have ge: ∀ {s:Str} {v v':V} {c c':List Nat},(s,v,c)∈kvs->(s,v',c')∈kvs->c=c':=λ {s v v' c c'} R S=>by
  have:=uU (x:=(s,v,c)) (y:=(s,v',c')) rfl b.n R S
  cases this;rfl
 have hk:Bg kvs (zs.map λ z:Lz=>(z.2.1,z.2.2.2)):=λ s co=>by
  constructor
  .intro e;let#[z,G,ez]:=Ze.mp (Fo.bW e)
   cases ez;show#[(ah z G).1,_,(ah z G).2]
  .rintro ⟨n,v,mv⟩;let#[hj,eg]:=Fo.yQ (ls:=zs.map λ z:Lz=>(z.2.1,z.2.2.2)) (s:=s) (by rw [Zj];show d3 s n #[_,mv,rfl]);let#[z,G,ez]:=Ze.mp (Fo.bW eg);have S:=(ah z G).2
   cases ez;rw [eg,ge mv S]
 generalize (zs.map λ z:Lz=>(z.2.1,z.2.2.2))=ls at hF wf hk;replace b:=b.same T6;replace ad:=T6.seq ad;replace e5:=T6.get e5;generalize upd (upd (upd H6 p6 (HO.lst (zs.map λ z:Lz=>V.ref z.1))) l (HO.tup (zs.map λ z:Lz=>V.ref z.1))) f (HO.tup [V.int (ht:Int),V.ref l])=H7 at hF b ad e5 ⊢;clear T6 U6 hz ah bq d3 ge P br s6 T hl hf er D cv gq zs nms H6 H5;have af:Fo.lk ls fs=some [c0]:=by
  let#[v0,m0]:=b.o;show(hk fs [c0]).mpr #[b.e,v0,m0]
 have d6: ∀s∈ss,s≠fs/\ ∃co,Fo.lk ls s=some co:=λ s ms=>by
  let#[n1,n2,p,U,e]:=f1 s ms;show#[n1,p.2.2,(hk _ _).mpr #[n2,p.2.1,by rw [<- e];show U]]
 walk_at "ns";symm;refine#[a,ns,7,rfl,ad,?_];symm;refine#[_,d,r3,ht,kvs,fs,c0,ls,ss,rfl,b,hk,wf.le,e5,gs,f2,(),λ s ms=>#[wf.sg _ (Fo.bW (d6 s ms).2.choose_spec),(d6 s ms).2],λ r8 H8 sh s8 e8 ft f0 g9 Y=> ?_];walk_at "ns";have e0:=b.same s8;have dg:=s8.seq ad;have eo:=hF.same s8;clear b ad hF e5 s8 f1 H7;symm;refine#[a,r8,ns,sh,rfl,dg,SqL.of e8,ft,(),λ s ms=>(Y s ms).1,λ ha H9 ds es s9 hH gd hp gp=> ?_];have e3:=e0.same s9;have bo:=s9.seq dg;have eu:=eo.same s9;have e9:=s9.get e8;clear e0 dg eo e8 s9 H8;have fe: ∀ps∈ds,(ps.map (·.1)).Nodup/\ps.length<=100:=λ ps ai=>#[qi (gd.sr ps ai),by have:=gd.ln ps ai;rfl']
 have a6:ql ls ds (.str fs) c0:=⟨fs,rfl,af,λ ps ai=>zc.mpr λ m=>by
  let#[z,G,ez]:=Ze.mp m;have R:=gp ps ai z G;rw [show z.1=fs from ez] at R;rcases (Y fs R).2 with S | S
  .exact (d6 fs S).1 rfl
  .exact Option.some_ne_none _ (af.symm.trans S),()⟩
 walk_at "ns";symm;refine#[a,ns,5,rfl,bo,?_];generalize Mm.cellAt ns 5=cl;symm;intro d8 a7;symm;refine gh (aq a7 e9) aj (by rw [Qb];simp;rfl') λ j cm=> ?_
 symm;intro bt a8;symm;have am:=((aD (o:=HO.lst [V.str fs]) a7).new (o:=HO.lst (sh.map V.str++[V.str fs])) cm).new (o:=HO.lst [V.ref r8,V.ref j]) a8;have c8:(upd (upd (upd H9 d8 (HO.lst [V.str fs])) j (HO.lst (sh.map V.str++[V.str fs]))) bt (HO.lst [V.ref r8,V.ref j])) bt=some (.lst [V.ref r8,V.ref j]):=aj;have c5:(upd (upd (upd H9 d8 (HO.lst [V.str fs])) j (HO.lst (sh.map V.str++[V.str fs]))) bt (HO.lst [V.ref r8,V.ref j])) j=some (.lst ((sh++[fs]).map V.str)):=by rw [Zb];show aq a8 aj
 generalize (upd (upd (upd H9 d8 (HO.lst [V.str fs])) j (HO.lst (sh.map V.str++[V.str fs]))) bt (HO.lst [V.ref r8,V.ref j]))=H12 at am c8 c5 ⊢;let#[v,sl,ev,hv,f4,f3,f6]: ∃ (v:Addr) (sl:List Str),oG [V.ref r8,V.ref j] (cl / 2%2)=some (.ref v)/\H12 v=some (.lst (sl.map V.str))/\0<sl.length/\sl.length<=100/\ ∀s∈sl,Hs.Sg s:=by
  have S:cl / 2%2=0\/cl / 2%2=1:=()
  rcases S with S | S
  .exact #[r8,sh,by rw [S];rfl,am.get e9,f0,(),λ s ms=>(Y s ms).1]
  .refine #[j,sh++[fs],by rw [S];rfl,c5,by simp,by simp;rfl',λ s ms=> ?_];rcases Zh.mp ms with ms | ms
   .exact (Y s ms).1
   .rw [Za.mp ms];show wf.sg _ (Fo.bW af)
 refine cQ (SqL.of c8) ev ?_;have c6:oY (ns.map V.int) (some 8) (some 208)=((ns.take 208).drop 8).map V.int:=by rw [CJ (by decide) (by decide),List.map_drop,List.map_take];rfl
 symm;refine Ku (am.seq bo) λ bv cp=> ?_
 rw [c6];have fb:((ns.take 208).drop 8).length<=63:=by rw [É,Yp];rfl'
 have bg:=aD (o:=HO.lst (((ns.take 208).drop 8).map V.int)) cp;have bi:upd H12 bv (HO.lst (((ns.take 208).drop 8).map V.int)) bv=some (.lst (((ns.take 208).drop 8).map V.int)):=aj;have be:=am.trans bg;have bb:=bg.get hv;generalize upd H12 bv (HO.lst (((ns.take 208).drop 8).map V.int))=H13 at bg bi be bb ⊢;generalize (ns.take 208).drop 8=cn at fb bi;symm;refine#[ha,v,bv,ds,es,sl,cn,cl,rfl,hH.same be,gd.wf,fe,SqL.of bb,f4,f3,f6,SqL.of bi,(),λ g0 gg g1 ga ef cx c1=> ?_];have an:=be.trans ga;have a1:=e3.same an;have cb:=an.seq bo;have b0:=eu.same an;have b4:=hH.same an;clear e3 bo eu hH an ga be bg am c5 c8 bi hv bb ev f4 f3 f6 a7 cm a8 cp fb e9 c6;clear H13 H12 H9;walk_at "ns";symm;refine#[g0,d,g1,ht,kvs,fs,c0,ls,cl,rfl,SqL.of ef,cx,c1,a1,hk,wf.le,λ f8 c2 rows bc bk hs ag=> ?_];have a2:=a1.same bc;have cc:=bc.seq cb;have b1:=b0.same bc;have b5:=b4.same bc;clear a1 cb b0 b4 ef bc cx c1 gg;walk_at "ns";symm;intro ea cq;symm;have Z:=aD (o:=HO.lst [V.int 0]) cq;have c9:upd c2 ea (HO.lst [V.int 0]) ea=some (.lst [V.int 0]):=aj;generalize upd c2 ea (HO.lst [V.int 0])=H16 at Z c9 ⊢;refine rR (λ C:List Nat=>V.str (tx C)) (zs:=rows) (SqL.of (Z.get bk)) () (λ i ys H'=>Same H16 H'/\ ∃ws:List Nat,ys=ws.map (λ n:Nat=>V.int (n:Int))/\ws.length<=i/\ ∀w∈ws,w<=8000) #[Same.refl _,[],rfl,by simp,by simp] ?_ ?_ ?_ ?_
 .rintro i ys H' ⟨s',_⟩;show SqL.of (s'.get (Z.get bk))
 .rintro i ys H' ⟨_,ws,rfl,h,_⟩;rw [Qb];show h
 .rintro i C ys H' hi ⟨s',ws,rfl,f7,bp⟩;have R:=(ag C (Zg hi)).1;symm;refine#[d,ht,kvs,fs,c0,ls,C,rfl,a2.same (Z.trans s'),hk,R,λ H2 s2=> ?_];refine#[s'.trans s2,ws++[(Fo.fM ls C).length],by rw [Zb];rfl,by rw [Zf,Yf];rfl',λ w mw=> ?_];rcases Zh.mp mw with mw | mw
  .exact bp w mw
  .rw [Za.mp mw];have:=wf.pic_le C;rfl'
 rintro ys ec ⟨eb,ws,rfl,f7,bp⟩ gu a9;symm;refine gh (aq a9 (eb.get c9)) aj (by rw [Qb];simp;rfl') λ gv cr=> ?_
 symm;refine Gs (ns:=((0:Int)::ws.map λ n:Nat=>(n:Int))) (SqL.of (by rw [aj,Zn,Zj];rfl)) (by simp) λ mx fg _=> ?_
 let#[wm,rfl,hx]: ∃wm:Nat,mx=(wm:Int)/\wm<=8000:=by
  rcases Zx.mp fg with rfl | h
  .exact #[0,rfl,by decide]
  .obtain ⟨w,mw,rfl⟩:=Ze.mp h;show#[w,rfl,bp w mw]
 have L:=((Z.trans eb).new (o:=HO.lst (ws.map λ n:Nat=>V.int (n:Int))) a9).new (o:=HO.lst ([V.int 0]++ws.map λ n:Nat=>V.int (n:Int))) cr;generalize upd (upd ec gu (HO.lst (ws.map λ n:Nat=>V.int (n:Int)))) gv (HO.lst ([V.int 0]++ws.map λ n:Nat=>V.int (n:Int)))=H18 at L ⊢;have b9:=a2.same L;have a5:=L.seq cc;have b2:=b1.same L;have b6:=b5.same L;have da:=L.get bk;clear a2 cc b1 b5 bk L cr a9 eb c9 Z cq fg f7 bp;clear ec H16 c2;symm;refine#[a,ns,6,rfl,a5,?_];symm;refine#[wm,_,rfl,λ wd hw=> ?_];walk_at "ns";symm;refine kO (SqL.of da) λ W cw=> ?_
 have M:=aD (o:=HO.lst (rows.map λ C=>V.str (tx C))) cw;have db:upd H18 W (HO.lst (rows.map λ C=>V.str (tx C))) W=some (.lst (rows.map λ C=>V.str (tx C))):=aj;generalize upd H18 W (HO.lst (rows.map λ C=>V.str (tx C)))=H19 at M db ⊢;have a3:=b9.same M;have ce:=M.seq a5;have b3:=b2.same M;have av:=b6.same M;have dc:=M.get da;clear b9 a5 b2 b6 da M cw H18;walk_at "ns";symm;refine#[d,ha,f8,ht,kvs,fs,c0,ls,ds,es,rows,wd,rfl,a3,hk,wf,av,gd.wf,fe,SqL.of dc,(),ag,(),λ du ed X dl=> ?_];have ca:=a3.same X;have cf:=X.seq ce;have ap:=b3.same X;have aw:=av.same X;have de:=X.get dc;have bn:=X.get db;clear a3 ce b3 av dc db X H19;walk_at "ns";symm;refine#[f,ha,W,ht,ls,ds,es, .str fs,rows,wd,rfl,F1,F2,hr,nY (wf.sg _ (Fo.bW af)),ap,wf,aw.g,gd,gd.wf,SqL.of bn,(),λ C m=>(ag C m).1,(),oA a6 λ fo gi al ae=> ?_];have fz:Sh 1 (.list ((rows.map tx).map PyData.str)):=nR λ l ml c mc=>(ag l ml).2 c mc
 walk_at "ns";symm;refine rNeD.same ae.e.dp (dl.same al).dp (Ed _) (by decide) ?_;symm;refine rNeD.same (Dp.txs (SqL.of (al.get bn))) (Dp.txs (SqL.of (al.get de))) fz (by decide) ?_;walk_at "gj";walk_at "ns";with_reducible refine yK (λ σ' H'=>Same ed H'/\σ'=[some (V.ref a),some (V.int (ht:Nat)),some (V.ref d),some (V.str fs),some (V.ref r8),some (V.ref f),some (V.ref ha),some (V.int cl),some (V.ref f8),some (V.int (wm:Nat)),some (V.int (wd:Nat)),some (V.ref W),some (V.ref du),some (V.ref fo),none]) ?_ ?_
 rotate_left
 .intro N kN
  cases epg:iu (cN ls ds es c0 wd) rows with
  | inl i=>
   rw [epg] at ae;let#[p,R,S]:=ae;symm;refine lE R ?_;symm;show kN _ _ #[al,rfl]
  | inr yss=>
   rw [epg] at ae;let#[r,p,zs,ez,R,S,h3,h4,h5]:=ae;let#[l1,l2]:=zX epg;have br:zs.length<=1000:=by
    have:zs.length=rows.length:=by rw [<- l1,<- ez,Qb]
    rfl'
   symm;refine lE R ?_;symm;refine rP (by intro z;cases z) ?_;symm;refine lE R ?_;symm;refine#[r,zs,rfl,h3,λ z G=>#[(h4 z G).1,(h4 z G).2.2,?_],h5,br,λ bd gc=> ?_]
   .obtain ⟨C,gn⟩:=l2 z.2 (by rw [<- ez];show Ze.mpr #[z,G,rfl]);rw [zY gn];rfl'
   .symm;refine kN _ _ #[λ x o e=>gc x o (λ m=> ?_) (al.get e),rfl];let#[z,G,rfl]:=Ze.mp m;rw [(h4 z G).2.1] at e
    cases e
 rintro σ' bd ⟨I,rfl⟩;have ey:=ca.same I;have e7:=I.seq cf;have ar:=ap.same I;have ax:=aw.same I;have gk:=I.get de;have df:=I.get bn;have dm:=dl.same I;clear ca cf ap aw de bn dl ae al I;clear gi ed;let#[d1,d2,F,R,ej,em,h4,h5]:=id ax;have cy:F.length=ds.length:=by rw [<- ej,Qb]
 symm;refine lE R ?_;symm;intro J fn;symm;intro p5 d4;have S5:=(aD (o:=HO.tup []) fn).new (o:=HO.tup [V.ref J]) d4;have g4:upd (upd bd J (HO.tup [])) p5 (HO.tup [V.ref J]) J=some (.tup []):=aq d4 aj;have g5:upd (upd bd J (HO.tup [])) p5 (HO.tup [V.ref J]) p5=some (.tup [V.ref J]):=aj;generalize upd (upd bd J (HO.tup [])) p5 (HO.tup [V.ref J])=H5 at S5 g4 g5 ⊢;clear fn d4;symm;refine lE (S5.get R) ?_;symm;refine il (S5.tup em) ?_;rw [Qb];symm;have ek:((39:Int)-(F.length:Int)).toNat=39-F.length:=()
 refine#[p5,_,_,rfl,rfl,SqT.of g5,by simp,(),(),?_,λ p6 T=> ?_]
 .rw [ek];show Zy (show 1*(39-F.length)<=40 by rfl') (by decide)
 rw [ek,List.flatten_replicate_singleton];symm;refine#[d1,p6,_,_,rfl,rfl,(aD T _).tup (S5.tup em),SqT.of aj,?_,?_,λ z=> ?_,λ _ p7 fq=> ?_]
 .intro z;have:=gd.r1;rw [Wn] at z;rw [z] at cy;simp at cy;rfl'
 .rw [Qb,Yo];show Zy (show F.length+(39-F.length)<=40 by rfl') (by decide)
 .have:=Zk List.length z;rw [Yo] at this;simp at this;rfl'
 have T7:=(aD (o:=HO.tup (List.replicate (39-F.length) (V.ref J))) T).new (o:=HO.tup (F.map (λ r=>V.ref r.1)++List.replicate (39-F.length) (V.ref J))) fq;have g7:upd (upd H5 p6 (HO.tup (List.replicate (39-F.length) (V.ref J)))) p7 (HO.tup (F.map (λ r=>V.ref r.1)++List.replicate (39-F.length) (V.ref J))) p7=some (.tup (F.map (λ r=>V.ref r.1)++List.replicate (39-F.length) (V.ref J))):=aj;have T5:=S5.trans T7;replace g4:=T7.get g4;generalize upd (upd H5 p6 (HO.tup (List.replicate (39-F.length) (V.ref J)))) p7 (HO.tup (F.map (λ r=>V.ref r.1)++List.replicate (39-F.length) (V.ref J)))=H7 at T7 g7 T5 g4 ⊢;clear T fq S5 g5;walk_at "ns";symm;refine Gw (T5.get R) ?_;symm;intro p8 d5;have T8:=T5.new (o:=HO.tup [V.ref p7,V.ref d2]) d5;have ew:HsG K (upd H7 p8 (HO.tup [V.ref p7,V.ref d2])) p8 (ds++List.replicate (39-F.length) []) es:=HsF.bigG ej (λ r mr=>(h4 r mr).same T8) aj (aq d5 g7) (aq d5 g4) (T8.get h5);have el:GoodH (ds++List.replicate (39-F.length) []) es:=gd.big ();generalize upd H7 p8 (HO.tup [V.ref p7,V.ref d2])=H8 at T8 ew ⊢;have hq:(ds++List.replicate (39-F.length) ([]:L1S)).length=39:=by rw [Zf,Yo];rfl'
 have dn:ql ls (ds++List.replicate (39-F.length) []) (.str fs) c0:=⟨fs,rfl,af,λ ps ai=>by
  rcases Zh.mp ai with m | m
  .obtain ⟨s',e1,_,h,_⟩:=a6
   cases e1;show h ps m
  .rw [(ï.mp m).2];rfl,()⟩
 have fy:=nY (H:=H8) (wf.sg _ (Fo.bW af));symm;refine#[f,p8,W,ht,ls,_,es, .str fs,rows,wd,rfl,F1,F2,hr,fy,ar.same T8,wf,ew,el,el.wf,SqL.of (T8.get df),(),λ C m=>(ag C m).1,(),oA dn λ hm hc g2 ci=> ?_];rw [zV gd.wf] at ci;have O:=T8.trans g2;symm;refine rNeD.same ci.e.dp (dm.same O).dp (Ed _) (by decide) ?_;symm;refine#[a,f,d,ha,W,ns,ht,kvs,fs,c0,ls,ds,es,rows,wd,rfl,F1,F2,hr,O.seq e7,ar.same O,wf,ey.same O,hk,ax.same O,gd,(),SqL.of (O.get df),(),λ C m=>(ag C m).1,(),λ he g3=> ?_];have gj:=O.trans g3;symm;intro gx fk;symm;have c3:=gj.new (o:=HO.lst []) fk;refine#[f,ha,gx,ht,ls,ds,es, .str fs,[],wd,rfl,F1,F2,hr,fy,ar.same c3,wf,(ax.same c3).g,gd,gd.wf,SqL.of aj,by simp,by simp,(),oA a6 λ hn hh g6 ff=> ?_];have ee:=c3.trans g6;symm;intro gy fl;symm;intro gz ct;symm;intro hy ba;have c4:=((aD (o:=HO.lst []) fl).new (o:=HO.lst []) ct).new (o:=HO.tup [V.ref gy,V.ref gz]) ba;refine rEqD.same (ff.e.same c4).dp (Ea (zs:=[]) aj (aq ba aj) (aq ba (aq ct aj)) (by simp)) (Ec []) (by decide) ?_;symm;refine rEqD.same (Dp.txs (SqL.of (c4.get (ee.get df)))) (Dp.txs (SqL.of (c4.get (ee.get gk)))) fz (by decide) ?_;symm;show q _
theorem HX (h:sp_f36 K vs H Q E):vs.length=1:=by
 let#[_,_,rfl,_]:=h;rfl
end Pg
set_option Elab.async false
set_option linter.all false
set_option maxRecDepth 100000
namespace Pg
open PySem L2 PySem.W
set_option maxHeartbeats 0
variable {d:Nat} {n:Str} {sp:Sp} {st:Stmt} {w:World} {t:Option Addr} {mg:Str->Option Value}
theorem HY:FnScope ["thing"] ["thing"] (az (top 17)):=by ac_rfl
theorem Ia:FnScope ["thing"] ["thing"] (az (top 18)):=by ac_rfl
theorem Al:FnScope ["font","sign","letter","columns"] ["font","sign"] (az (top 20)):=by ac_rfl
theorem Am:FnScope ["rooms"] ["rooms"] (az (top 24)):=by ac_rfl
theorem An:FnScope ["room","rooms"] ["room","rooms"] (az (top 27)):=by ac_rfl
theorem Ao:FnScope ["pairs","rooms","made","sign","room"] ["pairs","rooms"] (az (top 25)):=by ac_rfl
theorem Aq:FnScope ["ends","rooms","made","end"] ["ends","rooms"] (az (top 26)):=by ac_rfl
theorem tX:FnScope ["doors","ends","rooms"] ["doors","ends"] (az (top 23)):=by ac_rfl
theorem Lk:FnScope ["doors","sign","letter","room"] ["doors","sign"] (az (top 29)):=by ac_rfl
theorem Ib:FnScope ["house","text","room","sign"] ["house","text"] (az (top 28)):=by ac_rfl
theorem Ie:FnScope ["house","text"] ["house","text"] (az (top 30)):=by ac_rfl
theorem Ar:FnScope ["house","filler","pairs","last","doors","ends","end"] ["house","filler"] (az (top 32)):=by ac_rfl
theorem Av:FnScope ["font","text","strip","sign"] ["font","text"] (az (top 34)):=by ac_rfl
theorem Ef:FnScope ["font","filler"] ["font","filler"] (az (top 38)):=by ac_rfl
theorem Aw:FnScope ["font","house","filler"] ["font","house","filler"] (az (top 37)):=by ac_rfl
theorem Ax:FnScope ["font","house","filler","row","wide","picture"] ["font","house","filler","row","wide"] (az (top 39)):=by ac_rfl
theorem Ay:FnScope ["font","house","filler","rows","wide"] ["font","house","filler","rows","wide"] (az (top 36)):=by ac_rfl
theorem Ln:FnScope ["script","k"] ["script","k"] (az (top 41)):=by ac_rfl
theorem Ig:FnScope ["found"] ["found"] (az (top 42)):=by ac_rfl
theorem Az:FnScope ["some"] [] (az (top 43)):=by ac_rfl
theorem Lp:FnScope ["cell"] ["cell"] (az (top 44)):=by ac_rfl
theorem Lq:FnScope ["cell","many","height","found","k","number"] ["cell","many","height"] (az (top 45)):=by ac_rfl
theorem Lr:FnScope ["script","height","menu","cell","many","at","letters","k","number"] ["script","height"] (az (top 46)):=by ac_rfl
theorem tY:FnScope ["script","signs","cell","many","doors","room","found","k","number","ends"] ["script","signs"] (az (top 47)):=by ac_rfl
theorem Ih:FnScope ["house","text","room","sign","doors"] ["house","text"] (az (top 48)):=by ac_rfl
theorem tZ:FnScope ["house","signs","cells","way","rows","cell","found","row","taken"] ["house","signs","cells","way"] (az (top 49)):=by ac_rfl
theorem Ii:FnScope ["letters","row"] ["letters","row"] (az (top 50)):=by ac_rfl
theorem Ij:FnScope ["at"] ["at"] (az (top 51)):=by ac_rfl
theorem Ik:FnScope ["letters","house","rows","wide","due","row","strip","sign","blank"] ["letters","house","rows","wide"] (az (top 52)):=by ac_rfl
theorem u0:FnScope ["font","house","filler","rows","wide","found","kinds","e"] ["font","house","filler","rows","wide"] (az (top 53)):=by ac_rfl
theorem Eg:FnScope ["found","strip","column","kept"] ["found"] (az (top 54)):=by ac_rfl
theorem Ba:FnScope ["cell","letters","signs","house","lacked","filler","some"] ["cell","letters","signs","house"] (az (top 55)):=by ac_rfl
theorem Ei:FnScope ["rows","letters","cell","found","lacked","at","where","sign"] ["rows","letters","cell"] (az (top 56)):=by ac_rfl
theorem Il:FnScope ["widest","cell"] ["widest","cell"] (az (top 57)):=by ac_rfl
theorem Ej:FnScope ["cell","letters","known","lacked"] ["cell","letters","known"] (az (top 58)):=by ac_rfl
theorem Bb:FnScope ["script","font","letters","house","rows","wide","none","signs","big","bad"] ["script","font","letters","house","rows","wide"] (az (top 59)):=by ac_rfl
theorem oE:FnScope ["script","height","letters","filler","signs","font","house","cell","rows","widest","wide","handed","due","found","big"] ["script"] (az (top 60)):=by ac_rfl
inductive DI (K:Frag) (n:Str) (st:Stmt) (dv:Value):Prop
 | mk {f:Addr} {oc kV dc pm cd ct:Value} {od an:Option Addr} {sl:Array (Option Value)} (a:nsIn K mainGlobals n=some (some (.ref f))) (l:K.lookup f=some #[oc,od, .func (fnOf n n (cX st) (cA st) (az st) dv kV dc pm an cd ct),sl]) (q:codeIn K cd n=true) (k:keepIn K (.ref f)=true):DI K n st dv
def Qo:Option Addr->Value
 | none=> .none
 | some t=> .ref t
theorem dG {K:Frag} {i:Nat} (h:Io K n=Ip t n i):DI K n (top i) (Qo t):=by
 unfold Io Ip at h;split at h
 .rename_i f v;split at h
  .rename_i c H d I w;let#[t',b,e]:=Yk.mp h;simp only [Prod.mk.injEq] at e;let#[rfl,l,m,o,p,q,r,s,u,j,a]:=e;let#[F,G,dp,B,ds,D,C,dd,E,k,A,x,g,z,y]:=d;dsimp only at l m o p q r s u j b;subst l m o p q r s u;split at b
   .cases b;show .mk v w j a
   .cases b;show .mk v w j a
   .cases b
  .cases h
 .cases h
theorem bQ {K:Frag} {C:Addr} (h:Mj K C=qp):ExcK K C:=by
 simp only [Mj,qp,Prod.mk.injEq,List.cons.injEq,and_true] at h;let#[a,#[b,c,d,e],f,g,i]:=h;show#[a,b,c,d,e,f,g,i]
theorem cB {a d:Type} {f:a->d} {l:List a} {r:List d} (h:l.map f=r) (i:Nat) {b:a} {c:d} (g:l[i]? =some b) (e:r[i]? =some c):f b=c:=by
 rw [<- h,Zm,g] at e;show Zr e
theorem ck {P:Program} {K:Frag} {base h:Heap} {c:List Str} (X:K.In h) (G:h.Ns mainGlobals mg) (D:DI K n st .none)
  (b: ∀ (kV g j:Value) (i:Option Addr) (e ct:Value) (us:List Value),us.length=c.length->bindArgs (fnOf n n (cX st) (cA st) (az st) .none kV g j i e ct) #[us,[]]=pure (c.zip us))
  (o: ∀f fd,Fun K n n st f fd->FnOk P w K mg base DG d f fd c sp):Cal P w K mg base d n c sp:=by
 let#[a,l,q,k]:=D;show#[_,_,o _ _ (jN l q k),(jN l q k).binds b,k,mg_of X G a]
theorem wk {P:Program} {K:Frag} {base h:Heap} {c:List Str} (X:K.In h) (G:h.Ns mainGlobals mg) (D:DI K n st .none)
  (b: ∀ (kV g j:Value) (i:Option Addr) (e ct:Value) (us:List Value),us.length=c.length->bindArgs (fnOf n n (cX st) (cA st) (az st) .none kV g j i e ct) #[us,[]]=pure (c.zip us))
  (o: ∀f fd,Fun K n n st f fd->FnOk P w K mg base (iK P w) d f fd c sp):CalX P w K mg base d n c sp:=by
 let#[a,l,q,k]:=D;show#[_,_,o _ _ (jN l q k),(jN l q k).binds b,k,mg_of X G a]
section
abbrev v0 {X:Cx}:= @pv X 0
abbrev v1 {X:Cx}:= @pv X 1
abbrev v2 {X:Cx}:= @pv X 2
abbrev v3 {X:Cx}:= @pv X 3
abbrev v4 {X:Cx}:= @pv X 4
abbrev v5 {X:Cx}:= @pv X 5
abbrev v6 {X:Cx}:= @pv X 6
abbrev v7 {X:Cx}:= @pv X 7
abbrev v8 {X:Cx}:= @pv X 8
abbrev v9 {X:Cx}:= @pv X 9
abbrev Ls {X:Cx}:= @pv X 10
abbrev Lx {X:Cx}:= @pv X 11
abbrev PX {X:Cx}:= @pv X 12
abbrev O5 {X:Cx}:= @pv X 13
abbrev Qp {X:Cx}:= @pv X 14
set_option hygiene false
local macro_rules | `(#[$a]) => `(cu $a bB) | `(#[$a, $b,*]) => `(cu $a #[$b,*])
local macro_rules | `(($a, $b)) => `(oK $a (aF $b)) | `(($a, $b, $c,*)) => `(oK $a ($b, $c,*))
local macro_rules | `($a + $b) => `(jj (BW K rfl) $a $b (λ _ _ => rfl))
local macro_rules | `($a - $b) => `(jj (iI K rfl) $a $b (λ _ _ => rfl))
local macro_rules | `($a < $b) => `(wV $a rfl (by assumption) (by decide +kernel) $b)
local macro_rules | `($a > $b) => `(dF ($a X G e2 z_isinstance z_bool z_int z_len z_str z_ord z_list z_tuple z_sorted z_range z_dict z_sum z_max g_LEFT_OUT g_MOST_ROOMS k_BlotError k_NotAlike k_OffStrip k_NoSheet k_NoFont k_NoSign k_NoHouse k_NoWords k_TooWide k_NoFiller k_NotTaken k_NoRow k_NoName k_NoNote) hr (by decide) rfl $b)
local macro_rules | `($a && $b) => `(j0 (i := $a) nd rfl (Or.inl rfl) $b)
local macro_rules | `(↑$a) => `(mF (i := $a) nd rfl (Or.inl rfl))
local macro_rules | `($a :: $b :: $c) => `(gY PassesOwn.never rfl $a $b $c)
local macro_rules | `($a ++ $b) => `(xM K rfl PySem.F.plainAttrs_list PySem.F.slot_list_append PySem.F.type_list_append vB $a $b)
local macro_rules | `($a ^ $b ^ $c ^ $d) => `(Cal pWo w K mg base $a $b $c ($d K))
local macro_rules | `($a / $b / $c / $d / $e / $f / $g / $h) => `(Ji $a $b rfl $c (show CScope (az (top $d)) _ from ⟨rfl, by decide +kernel, by decide +kernel, by decide +kernel⟩) (show capOk $a $b ($e : List Str) _ = true from by decide +kernel) (λ _ _ _ _ _ _ => $f) (λ _ _ _ _ _ _ => $g) (λ _ _ _ _ _ _ => $h)) | `($a / $b / $c / $d / $e / $f) => `(ck (st := top $b) X G (dG (cB e2 $a rfl rfl)) (by first | exact λ _ _ _ _ _ _ => ar1 λ _ => rfl | exact λ _ _ _ _ _ _ => ar2 λ _ _ => rfl | exact λ _ _ _ _ _ _ => PN λ _ _ _ => rfl | exact λ _ _ _ _ _ _ => Ql λ _ _ _ _ => rfl | exact λ _ _ _ _ _ _ => O1 λ _ _ _ _ _ => rfl | exact λ _ _ _ _ _ _ => Qm λ _ _ _ _ _ _ => rfl) λ _ _ F => F.ok $c (λ _ _ _ _ h => by cases h; subst_vars; rfl) λ cdv A outer s H vs Q E hr h => by have nd := ($c).nd; obtain ⟨Eh, h⟩ := $d h; exact ⟨$e K E Eh, $f, h⟩) | `($a / $b) => `(mF (i := $a) (show List.Nodup ($b : List Str) by decide +kernel) rfl (Or.inl rfl))
section
variable {w:World} {K:Frag} {h:Heap} {mg:Str->Option Value} {base:Heap} (X:K.In h) (G:h.Ns mainGlobals mg) (e2:Ir.map (λ d=>Io K d.1)=Ir.map (λ d=>Ip none d.1 d.2)) (z_isinstance:mg "isinstance"=none) (z_bool:mg "bool"=none) (z_int:mg "int"=none) (z_len:mg "len"=none) (z_str:mg "str"=none) (z_ord:mg "ord"=none) (z_list:mg "list"=none) (z_tuple:mg "tuple"=none) (z_sorted:mg "sorted"=none) (z_range:mg "range"=none) (z_dict:mg "dict"=none) (z_sum:mg "sum"=none) (z_max:mg "max"=none) {gv_LEFT_OUT:Value} (g_LEFT_OUT:mg "LEFT_OUT"=some gv_LEFT_OUT/\RelV (V.int 37) gv_LEFT_OUT) {gv_MOST_ROOMS:Value} (g_MOST_ROOMS:mg "MOST_ROOMS"=some gv_MOST_ROOMS/\RelV (V.int 40) gv_MOST_ROOMS) (k_BlotError:mg "BlotError"=some (.ref wj)/\ExcK K wj) (k_NotAlike:mg "NotAlike"=some (.ref gH)/\ExcK K gH) (k_OffStrip:mg "OffStrip"=some (.ref gJ)/\ExcK K gJ) (k_NoSheet:mg "NoSheet"=some (.ref qx)/\ExcK K qx) (k_NoFont:mg "NoFont"=some (.ref qy)/\ExcK K qy) (k_NoSign:mg "NoSign"=some (.ref dW)/\ExcK K dW) (k_NoHouse:mg "NoHouse"=some (.ref fO)/\ExcK K fO) (k_NoWords:mg "NoWords"=some (.ref qz)/\ExcK K qz) (k_TooWide:mg "TooWide"=some (.ref cZ)/\ExcK K cZ) (k_NoFiller:mg "NoFiller"=some (.ref iY)/\ExcK K iY) (k_NotTaken:mg "NotTaken"=some (.ref d7)/\ExcK K d7) (k_NoRow:mg "NoRow"=some (.ref qC)/\ExcK K qC) (k_NoName:mg "NoName"=some (.ref qD)/\ExcK K qD) (k_NoNote:mg "NoNote"=some (.ref qF)/\ExcK K qF)
include X G e2 z_isinstance z_bool z_int z_len z_str z_ord z_list z_tuple z_sorted z_range z_dict z_sum z_max g_LEFT_OUT g_MOST_ROOMS k_BlotError k_NotAlike k_OffStrip k_NoSheet k_NoFont k_NoSign k_NoHouse k_NoWords k_TooWide k_NoFiller k_NotTaken k_NoRow k_NoName k_NoNote
theorem Ly:1^"is_whole"^["thing"]^sp_f28:=0 / 17 / HY / Gx / su / (aF (aH (mD (bT K rfl< #[v0,f9 (v:= .ty "int") (u:= .type "int") rfl z_int (by ac_nf) rfl]) (mC (wB (bT K rfl< #[v0,f9 (v:= .ty "bool") (u:= .type "bool") rfl z_bool (by ac_nf) rfl]))))))
theorem Bc:1^"is_sign"^["thing"]^sp_f30:=1 / 18 / Ia / Gy / sE / (aZ (PW.pt (wA (d9 (bz K rfl (bT K rfl< #[v0,f9 (v:= .ty "str") (u:= .type "str") rfl z_str (by ac_nf) rfl]) (λ _=>rfl))) (qG (aM oU (aN K rfl< #[v0]) ao (aQ _))))) (aF (aH fK)) aL,
  aH (mD (wL lR lR bj v0 bj) (mC (dJ oU (wO< #[v0]) (bR rfl g_LEFT_OUT.1 g_LEFT_OUT.2) (aQ _)))))
theorem LC:1^"room_behind"^["doors","sign"]^sp_f9:=8 / 29 / Lk / KQ / zb / (iJ K rfl v0::mW K rfl rfl (dX ↑2 (dX ↑3 mG))::aF (aZ (aM dY v2 v1 (aQ _)) (aF (aH v3)) aL),
  aH fU)
theorem LK:2^"goes"^["house","text"]^sp_f34:=9 / 28 / Ib / Hd / sV / (2&&ao,
  fu v1:: ↑3::(2&&LC> #[v0+ao+v2,v3],
  aZ (aM Ez v2 fU (aQ _)) (aF (aH fU)) aL),
  aH v2)
theorem LQ:3^"takes"^["house","text"]^sp_f33:=10 / 30 / Ie / Hf / sW / (aF (aH (dJ (jV K rfl) (LK> #[v0,v1]) (v0+ao) (by with_unfolding_all rfl))))
theorem oF:1^"_law_cell_at"^["script","k"]^sp_f3:=17 / 41 / Ln / KZ / zp / (aZ (aM Dw v1 (aN K rfl< #[v0]) (aQ _)) (aF (aH (v0-v1))) aL,
  aH ao)
theorem LR:1^"_law_whole"^["found"]^sp_f13:=18 / 42 / Ig / Ht / tD / (aF (aH (mD (bT K rfl< #[v0,f9 (v:= .ty "int") (u:= .type "int") rfl z_int (by ac_nf) rfl]) (mC (wB (bT K rfl< #[v0,f9 (v:= .ty "bool") (u:= .type "bool") rfl z_bool (by ac_nf) rfl]))))))
theorem O6:1^"_law_height"^["cell"]^sp_f6:=20 / 44 / Lp / La / zq / (aZ (aM dY (aB aR v0 ao) ao (aQ _)) (aF (aH (aB bU ao (aB aR (aB bG v0 ao) ao)))) aL,
  aH (aB bU ao (aB aR (aB bG v0 ao) ao)))
theorem M3:1^"_law_columns"^["cell","many","height"]^sp_f5:=21 / 45 / Lq / Lb / zu / (3&&b8 bB,
  cR rfl z_range #[v1]:: ↑4::(5&&aB bU (aB cU v0 (aB bU (aB cU ao v4) ao)) (aB cU v4 v4),
  bH (v3++ #[aB aR (aB bG (aB cU v5 ao) ao) (aB Ex ao v2)])),
  aH (aX (bD K rfl) rfl z_tuple (by ac_nf) #[v3]))
theorem M4:2^"_law_house"^["script","signs"]^sp_f19:=23 / 47 / tY / Hx / tH / (j0 (i:=2) tY.nd rfl (Or.inr rfl) (oF> #[v0,ao]),
  3&&aB bU ao (aB aR v2 ao),
  4&&b8 bB,
  cR rfl z_range #[v3]:: ↑5::(6&&b8 bB,
  cR rfl z_range #[aN K rfl< #[v1]]:: ↑7::(8&&aB bU (aB bG v2 ao) (aB cU (aB cU ao (aB bU (aB bU (aB cU v5 ao) v7) ao)) (aB bU (aB bU v5 v7) ao)),
  8&&aB aR (aB cU v8 ao) ao,
  aZ (aM oU (aB aR v8 ao) ao (aQ _)) (aF (bH (v6++ #[bN #[v1-v7,aB aR (aB bG v8 ao) v3]]))) aL),
  bH (v4++ #[aX (rG K rfl) rfl z_tuple (by ac_nf) #[v6]])),
  jT (i:=9) [none,some 2] ["room","cell"] rfl tY.nd rfl rfl (cR rfl z_range #[v3]) (show CScope (az (top 47)) _ from ⟨rfl,by ac_nf,by ac_nf,by ac_nf⟩) (show capOk [none,some 2] ["room","cell"] (["script","signs","cell","many","doors","room","found","k","number","ends"]:List Str) _=true from by ac_nf) (λ _ _ _ _ _ _=>(0 / ["room","cell"])) (λ _ _ _ _ _ _=>cG (aM dY (aB aR (aB Ey (aB bG v1 ao) v0) ao) ao (aQ _))) (λ _ _ _ _ _ _=>v0),
  aH (bN #[aX (bD K rfl) rfl z_tuple (by ac_nf) #[v4],aX (bD K rfl) rfl z_tuple (by ac_nf) #[v9]]))
theorem Ek:1^"_law_takes"^["house","text"]^sp_f12:=24 / 48 / Ih / Hy / tK / (2&&ao,
  fu v1:: ↑3::(4&&aX (nJ K rfl rfl) rfl z_dict (by ac_nf) #[v0+ao+v2],
  aZ (gW (eE (c7 hr) v3 v4) (by with_unfolding_all rfl)) (aF (aH fK)) aL,
  2&&cY (c7 hr) v4 v3 (λ _ _=>rfl)),
  aH (dJ (jV K rfl) v2 (v0+ao) (by with_unfolding_all rfl)))
theorem M5:2^"_law_rows"^["house","signs","cells","way"]^sp_f24:=25 / 49 / tZ / Hz / tL / (4&&b8 #[bj],
  bF K rfl v2:: ↑5::(aZ (PW.pt (wA (aM dY (aB aR v5 ao) ao (aQ _)) (qG (aM dY (aN K rfl< #[v4-oR jL ao]) ao (aQ _))))) (aF (bH (v4++ #[bj]))) aL,
  wG (aB dz (v4-oR jL ao) (v1-aB aR (aB aR (aB cU v5 ao) ao) (aN K rfl< #[v1]))) (wF v4 (oR jL ao) set_list)),
  aZ (aM dY (aB aR v3 ao) ao (aQ _)) (aF (aH v4)) aL,
  6&&b8 bB,
  bF K rfl v4::mF (i:=7) tZ.nd rfl (Or.inr rfl)::(jT (i:=8) [none,some 0,some 7] ["k","house","row"] rfl tZ.nd rfl rfl (cR rfl z_range #[aB bU (aN K rfl< #[v7]) ao]) (show CScope (az (top 49)) _ from ⟨rfl,by ac_nf,by ac_nf,by ac_nf⟩) (show capOk [none,some 0,some 7] ["k","house","row"] (["house","signs","cells","way","rows","cell","found","row","taken"]:List Str) _=true from by ac_nf) (λ _ _ _ _ _ _=>(0 / ["k","house","row"])) (λ _ _ _ _ _ _=>cG (bz K rfl (Ek> #[v1,fV ni v2 jx (gw v0)]) (λ _=>rfl))) (λ _ _ _ _ _ _=>v0),
  aZ (aM (fB K rfl hr.units) v8 (b8 bB) (aQ _)) (aF (bH (v6++ #[fV ni v7 jx (gw (v8-oR jL ao))]))) aL),
  aH v6)
theorem M6:1^"_law_wide"^["letters","row"]^sp_f26:=26 / 50 / Ii / HB / tM / (aF (aH (vK K rfl rfl< #[[none,some 0] / ["sign","letters"] / fu v1 / 50 / ["letters","row"] / (0 / ["sign","letters"]) / fj / (aN K rfl< #[xx (c7 hr) v1 v0 (bN bB) ⟨rfl,rfl,rfl,rfl⟩])])))
theorem uW:1^"_law_only"^["at"]^sp_f23:=27 / 51 / Ij / HD / tO / (aF (aH (bN #[fU,[none,some 0] / ["k","at"] / cR rfl z_range #[ao] / 51 / ["at"] / (0 / ["k","at"]) / fj / dJ dY v0 v1 (aQ _)])))
theorem M7:2^"_law_due"^["letters","house","rows","wide"]^sp_f29:=28 / 52 / Ik / HF / tQ / (4&&b8 bB,
  bF K rfl v2:: ↑5::(aZ (aM (fB K rfl hr.units) ([none,some 0] / ["sign","letters"] / fu v5 / 52 / ["letters","house","rows","wide","due","row","strip","sign","blank"] / (0 / ["sign","letters"]) / cG (gW (eE (c7 hr) v0 v1) (by with_unfolding_all rfl)) / v0) (b8 bB) (aQ _)) (aF (aH (uW> #[ao]))) aL,
  aZ (d9 (bz K rfl (Ek> #[v1,v5]) (λ _=>rfl))) (aF (aH (uW> #[ao]))) aL,
  6&&b8 bB,
  fu v5:: ↑7::aF (6&&aB dC v6 (aX (bx K rfl) rfl z_list (by ac_nf) #[cY (c7 hr) v0 v7 (λ _ _=>rfl)])),
  aZ (aM oV (aN K rfl< #[v6]) v3 (aQ _)) (aF (aH (uW> #[ao]))) aL,
  8&&aX (bx K rfl) rfl z_list (by ac_nf) #[cY (c7 hr) v0 (cY (c7 hr) v0 bj (λ _ _=>rfl)) (λ _ _=>rfl)],
  bH (v4++ #[aB dC v6 (aB xf v8 (aB j5 v3 (aN K rfl< #[v6])))])),
  aH (bN #[v4,b8 bB]))
theorem O7:2^"_law_strips"^["found"]^sp_f7:=30 / 54 / Eg / Lg / zP / (aZ (d9 (bz K rfl (bT K rfl< #[v0,f9 (v:= .ty "list") (u:= .type "list") rfl z_list (by ac_nf) rfl]) (λ _=>rfl))) (aF (aH fK)) aL,
  bF K rfl v0:: ↑1::(aZ (d9 (bz K rfl (bT K rfl< #[v1,f9 (v:= .ty "list") (u:= .type "list") rfl z_list (by ac_nf) rfl]) (λ _=>rfl))) (aF (aH fK)) aL,
  bF K rfl v1:: ↑2::aF (aZ (d9 (bz K rfl (LR> #[v2]) (λ _=>rfl))) (aF (aH fK)) aL)),
  jT (i:=3) [none] ["strip"] rfl Eg.nd rfl rfl (bF K rfl v0) (show CScope (az (top 54)) _ from ⟨rfl,by ac_nf,by ac_nf,by ac_nf⟩) (show capOk [none] ["strip"] (["found","strip","column","kept"]:List Str) _=true from by ac_nf) (λ _ _ _ _ _ _=>(0 / ["strip"])) (λ _ _ _ _ _ _=>fj) (λ _ _ _ _ _ _=>(aX (bx K rfl) rfl z_list (by ac_nf) #[v0])),
  aZ (aM oV (aN K rfl< #[v3]) ao (aQ _)) (bH ((v3-ao)++ #[ao]),
  bH ((v0-ao)++ #[ao])) aL,
  aH (dJ (jz K rfl hr.units) v0 v3 (aQ _)))
theorem M8:1^"_law_room"^["widest","cell"]^sp_f20:=33 / 57 / Il / HN / tU / (aZ (aM dY (aB aR v1 ao) ao (aQ _)) (aF (aH (aB bU v0 (aB aR (aB bG v1 ao) ao)))) aL,
  aZ (aM dY (aB aR v1 ao) ao (aQ _)) (aF (aH (aB j5 ao (aB aR (aB bG v1 ao) ao)))) aL,
  aH (vo rfl< #[ao,aB j5 v0 (aB aR (aB bG v1 ao) ao)]))
end
theorem Im {K:Frag} {h:Heap} {fa:Addr} (X:K.In h) (G:h.Ns mainGlobals mg) (hfa:mg "law"=some (.ref fa)) (e:obs K=ans)
  : ∃fd:FuncData,(∀ (s:Shared) (v:Value),BindsTo s fd ⟨[v],[]⟩ [Prod.mk "script" v])/\ ∀base:Heap,K.In base->base.Ns mainGlobals mg->FnOk pWo w K mg base DG 10 fa fd ["script"] (sp_f36 K):=by
 have e1:nms.map (nsIn K mainGlobals)=O8:=Zk (·.1) e;have e2:Ir.map (λ d=>Io K d.1)=Ir.map (λ d=>Ip none d.1 d.2):=Zk (·.2.1) e;have e3:=Zk (·.2.2.1) e;obtain @⟨_,_,kV,dc,pm,cd,ct,_,an,_,a,lL,qL,kL⟩:=dG (cB e2 36 rfl rfl:Io K "law"=Ip none "law" 60)
 cases hfa.symm.trans (mg_of X G a);refine ⟨fnOf "law" "law" (cX (top 60)) (cA (top 60)) (az (top 60)) .none kV dc pm an cd ct,λ s v=> .of_eq rfl,λ base _ _=> ?_⟩;have z_isinstance:mg "isinstance"=none:=mg_none_of X G (cB e1 0 rfl rfl);have z_bool:mg "bool"=none:=mg_none_of X G (cB e1 1 rfl rfl);have z_int:mg "int"=none:=mg_none_of X G (cB e1 2 rfl rfl);have z_len:mg "len"=none:=mg_none_of X G (cB e1 3 rfl rfl);have z_str:mg "str"=none:=mg_none_of X G (cB e1 4 rfl rfl);have z_ord:mg "ord"=none:=mg_none_of X G (cB e1 5 rfl rfl);have z_list:mg "list"=none:=mg_none_of X G (cB e1 6 rfl rfl);have z_tuple:mg "tuple"=none:=mg_none_of X G (cB e1 7 rfl rfl);have z_sorted:mg "sorted"=none:=mg_none_of X G (cB e1 8 rfl rfl);have z_range:mg "range"=none:=mg_none_of X G (cB e1 9 rfl rfl);have z_dict:mg "dict"=none:=mg_none_of X G (cB e1 10 rfl rfl);have z_sum:mg "sum"=none:=mg_none_of X G (cB e1 11 rfl rfl);have z_max:mg "max"=none:=mg_none_of X G (cB e1 12 rfl rfl);have g_LEFT_OUT:mg "LEFT_OUT"=some (.int 37 417)/\RelV (V.int 37) (.int 37 417):=⟨mg_of X G (cB e1 13 rfl rfl),_,rfl⟩;have g_MOST_ROOMS:mg "MOST_ROOMS"=some (.int 40 447)/\RelV (V.int 40) (.int 40 447):=⟨mg_of X G (cB e1 14 rfl rfl),_,rfl⟩;have k_BlotError:mg "BlotError"=some (.ref wj)/\ExcK K wj:=⟨mg_of X G (cB e1 15 rfl rfl),bQ (cB e3 0 rfl rfl)⟩;have k_NotAlike:mg "NotAlike"=some (.ref gH)/\ExcK K gH:=⟨mg_of X G (cB e1 16 rfl rfl),bQ (cB e3 1 rfl rfl)⟩;have k_OffStrip:mg "OffStrip"=some (.ref gJ)/\ExcK K gJ:=⟨mg_of X G (cB e1 17 rfl rfl),bQ (cB e3 2 rfl rfl)⟩;have k_NoSheet:mg "NoSheet"=some (.ref qx)/\ExcK K qx:=⟨mg_of X G (cB e1 18 rfl rfl),bQ (cB e3 3 rfl rfl)⟩;have k_NoFont:mg "NoFont"=some (.ref qy)/\ExcK K qy:=⟨mg_of X G (cB e1 19 rfl rfl),bQ (cB e3 4 rfl rfl)⟩;have k_NoSign:mg "NoSign"=some (.ref dW)/\ExcK K dW:=⟨mg_of X G (cB e1 20 rfl rfl),bQ (cB e3 5 rfl rfl)⟩;have k_NoHouse:mg "NoHouse"=some (.ref fO)/\ExcK K fO:=⟨mg_of X G (cB e1 21 rfl rfl),bQ (cB e3 6 rfl rfl)⟩;have k_NoWords:mg "NoWords"=some (.ref qz)/\ExcK K qz:=⟨mg_of X G (cB e1 22 rfl rfl),bQ (cB e3 7 rfl rfl)⟩;have k_TooWide:mg "TooWide"=some (.ref cZ)/\ExcK K cZ:=⟨mg_of X G (cB e1 23 rfl rfl),bQ (cB e3 8 rfl rfl)⟩;have k_NoFiller:mg "NoFiller"=some (.ref iY)/\ExcK K iY:=⟨mg_of X G (cB e1 24 rfl rfl),bQ (cB e3 9 rfl rfl)⟩;have k_NotTaken:mg "NotTaken"=some (.ref d7)/\ExcK K d7:=⟨mg_of X G (cB e1 25 rfl rfl),bQ (cB e3 10 rfl rfl)⟩;have k_NoRow:mg "NoRow"=some (.ref qC)/\ExcK K qC:=⟨mg_of X G (cB e1 26 rfl rfl),bQ (cB e3 11 rfl rfl)⟩;have k_NoName:mg "NoName"=some (.ref qD)/\ExcK K qD:=⟨mg_of X G (cB e1 27 rfl rfl),bQ (cB e3 12 rfl rfl)⟩;have k_NoNote:mg "NoNote"=some (.ref qF)/\ExcK K qF:=⟨mg_of X G (cB e1 28 rfl rfl),bQ (cB e3 13 rfl rfl)⟩;have x_f17:CalX pWo w K mg base 2 "columns_of" ["font","sign"] (sp_f17 K):=wk (st:=top 20) X G (dG (cB e2 2 rfl rfl)) (λ _ _ _ _ _ _=>ar2 λ _ _=>rfl) λ _ _ F=>F.okX Al (λ _ _ _ _ h=>GD h) λ cdv A outer s H vs Q E hr h=>by
  have nd:=Al.nd;obtain ⟨Eh,h⟩:=GC h;exact ⟨sG K E Eh,(aZ (bz K rfl (Bc> #[v1]) (λ _=>rfl)) (aF (gY jd rfl (iJ K rfl (v0+ao)) (mW K rfl rfl (dX ↑2 (dX ↑3 mG))) (aF (aZ (aM dY v2 v1 (aQ _)) (aF (aH (aX (bx K rfl) rfl z_list (by ac_nf) #[v3]))) aL)))) aL,
   cg Ye bO rfl rfl k_NoSign.1 k_NoSign.2.1 #[bj]),h⟩
 have x_f10:CalX pWo w K mg base 1 "check_rooms" ["rooms"] (sp_f10 K):=wk (st:=top 24) X G (dG (cB e2 3 rfl rfl)) (λ _ _ _ _ _ _=>ar1 λ _=>rfl) λ _ _ F=>F.okX Am (λ _ _ _ _ h=>GJ h) λ cdv A outer s H vs Q E hr h=>by
  have nd:=Am.nd;obtain ⟨Eh,h⟩:=GF h;exact ⟨sI K E Eh,(aF (aZ (d9 (oW wK wK ao v0 (bR rfl g_MOST_ROOMS.1 g_MOST_ROOMS.2))) (aF (cg Ye bO rfl rfl k_NoHouse.1 k_NoHouse.2.1 #[bj])) aL)),h⟩
 have x_f16:CalX pWo w K mg base 2 "check_room" ["room","rooms"] (sp_f16 K):=wk (st:=top 27) X G (dG (cB e2 4 rfl rfl)) (λ _ _ _ _ _ _=>ar2 λ _ _=>rfl) λ _ _ F=>F.okX An (λ _ _ _ _ h=>GP h) λ cdv A outer s H vs Q E hr h=>by
  have nd:=An.nd;obtain ⟨Eh,h⟩:=GK h;exact ⟨sJ K E Eh,(aF (aZ (d9 (PW.pt (qH (bz K rfl (Ly> #[v0]) (λ _=>rfl)) (mj (oW wK Dw ao v0 v1))))) (aF (cg Ye bO rfl rfl k_NoHouse.1 k_NoHouse.2.1 #[bj])) aL)),h⟩
 have x_f11:CalX pWo w K mg base 3 "made_doors" ["pairs","rooms"] (sp_f11 K):=wk (st:=top 25) X G (dG (cB e2 5 rfl rfl)) (λ _ _ _ _ _ _=>ar2 λ _ _=>rfl) λ _ _ F=>F.okX Ao (λ _ _ _ _ h=>GX h) λ cdv A outer s H vs Q E hr h=>by
  have nd:=Ao.nd;obtain ⟨Eh,h⟩:=GQ h;exact ⟨sO K E Eh,(2&&jR,
   gY jd rfl (bF K rfl v0) (mW K rfl rfl (dX ↑3 (dX ↑4 mG))) (aZ (d9 (bz K rfl (Bc> #[v3]) (λ _=>rfl))) (aF (cg Ye bO rfl rfl k_NoHouse.1 k_NoHouse.2.1 #[bj])) aL,
   aZ (gW (xn (c7 hr) v3 v2) (by with_unfolding_all rfl)) (aF (cg Ye bO rfl rfl k_NoHouse.1 k_NoHouse.2.1 #[bj])) aL,
   bH (bZ x_f16 hr (by decide) rfl (E:=E) (bI λ _ _ z=>z) #[v4,v1]),
   iH (c7 hr) v2 v3 v4 rfl),
   aH (aX (bD K rfl) rfl z_tuple (by ac_nf) #[vU rfl rfl z_sorted v2])),h⟩
 have x_f22:CalX pWo w K mg base 3 "made_ends" ["ends","rooms"] (sp_f22 K):=wk (st:=top 26) X G (dG (cB e2 6 rfl rfl)) (λ _ _ _ _ _ _=>ar2 λ _ _=>rfl) λ _ _ F=>F.okX Aq (λ _ _ _ _ h=>Ha h) λ cdv A outer s H vs Q E hr h=>by
  have nd:=Aq.nd;obtain ⟨Eh,h⟩:=GZ h;exact ⟨sS K E Eh,(2&&jR,
   gY jd rfl (bF K rfl v0) ↑3 (bH (bZ x_f16 hr (by decide) rfl (E:=E) (bI λ _ _ z=>z) #[v3,v1]),
   aZ (gW (xn (c7 hr) v3 v2) (by with_unfolding_all rfl)) (aF (cg Ye bO rfl rfl k_NoHouse.1 k_NoHouse.2.1 #[bj])) aL,
   iH (c7 hr) v2 v3 fK rfl),
   aH (aX (bD K rfl) rfl z_tuple (by ac_nf) #[pP rfl< #[v2]])),h⟩
 have x_f18:CalX pWo w K mg base 4 "make_house" ["doors","ends"] (sp_f18 K):=wk (st:=top 23) X G (dG (cB e2 7 rfl rfl)) (λ _ _ _ _ _ _=>ar2 λ _ _=>rfl) λ _ _ F=>F.okX tX (λ _ _ _ _ h=>Hc h) λ cdv A outer s H vs Q E hr h=>by
  have nd:=tX.nd;obtain ⟨Eh,h⟩:=Hb h;exact ⟨sU K E Eh,(j0 (i:=2) tX.nd rfl (Or.inr rfl) (aN K rfl< #[v0]),
   bH (bZ x_f10 hr (by decide) rfl (E:=E) (bI λ _ _ z=>z) #[v2]),
   aH (bN #[aX (bD K rfl) rfl z_tuple (by ac_nf) #[yo (E:=E) [none,some 2] ["pairs","rooms"] iV rfl rfl rfl (bF K rfl v0) (show CScope (az (top 23)) _ from ⟨rfl,by ac_nf,by ac_nf,by ac_nf⟩) (show capOk [none,some 2] ["pairs","rooms"] (["doors","ends","rooms"]:List Str) _=true from by ac_nf) (λ _ _ _ _ _ _ _=>(0 / ["pairs","rooms"])) (λ _ _ _ _ _ _ _=>fj) (λ _ _ _ _ _ _ _ hpx=>(bZ x_f11 hr (by decide) rfl (E:=E) hpx #[v0,v1]))],bZ x_f22 hr (by decide) rfl (E:=E) (bI λ _ _ z=>z) #[v1,v2]])),h⟩
 have x_f32:CalX pWo w K mg base 5 "padded" ["house","filler"] (sp_f32 K):=wk (st:=top 32) X G (dG (cB e2 11 rfl rfl)) (λ _ _ _ _ _ _=>ar2 λ _ _=>rfl) λ _ _ F=>F.okX Ar (λ _ _ _ _ h=>Hi h) λ cdv A outer s H vs Q E hr h=>by
  have nd:=Ar.nd;obtain ⟨Eh,h⟩:=Hh h;exact ⟨sX K E Eh,(aZ (d9 (bz K rfl (Bc> #[v1]) (λ _=>rfl))) (aF (cg Ye bO rfl rfl k_NoHouse.1 k_NoHouse.2.1 #[bj])) aL,
   gY jd rfl (iJ K rfl (v0+ao)) ↑2 (aF (aZ (aM ud (LC> #[v2,v1]) fU (aQ _)) (aF (cg Ye bO rfl rfl k_NoHouse.1 k_NoHouse.2.1 #[bj])) aL)),
   3&&aN K rfl< #[v0+ao],
   4&&aB dC ([none] / ["pairs"] / iJ K rfl (v0+ao) / 32 / ["house","filler","pairs","last","doors","ends","end"] / (0 / ["pairs"]) / fj / aX (bx K rfl) rfl z_list (by ac_nf) #[v0]) (b8 #[b8 bB]),
   5&&aB dC (aX (bx K rfl) rfl z_list (by ac_nf) #[v0+ao]) (b8 #[v3]),
   gY jd rfl (bF K rfl v5) ↑6 (aF (bH ((v4-v6)++ #[bN #[v1,v3]]))),
   aH (bZ x_f18 hr (by decide) rfl (E:=E) (bI λ _ _ z=>z) #[v4,v5])),h⟩
 have x_f27:CalX pWo w K mg base 3 "set_text" ["font","text"] (sp_f27 K):=wk (st:=top 34) X G (dG (cB e2 12 rfl rfl)) (λ _ _ _ _ _ _=>ar2 λ _ _=>rfl) λ _ _ F=>F.okX Av (λ _ _ _ _ h=>Hk h) λ cdv A outer s H vs Q E hr h=>by
  have nd:=Av.nd;obtain ⟨Eh,h⟩:=Hj h;exact ⟨sY K E Eh,(2&&b8 bB,
   gY jd rfl (fu v1) ↑3 (aF (bH (xM K rfl PySem.F.plainAttrs_list PySem.F.slot_list_extend PySem.F.type_list_extend vC v2 #[bZ x_f17 hr (by decide) rfl (E:=E) (bI λ _ _ z=>z) #[v0,v3]]))),
   aH v2),h⟩
 have x_f2:CalX pWo w K mg base 3 "filler_columns" ["font","filler"] (sp_f2 K):=wk (st:=top 38) X G (dG (cB e2 13 rfl rfl)) (λ _ _ _ _ _ _=>ar2 λ _ _=>rfl) λ _ _ F=>F.okX Ef (λ _ _ _ _ h=>KY h) λ cdv A outer s H vs Q E hr h=>by
  have nd:=Ef.nd;obtain ⟨Eh,h⟩:=KR h;exact ⟨zj K E Eh,(aF (ux Eh iV rfl rfl rfl k_NoSign.1 Ye rfl k_NoFiller.1 k_NoFiller.2.1 (λ _ _ hp=>(aF (aH (bZ x_f17 hr (by decide) rfl (E:=Eh) hp #[v0,v1])))))),h⟩
 have x_f21:CalX pWo w K mg base 6 "padded_by" ["font","house","filler"] (sp_f21 K):=wk (st:=top 37) X G (dG (cB e2 14 rfl rfl)) (λ _ _ _ _ _ _=>PN λ _ _ _=>rfl) λ _ _ F=>F.okX Aw (λ _ _ _ _ h=>Hm h) λ cdv A outer s H vs Q E hr h=>by
  have nd:=Aw.nd;obtain ⟨Eh,h⟩:=Hl h;exact ⟨sZ K E Eh,(aZ (aM oU (aN K rfl< #[bZ x_f2 hr (by decide) rfl (E:=E) (bI λ _ _ z=>z) #[v0,v2]]) ao (aQ _)) (aF (cg Ye bO rfl rfl k_NoFiller.1 k_NoFiller.2.1 #[bj])) aL,
   ux Eh iV rfl rfl rfl k_NoHouse.1 Ye rfl k_NoFiller.1 k_NoFiller.2.1 (λ _ _ hp=>(aF (aH (bZ x_f32 hr (by decide) rfl (E:=Eh) hp #[v1,v2]))))),h⟩
 have x_f31:CalX pWo w K mg base 4 "filled" ["font","house","filler","row","wide"] (sp_f31 K):=wk (st:=top 39) X G (dG (cB e2 15 rfl rfl)) (λ _ _ _ _ _ _=>O1 λ _ _ _ _ _=>rfl) λ _ _ F=>F.okX Ax (λ _ _ _ _ h=>Ho h) λ cdv A outer s H vs Q E hr h=>by
  have nd:=Ax.nd;obtain ⟨Eh,h⟩:=Hn h;exact ⟨t6 K E Eh,(5&&bZ x_f27 hr (by decide) rfl (E:=E) (bI λ _ _ z=>z) #[v0,v3],
   aZ (d9 (bz K rfl (LQ> #[v1,v3]) (λ _=>rfl))) (aF (cg Ye bO rfl rfl k_NotTaken.1 k_NotTaken.2.1 #[bj])) aL,
   aZ (aM oV (aN K rfl< #[v5]) v4 (aQ _)) (aF (cg Ye bO rfl rfl k_TooWide.1 k_TooWide.2.1 #[bj])) aL,
   aH (aB dC v5 (aB xf (bZ x_f17 hr (by decide) rfl (E:=E) (bI λ _ _ z=>z) #[v0,v2]) (aB j5 v4 (aN K rfl< #[v5]))))),h⟩
 have x_f35:CalX pWo w K mg base 7 "page" ["font","house","filler","rows","wide"] (sp_f35 K):=wk (st:=top 36) X G (dG (cB e2 16 rfl rfl)) (λ _ _ _ _ _ _=>O1 λ _ _ _ _ _=>rfl) λ _ _ F=>F.okX Ay (λ _ _ _ _ h=>Hr h) λ cdv A outer s H vs Q E hr h=>by
  have nd:=Ay.nd;obtain ⟨Eh,h⟩:=Hq h;exact ⟨tu K E Eh,(bH (bZ x_f21 hr (by decide) rfl (E:=E) (bI λ _ _ z=>z) #[v0,v1,v2]),
   aH (yo (E:=E) [none,some 0,some 1,some 2,some 4] ["row","font","house","filler","wide"] iV rfl rfl rfl (bF K rfl v3) (show CScope (az (top 36)) _ from ⟨rfl,by ac_nf,by ac_nf,by ac_nf⟩) (show capOk [none,some 0,some 1,some 2,some 4] ["row","font","house","filler","wide"] (["font","house","filler","rows","wide"]:List Str) _=true from by ac_nf) (λ _ _ _ _ _ _ _=>(0 / ["row","font","house","filler","wide"])) (λ _ _ _ _ _ _ _=>fj) (λ _ _ _ _ _ _ _ hpx=>(bZ x_f31 hr (by decide) rfl (E:=E) hpx #[v1,v2,v3,v0,v4])))),h⟩
 have c_f14:Cal pWo w K mg base 1 "_law_signs" [] (fH K):=ck (st:=top 43) X G (dG (cB e2 19 rfl rfl)) (λ _ _ _ _ _ _=>Qk rfl) λ _ _ F=>F.ok Az (λ _ _ _ _ h=>Hv h) λ cdv A outer s H vs Q E hr h=>by
  have nd:=Az.nd;obtain ⟨Eh,h⟩:=Hu h;exact ⟨tE K E Eh,(0&&bj,
   aH (aB dz v0 bj)),h⟩
 have c_f4:2^"_law_letters"^["script","height"]^sp_f4:=22 / 46 / Lr / Le / zz / (2&&jy c_f14 hr (by decide) rfl,
   3&&oF> #[v0,ao],
   4&&aB bU ao (aB aR v3 ao),
   5&&aB aR (oF> #[v0,ao]) ao,
   6&&jR,
   cR rfl z_range #[v4]:: ↑7::(8&&aB aR (aB cU (aB bU (aB bU (oF> #[v0,ao]) (aB cU (aB cU ao v7) v7)) (aB cU ao v7)) ao) ao,
   5&&aB bU (aB bU v5 ao) (aB aR v8 ao),
   iH (c7 hr) v6 (jj qO v2 (aB aR v5 ao) (λ _ _=>rfl)) (M3> #[v8,aB bU ao (aB aR (aB bG v8 ao) ao),v1]) rfl,
   aZ (aM dY v7 (aB aR (aB bG v3 ao) v4) (aQ _)) (iH (c7 hr) v6 (jj qO v2 (aB aR v5 ao) (λ _ _=>rfl)) (M3> #[v8,ao,v1]) rfl,
   iH (c7 hr) v6 bj (jj qO v2 (aB aR v5 ao) (λ _ _=>rfl)) rfl) aL),
   aH v6)
 have c_f15:8^"_law_asked"^["font","house","filler","rows","wide"]^sp_f15:=29 / 53 / u0 / HH / tR / (5&&fU,
   6&&b8 bB,
   Cq (i:=7) Eh u0.nd rfl rfl rfl k_BlotError.1 rfl rfl (Cu (i:=5) x_f35 hr (by decide) rfl (λ _ _=> #[v0,v1,v2,v3,v4]) u0.nd rfl rfl) (λ _ _=>(6&&b8 #[bJ K rfl< #[v7,bR (v:= .ref dW) rfl k_NoSign.1 rfl],bJ K rfl< #[v7,bR (v:= .ref d7) rfl k_NotTaken.1 rfl]],
   6&&aB dC v6 (b8 #[bJ K rfl< #[v7,bR (v:= .ref cZ) rfl k_TooWide.1 rfl],bJ K rfl< #[v7,bR (v:= .ref iY) rfl k_NoFiller.1 rfl]]),
   bH (v6++ #[bJ K rfl< #[v7,bR (v:= .ref fO) rfl k_NoHouse.1 rfl]]),
   bH (v6++ #[bJ K rfl< #[v7,bN #[bR (v:= .ref gH) rfl k_NotAlike.1 rfl,bR (v:= .ref gJ) rfl k_OffStrip.1 rfl,bR (v:= .ref qx) rfl k_NoSheet.1 rfl,bR (v:= .ref qy) rfl k_NoFont.1 rfl,bR (v:= .ref qz) rfl k_NoWords.1 rfl]]]),
   bH (v6++ #[bJ K rfl< #[v7,bN #[bR (v:= .ref qC) rfl k_NoRow.1 rfl,bR (v:= .ref qD) rfl k_NoName.1 rfl,bR (v:= .ref qF) rfl k_NoNote.1 rfl]]]))),
   aH (bN #[v5,v6]))
 have c_f1:2^"_law_bad_filler"^["cell","letters","signs","house"]^sp_f1:=31 / 55 / Ba / Lh / zQ / (jT (i:=4) [none,some 1] ["sign","letters"] rfl Ba.nd rfl rfl (fu (jy c_f14 hr (by decide) rfl)) (show CScope (az (top 55)) _ from ⟨rfl,by ac_nf,by ac_nf,by ac_nf⟩) (show capOk [none,some 1] ["sign","letters"] (["cell","letters","signs","house","lacked","filler","some"]:List Str) _=true from by ac_nf) (λ _ _ _ _ _ _=>(0 / ["sign","letters"])) (λ _ _ _ _ _ _=>cG (gW (eE (c7 hr) v0 v1) (by with_unfolding_all rfl))) (λ _ _ _ _ _ _=>v0),
   5&&cY (c7 hr) v1 bj (λ _ _=>rfl),
   by (refine j0 (i:=6) ?a ?b ?c ?d ?e ?f);(case a=>exact Ba.nd);(case b=>rfl);(case c=>exact (Or.inl rfl));(case e=>rfl);(case f=>first | exact .inl rfl | exact .inr rfl | assumption);exact (by (with_reducible refine b8 ?_);(with_reducible refine @cu _ _ _ _ _ ?_ ?_ rfl);(exact bj);(with_reducible refine @cu _ _ _ _ _ ?_ ?_ rfl);(exact (jj (iI K rfl) (pv 4) ao (λ _ _=>rfl)));(with_reducible refine @cu _ _ _ _ _ ?_ ?_ rfl);(exact (jj (iI K rfl) (pv 4) (oR jL ao) (λ _ _=>rfl)));(with_reducible refine @cu _ _ _ _ _ ?_ ?_ rfl);(exact (aB dz (pv 5) (jj (iI K rfl) (pv 2) ao (λ _ _=>rfl))));(with_reducible refine @cu _ _ _ _ _ ?_ ?_ rfl);(exact fU);(with_reducible refine @cu _ _ _ _ _ ?_ ?_ rfl);(exact ao);(with_reducible refine @cu _ _ _ _ _ ?_ ?_ rfl);(exact fK);(with_reducible refine @cu _ _ _ _ _ ?_ ?_ rfl);(exact (bN (cu (pv 5) bB)));(with_reducible refine @cu _ _ _ _ _ ?_ ?_ rfl);(exact (b8 (cu (pv 5) bB)));exact bB),
   6&&aB dC v6 ([none,some 1] / ["sign","letters"] / bF K rfl v2 / 55 / ["cell","letters","signs","house","lacked","filler","some"] / (0 / ["sign","letters"]) / cG (aM oV (aN K rfl< #[cY (c7 hr) v1 v0 (λ _ _=>rfl)]) ao (aQ _)) / v0),
   6&&aB dC v6 ([none] / ["pairs"] / iJ K rfl (v3+ao) / 55 / ["cell","letters","signs","house","lacked","filler","some"] / (0 / ["pairs"]) / cG (aM oV (aN K rfl< #[v0]) ao (aQ _)) / (v0+ao+ao)),
   aH (v6-aB aR v0 (aN K rfl< #[v6])))
 have c_f8:2^"_law_spoilt"^["rows","letters","cell"]^sp_f8:=32 / 56 / Ei / Li / zR / (3&&aX (bx K rfl) rfl z_list (by ac_nf) #[v0],
   aZ (PW.pt (qH (aM dY (aB aR (aB bG v2 ao) ao) ao (aQ _)) (mj (aM (fB K rfl hr.units) v3 (b8 bB) (aQ _))))) (jT (i:=4) [none,some 1] ["sign","letters"] rfl Ei.nd rfl rfl (fu (jy c_f14 hr (by decide) rfl)) (show CScope (az (top 56)) _ from ⟨rfl,by ac_nf,by ac_nf,by ac_nf⟩) (show capOk [none,some 1] ["sign","letters"] (["rows","letters","cell","found","lacked","at","where","sign"]:List Str) _=true from by ac_nf) (λ _ _ _ _ _ _=>(0 / ["sign","letters"])) (λ _ _ _ _ _ _=>cG (gW (eE (c7 hr) v0 v1) (by with_unfolding_all rfl))) (λ _ _ _ _ _ _=>v0),
   5&&aB aR (aB bG v2 ao) (aN K rfl< #[v3]),
   6&&aB aR (aB bG v2 ao) ao,
   7&&v4-aB aR (aB bG v2 ao) (aN K rfl< #[v4]),
   wG (aB dz (aB dz (fV ni (v3-v5) jx (gw v6)) v7) (fV ni (v3-v5) (gw v6) jx)) (wF v3 v5 set_list)) aL,
   aH v3)
 have c_f0:2^"_law_house_signs"^["cell","letters","known"]^sp_f0:=34 / 58 / Ej / Lj / zU / (jT (i:=3) [none,some 1] ["sign","letters"] rfl Ej.nd rfl rfl (fu (jy c_f14 hr (by decide) rfl)) (show CScope (az (top 58)) _ from ⟨rfl,by ac_nf,by ac_nf,by ac_nf⟩) (show capOk [none,some 1] ["sign","letters"] (["cell","letters","known","lacked"]:List Str) _=true from by ac_nf) (λ _ _ _ _ _ _=>(0 / ["sign","letters"])) (λ _ _ _ _ _ _=>cG (gW (eE (c7 hr) v0 v1) (by with_unfolding_all rfl))) (λ _ _ _ _ _ _=>v0),
   aZ (aM dY (aB aR v0 ao) ao (aQ _)) (aF (aH v2)) aL,
   aH (jn K rfl< #[aB dC v2 (b8 #[v3-aB aR (aB bG v0 ao) (aN K rfl< #[v3])])]))
 have c_f25:9^"_law_none"^["script","font","letters","house","rows","wide"]^sp_f25:=35 / 59 / Bb / HR / tV / (6&&uW> #[ao],
   jT (i:=7) [none,some 2] ["sign","letters"] rfl Bb.nd rfl rfl (bF K rfl (jo rfl< #[v2])) (show CScope (az (top 59)) _ from ⟨rfl,by ac_nf,by ac_nf,by ac_nf⟩) (show capOk [none,some 2] ["sign","letters"] (["script","font","letters","house","rows","wide","none","signs","big","bad"]:List Str) _=true from by ac_nf) (λ _ _ _ _ _ _=>(0 / ["sign","letters"])) (λ _ _ _ _ _ _=>cG (aM (gM K rfl) v0 (b8 #[bj,cY (c7 hr) v1 bj (λ _ _=>rfl)]) (by with_unfolding_all rfl))) (λ _ _ _ _ _ _=>v0),
   8&&aB (pF K rfl) (v3+ao) (aB (pW K rfl) (bN #[bN bB]) (aB j5 ao (aN K rfl< #[v3+ao]))),
   aZ (aM (fB K rfl hr.units) (dF c_f15 hr (by decide) rfl #[v1,bN #[v8,v3+ao],cY (c7 hr) v2 bj (λ _ _=>rfl),v4,v5]) v6 (aQ _)) (aF (aH fK)) aL,
   9&&dF c_f1 hr (by decide) rfl #[oF> #[v0,ao],v2,v7,v3],
   aH (dJ (jz K rfl hr.units) (dF c_f15 hr (by decide) rfl #[v1,v3,v9,v4,v5]) v6 (aQ _)))
 have F:=jN (st:=top 60) lL qL kL;exact F.ok oE (λ _ _ _ _ h=>HX h) λ cdv A outer s H vs Q E hr h=>by
  have nd:=oE.nd;obtain ⟨Eh,h⟩:=HW h;exact ⟨tW K E Eh,(1&&O6> #[oF> #[v0,ao]],
   j0 (i:=2) oE.nd rfl (Or.inr rfl) (dF c_f4 hr (by decide) rfl #[v0,v1]),
   j0 (i:=3) oE.nd rfl (Or.inr rfl) (cY (c7 hr) v2 bj (λ _ _=>rfl)),
   4&&jn K rfl< #[[none,some 3] / ["sign","filler"] / yg v2 / 60 / ["script","height","letters","filler","signs","font","house","cell","rows","widest","wide","handed","due","found","big"] / (0 / ["sign","filler"]) / cG (aM (gM K rfl) v0 (b8 #[bj,v1]) (by with_unfolding_all rfl)) / v0],
   5&&bN #[v1,aX (bD K rfl) rfl z_tuple (by ac_nf) #[[none,some 2] / ["sign","letters"] / bF K rfl (jo rfl< #[v2]) / 60 / ["script","height","letters","filler","signs","font","house","cell","rows","widest","wide","handed","due","found","big"] / (0 / ["sign","letters"]) / cG (aM oU v0 bj (aQ _)) / bN #[v0,cY (c7 hr) v1 v0 (λ _ _=>rfl)]]],
   4&&dF c_f0 hr (by decide) rfl #[aB bG (oF> #[v0,ao]) ao,v2,v4],
   6&&M4> #[v0,v4],
   7&&oF> #[v0,ao],
   8&&M5> #[v6,b8 #[v4,aB dC v4 (b8 #[v3])]-aB aR (aB bG v7 ao) ao,fV (xK K rfl) v0 (gw ao) (gw ao),v7],
   8&&dF c_f8 hr (by decide) rfl #[v8,v2,v7],
   9&&rD K rfl rfl< #[aB dC (b8 #[ao]) ([none,some 2] / ["row","letters"] / bF K rfl v8 / 60 / ["script","height","letters","filler","signs","font","house","cell","rows","widest","wide","handed","due","found","big"] / (0 / ["row","letters"]) / fj / (M6> #[v1,v0]))],
   10&&M8> #[v9,oF> #[v0,ao]],
   11&&aX (bx K rfl) rfl z_list (by ac_nf) #[v8],
   12&&M7> #[v2,v6,v8,Ls],
   13&&dF c_f15 hr (by decide) rfl #[v5,v6,v3,Lx,Ls],
   aZ (PW.pt (wA (aM (fB K rfl hr.units) O5 PX (aQ _)) (qG (aM (fB K rfl hr.units) Lx v8 (aQ _))))) (aF (aH fK)) aL,
   aZ (PW.pt (qH (aM ud (O5+ao) fU (aQ _)) (mj (d9 (bz K rfl (O7> #[O5+ao]) (λ _=>rfl)))))) (aF (aH fK)) aL,
   14&&aB (pF K rfl) (v6+ao) (aB (pW K rfl) (bN #[bN bB]) (aB j5 ao (aN K rfl< #[v6+ao]))),
   aZ (aM (fB K rfl hr.units) (dF c_f15 hr (by decide) rfl #[v5,bN #[Qp,v6+ao],v3,Lx,Ls]) PX (aQ _)) (aF (aH fK)) aL,
   aZ (d9 (bz K rfl (dF c_f25 hr (by decide) rfl #[v0,v5,v2,v6,Lx,Ls]) (λ _=>rfl))) (aF (aH fK)) aL,
   aH (mD (dJ (jz K rfl hr.units) (dF c_f15 hr (by decide) rfl #[v5,v6,v3,b8 bB,Ls]) (bN #[b8 bB,b8 bB]) (aQ _)) (mC (dJ (jz K rfl hr.units) Lx v8 (aQ _))))),h⟩
end
theorem fin:PySem.Challenge.rw_blotsure_k64_page_set.Holds:=by
 refine holds_law said λ said=>holds_open (q:=vw) (loose:=lo) (Xt:=λ s=>xlAt vw [] s&&recOk [] s) (XP:=XL vw []) (Ya:=λ _=>ans) (YP:=λ _ h=> ∃K:Frag,K.In h/\obs K=ans) left (λ w s e=>⟨_,Bh,e⟩) (λ w h h' ⟨K,X,e⟩ k=>⟨K,Frag.In.keeps X k,e⟩) (λ s e=>xl_of s (Bool.and_eq_true_iff.mp e).1) XL.keeps (by rfl) (by rfl) (by rfl) (λ s e=>recFacts_of (Bool.and_eq_true_iff.mp e).2) (by rfl) said (by ac_nf) ⟨rfl,rfl,rfl,rfl,rfl,by ac_nf⟩ ?hw ?hc
 case hw=>w_witness2
 rintro w s s' mg mb G ⟨K,X,e⟩;have r0:=Zr (Zk (·.2.2.2[0]?) e);have r1:=Zr (Zk (·.2.2.2[1]?) e);have r2:=Zr (Zk (·.2.2.2[2]?) e);have r3:=Zr (Zk (·.2.2.2[3]?) e);have r4:=Zr (Zk (·.2.2.2[4]?) e);have r5:=Zr (Zk (·.2.2.2[5]?) e);exact L2.BK (n:=63) (k:=10) (x:="script") (CX:=λ _=>L2.DG) (K:=λ _=>K) (YP:=λ _ h=>K.In h) (sp:=λ _=>sp_f36 K) rfl (by decide) rfl ⟨rfl,by decide,by decide⟩ (λ _ _ Y=>Y) (λ _ _ _ _ KX G hmg=>Im KX G hmg e) (λ _ _ a ns hl _ hS=>⟨a,ns,rfl,⟨L2.RefG.mk (bQ (cB (Zk (·.2.2.1) e) 5 rfl rfl)) (Zk (·.1) r0) (Zk (·.2.1) r0) trivial,L2.RefG.mk (bQ (cB (Zk (·.2.2.1) e) 6 rfl rfl)) (Zk (·.1) r1) (Zk (·.2.1) r1) trivial,L2.RefH.mk (bQ (cB (Zk (·.2.2.1) e) 5 rfl rfl)) (Zk (·.1) r2) (Zk (·.2.1) r2) ⟨Option.some.inj (Zk (·.2.2.1[0]?) r2),Zr (Zk (·.2.2.1[1]?) r2),Zr (Zk (·.2.2.1[2]?) r2),Zr (Zk (·.2.2.1[3]?) r2),Zr (Zk (·.2.2.1[4]?) r2),trivial⟩ ⟨Option.some.inj (Zk (·.2.2.2[0]?) r2),Zr (Zk (·.2.2.2[1]?) r2),trivial⟩,L2.RefH.mk (bQ (cB (Zk (·.2.2.1) e) 10 rfl rfl)) (Zk (·.1) r3) (Zk (·.2.1) r3) ⟨Option.some.inj (Zk (·.2.2.1[0]?) r3),Zr (Zk (·.2.2.1[1]?) r3),Zr (Zk (·.2.2.1[2]?) r3),Zr (Zk (·.2.2.1[3]?) r3),Zr (Zk (·.2.2.1[4]?) r3),trivial⟩ ⟨Option.some.inj (Zk (·.2.2.2[0]?) r3),Zr (Zk (·.2.2.2[1]?) r3),trivial⟩,L2.RefH.mk (bQ (cB (Zk (·.2.2.1) e) 8 rfl rfl)) (Zk (·.1) r4) (Zk (·.2.1) r4) ⟨Option.some.inj (Zk (·.2.2.1[0]?) r4),Zr (Zk (·.2.2.1[1]?) r4),Zr (Zk (·.2.2.1[2]?) r4),Zr (Zk (·.2.2.1[3]?) r4),Zr (Zk (·.2.2.1[4]?) r4),trivial⟩ ⟨Option.some.inj (Zk (·.2.2.2[0]?) r4),Zr (Zk (·.2.2.2[1]?) r4),trivial⟩,L2.RefH.mk (bQ (cB (Zk (·.2.2.1) e) 9 rfl rfl)) (Zk (·.1) r5) (Zk (·.2.1) r5) ⟨Option.some.inj (Zk (·.2.2.1[0]?) r5),Zr (Zk (·.2.2.1[1]?) r5),Zr (Zk (·.2.2.1[2]?) r5),Zr (Zk (·.2.2.1[3]?) r5),Zr (Zk (·.2.2.1[4]?) r5),trivial⟩ ⟨Option.some.inj (Zk (·.2.2.2[0]?) r5),Zr (Zk (·.2.2.2[1]?) r5),trivial⟩⟩,hS,hl,λ _=>rfl⟩) (λ _ _ _ _ _ z=>z) w s s' mg mb G X
end Pg
open PySem PySem.W PyProof.Rows
theorem PySem.Challenge.cw_blotsure_k64_page_set_holds : PySem.Challenge.rw_blotsure_k64_page_set.Holds :=
 Pg.fin
