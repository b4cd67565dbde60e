import PyProof.Rows.All
import Wide.All
import OpenK.AllK
import PySem.Challenge.RW_blotsure_k55_whole_farness
abbrev Qb:=@List.length_map
abbrev Qr:=@PySem.wpAny_bind
abbrev Zl:=@List.mem_map
abbrev Zp:=@List.mem_singleton
abbrev Zs:=@List.mem_of_getElem?
abbrev Zy:=@PySem.wpAny_pure
abbrev Zz:=@List.getElem?_eq_getElem
abbrev Yf:=@PySem.Heap.get?_push_of_some
abbrev Xs:=@List.getElem?_map
abbrev Wp:=@List.map_append
abbrev À:=@List.length_append
abbrev Á:=@List.map_map
abbrev Â:=@List.mem_append
abbrev Ã:=@Nat.le_refl
abbrev Ä:=@List.map_cons
abbrev Å:=@List.mem_cons
abbrev Æ:=@List.getD_eq_getElem?_getD
abbrev Ç:=@PySem.Heap.lt_size
abbrev È:=@decide_eq_false
abbrev É:=@List.getElem?_eq_some_iff
abbrev Ê:=@Bool.false_ne_true
abbrev Ë:=@PySem.Heap.get?_push_size
abbrev Ì:=@List.mem_cons_self
abbrev Í:=@List.mem_cons_of_mem
abbrev Î:=@List.size_toArray
abbrev Ï:=@List.mem_append_right
abbrev Ð:=@List.eq_nil_of_length_eq_zero
abbrev Ñ:=@List.length_take
abbrev Ò:=@PyProof.Rows.wpS_bind
abbrev Ó:=@Int.toNat_natCast
abbrev Ô:=@Option.some.inj
abbrev Õ:=@List.length_singleton
abbrev Ö:=@decide_eq_true
abbrev Ø:=@List.take_add_one
abbrev Ù:=@Nat.lt_of_le_of_lt
abbrev Ú:=@PyProof.Rows.wpS_pure
abbrev Û:=@Nat.le_trans
abbrev Ü:=@List.mem_append_left
abbrev Ý:=@Nat.lt_of_lt_of_le
abbrev Þ:=@List.append_assoc
abbrev ß:=@congrArg
abbrev à:=@List.pairwise_append
abbrev á:=@Option.map_eq_some_iff
abbrev â:=@Bool.false_eq_true
abbrev ã:=@Nat.ne_of_lt
abbrev ä:=@List.take_length
abbrev å:=@List.append_nil
abbrev æ:=@List.not_mem_nil
abbrev ç:=@List.exists_cons_of_length_pos
abbrev è:=@List.take_of_length_le
abbrev é:=@List.length_cons
abbrev ê:=@PySem.wpAny_call_entry
abbrev ë:=@of_decide_eq_false
abbrev ì:=@List.getElem_mem
abbrev í:=@List.mem_range
abbrev î:=@Array.getElem?_toList
abbrev ï:=@List.forIn_cons
abbrev ð:=@List.nodup_append
abbrev ñ:=@Nat.zero_le
abbrev ò:=@of_decide_eq_true
abbrev ó:=@List.mem_iff_getElem
abbrev ô:=@List.length_drop
abbrev õ:=@PySem.wpAny_newObj_type
abbrev ö:=@Array.getElem?_eq_getElem
abbrev ø:=@Array.length_toList
abbrev ù:=@List.length_range
abbrev ú:=@List.getElem?_append_right
abbrev û:=@List.map_nil
abbrev ü:=@Nat.lt_irrefl
abbrev ý:=@List.mem_filterMap
abbrev þ:=@PySem.wpAny_setField_rec
abbrev ÿ:=@PySem.wpAny_field
abbrev Ā:=@List.getElem?_toArray
abbrev ā:=@List.take_append_drop
abbrev Ă:=@PySem.Heap.SameBut.update
abbrev ă:=@if_false
abbrev Ą:=@Bool.and_eq_true
abbrev ą:=@PySem.wpAny_holding
abbrev Ć:=@List.drop_eq_getElem_cons
abbrev ć:=@Nat.le_of_lt
abbrev Ĉ:=@List.nodup_cons
abbrev ĉ:=@PySem.wpAny_seqItems
abbrev Ċ:=@PySem.Paired.length
abbrev ċ:=@Nat.le_add_right
abbrev Č:=@PySem.wpAny_truthy_bool
abbrev č:=@PySem.wpAny_dictEntries
abbrev Ď:=@PySem.wpAny_mono
abbrev ď:=@or_false
abbrev Đ:=@List.Nodup.sublist
abbrev đ:=@Nat.pos_of_ne_zero
abbrev Ē:=@List.mem_of_mem_take
abbrev ē:=@PySem.W.kia_one
abbrev Ĕ:=@PySem.Calls.callWith_builtin
abbrev ĕ:=@List.getElem?_append_left
abbrev Ė:=@beq_eq_false_iff_ne
abbrev ė:=@PySem.wpAny_rule
abbrev Ę:=@Nat.lt_succ_of_lt
abbrev ę:=@PySem.sizeLine_eq
abbrev Ě:=@List.take_sublist
abbrev ě:=@Bool.not_true
abbrev Ĝ:=@List.find?_cons
abbrev ĝ:=@PyProof.Rows.wpS_forRange
abbrev Ğ:=@Int.emod_lt_of_pos
abbrev ğ:=@List.lookup_cons
abbrev Ġ:=@PySem.Around.under_plainId
abbrev ġ:=@List.mem_flatMap
abbrev Ģ:=@if_true
abbrev ģ:=@PySem.Heap.size_push
abbrev Ĥ:=@Array.perm_iff_toList_perm
abbrev ĥ:=@List.flatMap_singleton
abbrev Ħ:=@List.filterMap_cons
abbrev ħ:=@List.map_congr_left
abbrev Ĩ:=@List.mem_filter
abbrev ĩ:=@Int.emod_nonneg
abbrev Ī:=@PySem.PassesOwn.never
abbrev ī:=@PyProof.Rows.slot_tuple_getitem
abbrev Ĭ:=@PySem.Heap.get?_update_self
abbrev ĭ:=@PySem.wpAny_notOrdered_dict
abbrev Į:=@List.perm_append_comm
abbrev į:=@PySem.Calls.spliced_cons
abbrev İ:=@List.getElem_map
abbrev ı:=@Nat.ne_of_gt
abbrev Ĳ:=@List.length_filterMap_le
abbrev ĳ:=@List.forIn_nil
abbrev Ĵ:=@PySem.F.slot_dict_itemiterator_next
abbrev ĵ:=@Nat.add_sub_cancel_left
abbrev Ķ:=@PySem.F.plainAttrs_dict
abbrev ķ:=@PySem.F.plainAttrs_list
abbrev ĸ:=@PySem.F.slot_dict_keyiterator_next
abbrev Ĺ:=@PyProof.Rows.wpS_mono
abbrev ĺ:=@List.flatMap_append
abbrev Ļ:=@PyProof.Rows.callWith_type1
abbrev ļ:=@Nat.testBit_succ
abbrev Ľ:=@List.all_eq_true
abbrev ľ:=@Nat.lt_succ_self
abbrev Ŀ:=@PySem.wpAny_isInstance
abbrev ŀ:=@PySem.F.plain_min_loop
abbrev Ł:=@PySem.wpAny_pyIter_tuple
abbrev ł:=@PySem.tupleKind_room_in1
abbrev Ń:=@PySem.F.slot_tuple_iterator_next
abbrev ń:=@Nat.add_sub_cancel
abbrev Ņ:=@List.getElem?_eq_none
abbrev ņ:=@List.mem_iff_getElem?
abbrev Ň:=@List.pairwise_iff_getElem
abbrev ň:=@List.mem_of_find?_eq_some
abbrev Ŋ:=@PySem.wpAny_passesOwn
abbrev ŋ:=@Nat.testBit_and
abbrev Ō:=@PySem.codeAny_builtin
abbrev ō:=@PySem.Calls.evalArgs_plain
abbrev Ŏ:=@Option.isSome_map
abbrev ŏ:=@Nat.eq_of_testBit_eq
abbrev Ő:=@List.pairwise_map
abbrev ő:=@PySem.wpAny_letGo
abbrev Œ:=@PySem.wpAny_attempt
abbrev œ:=@PySem.mem_of_lookup
abbrev Ŕ:=@Nat.succ_le_succ
abbrev ŕ:=@List.cons_append
abbrev Ŗ:=@Array.toList_inj
abbrev ŗ:=@Nat.min_eq_right
abbrev Ř:=@Nat.mul_le_mul
abbrev ř:=@Sum.inr.inj
abbrev Ś:=@Prod.mk.inj
abbrev ś:=@PySem.Heap.get?_update_other
abbrev Ŝ:=@Array.getElem?_eq_none
abbrev ŝ:=@PySem.wpAny_tupleItemsOf
abbrev Ş:=@List.drop_of_length_le
abbrev ş:=@List.length_nil
abbrev Š:=@PySem.wpAny_dictEpoch
abbrev š:=@Nat.min_eq_left
abbrev Ţ:=@List.range_succ
abbrev ţ:=@List.any_cons
abbrev Ť:=@List.sum_cons
abbrev ť:=@List.map_drop
abbrev Ŧ:=@PySem.wpAny_isOneOf_keyiter
abbrev ŧ:=@PySem.isSubtype_tuple_tuple
abbrev Ũ:=@PySem.F.slot_dict_get
abbrev ũ:=@PySem.Calls.spliced_nil
abbrev Ū:=@Nat.le_succ
abbrev ū:=@PySem.wpAny_pyIter_keyiter
abbrev Ŭ:=@PySem.Obj.data_mapDictKeys
abbrev ŭ:=@PyProof.Rows.listItems_at
abbrev Ů:=@dif_pos
abbrev ů:=@List.perm_middle
abbrev Ű:=@List.rel_of_pairwise_cons
abbrev ű:=@PySem.Calls.call_function_entry
abbrev Ų:=@Nat.add_le_add_left
abbrev ų:=@Int.toNat_of_nonneg
abbrev Ŵ:=@PySem.F.args_tuple_add_2
abbrev ŵ:=@Bool.eq_iff_iff
abbrev Ŷ:=@PySem.wpAny_specialOf
abbrev ŷ:=@List.nil_append
abbrev Ÿ:=@List.range_zero
abbrev Ź:=@List.zip_cons_cons
abbrev ź:=@PySem.Obj.data_mapFields
abbrev Ż:=@PySem.intKind_is
abbrev ż:=@Nat.lt_or_eq_of_le
abbrev Ž:=@PySem.F.entry_tuple_add
abbrev ž:=@List.length_eq_zero_iff
abbrev Α:=@PySem.F.slot_tuple_add
abbrev Β:=@Nat.lt_trans
abbrev Γ:=@List.nodup_nil
abbrev Δ:=@Nat.zero_add
abbrev Ε:=@Nat.add_comm
abbrev Ζ:=@PySem.wpAny_setField
abbrev Η:=@List.mapM_toArray
abbrev Θ:=@List.all_map
abbrev Ι:=@PySem.wpAny_tryCatch
abbrev Κ:=@decide_eq_true_eq
abbrev Λ:=@Nat.lt_of_succ_lt_succ
abbrev Μ:=@PyProof.Rows.mem_zip_self
abbrev Ν:=@PySem.wpAny_Call_method
abbrev Ξ:=@Option.map_eq_none_iff
abbrev Ο:=@PySem.wpAny_isOneOf_itemiter
abbrev Ρ:=@Bool.eq_false_iff
abbrev Τ:=@Function.comp_def
abbrev Υ:=@PySem.F.slot_tuple_lt
abbrev Φ:=@LawfulBEq.eq_of_beq
abbrev Χ:=@List.all_toArray
abbrev Ψ:=@List.zipIdx_cons
abbrev Ω:=@decide_eq_decide
abbrev δ:=@PyProof.Rows.wpS_get
abbrev ε:=@PySem.wpAny_updateSeq_pair
abbrev ζ:=@Nat.add_le_add_right
abbrev η:=@Option.map_some
abbrev θ:=@PySem.wpAny_execs_nil
abbrev ι:=@PySem.F.slot_zip_next
abbrev ν:=@PySem.wpAny_updateSeq
abbrev ξ:=@List.find?_some
abbrev ο:=@Int.natCast_mul
abbrev π:=@PySem.Heap.get?_update_ne
abbrev ρ:=@List.map_eq_nil_iff
abbrev ς:=@PySem.wpAny_typeOf
abbrev υ:=@Nat.le_total
abbrev χ:=@Iff.rfl
abbrev ψ:=@PySem.wpAny_Call_Name_kw
abbrev ω:=@Prod.ext
set_option Elab.async false
set_option linter.all false
set_option maxRecDepth 100000
noncomputable section
local macro_rules | `(tactic| ac_rfl) => `(tactic| exact ⟨rfl,rfl,rfl,by decide+kernel,rfl,by decide+kernel,by decide+kernel⟩)
local macro_rules | `(tactic| ac_nf) => `(tactic| decide+kernel)
set_option maxHeartbeats 4000000
local macro_rules | `(tactic| rfl') => `(tactic| first | lia | omega)
local macro_rules | `(tactic| show $e) => `(tactic| refine $e)
local macro_rules | `(!$e) => `(some $e)
local macro_rules | `(#[$a,*]) => `(⟨$a,*⟩)
local macro_rules | `(tactic| let $p:term $[:$t]? :=$e)=>do
 let rec g:Nat->Lean.Term->Lean.MacroM (Lean.TSyntax `Lean.Parser.Tactic.rcasesPatMed)
  |0,_=>Lean.Macro.throwUnsupported
  |n+1,t=>do
   match t with
   |`(#[$a,*])=>do
    let b<-a.getElems.mapM (g n)
    `(Lean.Parser.Tactic.rcasesPatMed|⟨$[$b:rcasesPatMed],*⟩)
   |`($i:ident)=>`(Lean.Parser.Tactic.rcasesPatMed|$i:ident)
   |_=>`(Lean.Parser.Tactic.rcasesPatMed|_)
 `(tactic| obtain $(<-g 9 p):rcasesPatMed $[:$t]? :=$e)
local macro_rules | `(()) => `(by rfl')
namespace L2
open PySem
noncomputable def fJ (s:Stmt):Arguments:=match s with
 |.FunctionDef _ a _ _ _ _ _ _ _ _=>a|_=>{posonlyargs:=[],args:=[],vararg:=none,kwonlyargs:=[],kw_defaults:=[],kwarg:=none,defaults:=[] }
noncomputable def eN (s:Stmt):List Stmt:=match s with
 |.FunctionDef _ _ b _ _ _ _ _ _ _=>b|_=>[]
noncomputable def aC (s:Stmt):Scope:=match s with
 |.FunctionDef _ _ _ _ _ _ sc _ _ _=>sc|_=>{kind:=.function,names:=[],isGenerator:=false,isCoroutine:=false}
end L2
abbrev pWo:=PySem.Challenge.pw_blotsure_k55_whole_farness
abbrev L1S:=List (PySem.Str×Int)
abbrev L2S:=List L1S
namespace Pg
open PySem L2 PySem.W
set_option maxHeartbeats 0
noncomputable def top (i:Nat):Stmt:=pWo.main.body.getD i (.Pass #[0,0,0,0])
noncomputable def M4 (as:List Addr) (h:Heap):Frag:=as.filterMap λa=>(h.get? a).map λo=>(a,o)
theorem qg {h:Heap}:∀{as:List Addr},(M4 as h).In h
 |[],_,_,e=>nomatch e|a::as,b,o,e=>by unfold M4 at e;rw[Ħ]at e;cases q:h.get? a with
  |none=>rw[q]at e;show qg (as:=as) b o e|some o'=>
   rw[q]at e;simp only[η,ğ]at e;split at e;.rename_i z;rw[Φ z,q];show e
   .show qg (as:=as) b o e
abbrev DO:=Str×Str×Arguments×FuncBody×Scope×Addr×List (Str×Addr)×Addr×Bool×Bool
noncomputable def RV (K:Frag) (n:Str):Option (Option Addr×DO):=match nsIn K mainGlobals n with
 |some !(.ref f)=>match K.lookup f with
  |some ⟨_,_,.func d,_⟩=>(match d.defaults with|.none=>!none|.ref t=>!(!t)|_=>none).map λt=>(t,d.name,d.qualname,d.params,d.body,d.scope,d.globals,d.closure,d.builtins,codeIn K d.code n,keepIn K (.ref f))|_=>none
 |_=>none
noncomputable def RW (t:Option Addr) (n:Str) (i:Nat):Option (Option Addr×DO):=!(t,n,n,fJ (top i),.stmts (eN (top i)),aC (top i),mainGlobals,[],builtinsNs,true,true)
noncomputable def WT (K:Frag) (C:Addr):Bool×List (Option (Option Value))×List (Option Bool):=(excIn K C [.type "ValueError",.type "Exception",.type "BaseException",.type "object"] "ValueError.__new__",[findIn K (.ref C) "__getattribute__",findIn K (.ref C) "__getattr__",findIn K (.ref C) "__class__",specialIn K (.builtin "object.__class__") "__get__"],[takesIn K (.builtin "object.__class__"),mroIn K C (.type "object"),subIn K (.ref C) (.type "BaseException")])
noncomputable def Wo:Bool×List (Option (Option Value))×List (Option Bool):=(true,[!(!(.builtin "BaseException.__getattribute__")),!none,!(!(.builtin "object.__class__")),!(!(.builtin "getset_descriptor.__get__"))],[!true,!true,!true])
noncomputable def nms:List Str:=(["len","sum","zip","dict","min","enumerate","sorted","max","isinstance","bool","int","range","tuple","all","list","str","BlotError","NotAlike"]:List String).map Str.ofString
noncomputable def Y8:List (Option (Option Value)):=[!none,!none,!none,!none,!none,!none,!none,!none,!none,!none,!none,!none,!none,!none,!none,!none,!(!(.ref 38)),!(!(.ref 51))]
noncomputable def RX:List (Str×Nat):=((["inked","apart","check_alike","gap","lettered","ways_of","costs_over","texts_to_rooms","stand_behind","forks","steps_by","all_steps","steps_back","is_even","let_wait","rests","row_of","far_paper","grown","texts_of_fork","step_on","led_on","farness","mends","_law_cell_at","_law_whole","_law_signs","_law_letters","_law_shape","_law_font","_law_drawn","_law_house","_law_spots","_law_begin","_law_rooms","_law_begins","_law_steps","_law_is_stand","_law_is_row","_law_due","_law_walked","_law_least","_law_strip","_law_told","_law_right","_law_mended","law"]:List String).map Str.ofString).zip [1,2,8,7,11,10,15,14,16,13,17,18,24,25,23,22,21,20,28,27,30,29,26,31,33,34,35,36,37,38,39,40,41,42,43,44,45,46,47,48,49,50,51,52,53,54,55]
noncomputable def obs (K:Frag):=(nms.map (nsIn K mainGlobals),RX.map (λd=>RV K d.1),[38,51].map (WT K))
noncomputable def ans:List (Option (Option Value))×List (Option (Option Addr×DO))×List (Bool×List (Option (Option Value))×List (Option Bool)):=(Y8,RX.map (λd=>RW none d.1 d.2),[Wo,Wo])
noncomputable def vw:Program:={pWo with main:={pWo.main with body:=[1,2,4,5,7,8,10,11,13,14,15,16,17,18,20,21,22,23,24,25,26,27,28,29,30,31,33,34,35,36,37,38,39,40,41,42,43,44,45,46,47,48,49,50,51,52,53,54,55].filterMap (pWo.main.body[·]?)}}
theorem said:PySem.Challenge.rw_blotsure_k55_whole_farness.wellSaid=true:=by kernel_rfl
theorem KH {a b c:Type} {o:Option a} {f:a->b} {g:a->c} {x:b} {y:c} (h:o.map f=!x) (k:o.map g=!y):o.map (λs=>(f s,g s))=!(x,y):=by cases o with|none=>cases h|some s=>cases h;cases k;rfl
theorem SJ (w:World):(openEnds treeTable pWo w 3958).map (λs=>openSeen vw [] (importedModules pWo.main.body) (λs=>xlAt vw [] s&&recOk [] s) true s)=!(openGood vw []):=by kernel_rfl
noncomputable def ob (s:Shared):=obs (M4 [2,3,15,17,18,20,21,22,24,25,27,28,29,36,37,38,39,42,49,50,51,54,57,58,59,61,62,64,65,66,69,70,71,74,75,76,78,79,81,82,83,85,86,88,89,90,92,93,95,96,97,99,100,102,103,104,107,108,109,112,113,114,117,118,119,121,122,124,125,126,129,130,131,133,134,136,137,138,140,141,143,144,145,147,148,150,151,152,155,156,157,159,160,162,163,164,166,167,169,170,171,173,174,176,177,178,180,181,183,184,185,187,188,190,191,192,194,195,197,198,199,201,202,204,205,206,208,209,211,212,213,216,217,218,220,221,223,224,225,228,229,230,233,234,235,237,238,240,241,242,244,245,247,248,249,251,252,254,255,256,258,259,261,262,263,266,267,268,270,271,273,274,275,278,279,280,282,283,285,286,287,289,290,292,293,294,297,298,299,301,302,304,305,306,309,310,311,313,314,316,317,318,320,321,323,324,325,327,328,330,331,332,334,335,337,338] s.heap)
theorem SM (w:World):(openEnds treeTable pWo w 3958).map ob=!ans:=by kernel_rfl
theorem left:LeftO pWo vw [] (λs=>xlAt vw [] s&&recOk [] s) ob (λ_=>ans) 3958:=λw=>KH (SJ w) (SM w)
end Pg
set_option Elab.async false
set_option linter.all false
set_option maxRecDepth 100000
namespace L2
open PySem PySem.Spec PyProof.Rows
variable{lo:Int} {M:Model} {w:World} {A:Around} {d':Drawn} {op:CmpOp} {cd u:Value} {p:Addr×Obj} {qual x:Str} {c e tg:Expr} {fd:FuncData} {es:List Expr} {pos pos':Pos} {s' s1:Shared} {a b dx it:Addr} {an:Option Addr} {i j k n t':Nat} {outer:List Env} {sc scope:Scope} {ch fp:List Addr} {g:Int->Int->Int} {C:Int->Int->Prop} {params:Arguments} {body st:List Stmt} {g':Array GenState} {its us:List Value} {E Q:Value->Shared->Prop} {mA mg:Str->Option Value} {osl:Array (Option Value)} {f:Value->Value->Sem Value} {pins pins':List (Addr×Obj)}
abbrev Key:=Sum Int Str
noncomputable def jG:Key->Value->Bool
 |.inl k,v=>Value.isInt k v|.inr x,v=>Value.isStrOf x v
noncomputable def WW (w:World):Key->Int
 |.inl k=>hashInt k|.inr x=>hashStr w x
theorem bU:∀{k:Key} {v:Value},jG k v=true->(∃i t,k=Sum.inl i/\v=Value.int i t)\/(∃x t,k=Sum.inr x/\v=Value.str x t)
 |.inl i,v,h=>by
  let#[t,e]:=Value.isInt_shape (k:=i) (v:=v) h;show .inl #[i,t,rfl,e]|.inr x,v,h=>by let#[t,e]:=Value.isStrOf_shape (x:=x) (v:=v) h;show .inr #[x,t,rfl,e]
theorem yV (i:Int) (t:Tok):jG (.inl i) (.int i t)=true:=by simp[jG,Value.isInt]
theorem oV (x:Str) (t:Tok):jG (.inr x) (.str x t)=true:=by simp[jG,Value.isStrOf]
theorem M5 (a b:Int):decide ((Sum.inl a:Key)=Sum.inl b)=(a==b):=by
 by_cases e:a=b;.subst e;simp
 .have h:¬(Sum.inl a:Key)=Sum.inl b:=λq=>e (Sum.inl.inj q);rw[È h];show(Ė.mpr e).symm
theorem M6 (a b:Str):decide ((Sum.inr a:Key)=Sum.inr b)=decide (a=b):=by
 by_cases e:a=b;.subst e;simp
 .have h:¬(Sum.inr a:Key)=Sum.inr b:=λq=>e (ř q);rw[È h,È e]
theorem M7 (a:Int) (b:Str):decide ((Sum.inl a:Key)=Sum.inr b)=false:=È (λq=>nomatch q)
theorem M8 (a:Str) (b:Int):decide ((Sum.inr a:Key)=Sum.inl b)=false:=È (λq=>nomatch q)
noncomputable def bN (prog:Program) (w:World):PySem.KeyKind prog w Key where
 is:=jG
 hash:=WW w
 inj:=λv a b ha hb=>by
  rcases bU ha with⟨i,t,rfl,rfl⟩|⟨x,t,rfl,rfl⟩
  .rcases bU hb with⟨j,u,rfl,e⟩|⟨y,u,rfl,e⟩;.injection e with e1 _;rw[e1]
   .show nomatch e
  .rcases bU hb with⟨j,u,rfl,e⟩|⟨y,u,rfl,e⟩;.show nomatch e
   .injection e with e1 _;rw[e1]
 byValue:=λk v h=>by rcases bU h with⟨i,t,rfl,rfl⟩|⟨x,t,rfl,rfl⟩<;>rfl
 pyHash:=λhv h=>by
  rcases bU hv with⟨i,t,rfl,rfl⟩|⟨x,t,rfl,rfl⟩;.show wpAny_pyHash_int h
  .show wpAny_pyHash_str h
 eqBool:=λhu hv h=>by
  rcases bU hu with⟨i,t,rfl,rfl⟩|⟨x,t,rfl,rfl⟩
  .rcases bU hv with⟨j,u,rfl,rfl⟩|⟨y,u,rfl,rfl⟩;.rw [M5]at h;show wpAny_eqBool_int h
   .rw [M7]at h;show SeqAt.EqAt.int_str i t y u _ _ _ _ h
  .rcases bU hv with⟨j,u,rfl,rfl⟩|⟨y,u,rfl,rfl⟩;.rw [M8]at h;show SeqAt.EqAt.str_int x t j u _ _ _ _ h
   .rw [M6]at h;show wpAny_eqBool_str h
 «strs»:=λk x t v h=>by
  rcases bU h with⟨i,u,rfl,e⟩|⟨y,u,rfl,e⟩;.show nomatch e
  .injection e with e1 _;subst e1;cases v<;>rfl
theorem uL (prog:Program) (w:World) (k:Key) (v:Value):(bN prog w).is k v=jG k v:=rfl
theorem rR (prog:Program) (w:World) (i:Int) (t:Tok):(bN prog w).is (.inl i) (.int i t)=true:=yV i t
theorem rT (prog:Program) (w:World) (x:Str) (t:Tok):(bN prog w).is (.inr x) (.str x t)=true:=oV x t
inductive V where|non|bl (b:Bool)|int (i:Int)|str (x:Str)|byt (b:Array UInt8)|flt (b:UInt64)|ref (a:Addr)|ty (n:String)deriving DecidableEq
variable{v y:V} {xs:List V} {σ':List (Option V)}
def RelV:V->Value->Prop
 |.non,u=>u=Value.none|.bl b,u=>u=Value.bool b|.int i,u=>∃t,u=Value.int i t|.str x,u=>∃t,u=Value.str x t|.byt b,u=>∃t,u=Value.bytes b t|.flt b,u=>∃t,u=Value.float b t|.ref a,u=>u=Value.ref a|.ty n,u=>u=Value.type n
abbrev Vals:List V->List Value->Prop:=Paired RelV
theorem Vals.length (r:Vals xs us):xs.length=us.length:=Ċ r
theorem Vals.get:∀{xs:List V} {us:List Value} {i:Nat} {x:V},Vals xs us->xs[i]?=!x->∃u,us[i]?=!u/\RelV x u|_,_,_,_,.nil,e=>by simp at e|_,_,0,_,.cons r _,e=>by simp at e;subst e;show#[_,rfl,r]|_,_,i+1,x,.cons _ t,e=>by let#[u,a,b]:=Vals.get (i:=i) (x:=x) t (by simpa using e);show#[u,by simpa using a,b]
theorem Vals.append:∀{xs ys:List V} {us a:List Value},Vals xs us->Vals ys a->Vals (xs++ys) (us++a)
 |_,_,_,_,.nil,s=>s|_,_,_,_,.cons r t,s=>.cons r (Vals.append t s)
theorem Vals.take:∀{xs:List V} {us:List Value} (n:Nat),Vals xs us->Vals (xs.take n) (us.take n)
 |_,_,0,_=>.nil
 |_,_,_+1,.nil=>.nil|_,_,n+1,.cons r t=>.cons r (Vals.take n t)
theorem Vals.drop:∀{xs:List V} {us:List Value} (n:Nat),Vals xs us->Vals (xs.drop n) (us.drop n)
 |_,_,0,r=>r|_,_,_+1,.nil=>.nil|_,_,n+1,.cons _ t=>Vals.drop n t
def RelO:Option V->Option Value->Prop
 |some v,!u=>RelV v u|none,none=>True|_,_=>False
def KV {κ:Type}:List (κ×V)->List (κ×Value)->Prop:=Paired λ(p:κ×V) (q:κ×Value)=>p.1=q.1/\RelV p.2 q.2
noncomputable def kV:Key->V
 |.inl i=>.int i|.inr x=>.str x
inductive HO where|lst (xs:List V)|tup (xs:List V)|dK (kvs:List (Key×V))|dT (kvs:List (List Key×V))|set (S:Int->Bool) (n:Nat)|ins (C dx:Addr) (fs:List (Str×V))|own (x:Addr)|xd (fs:List (Str×V))|met (f x:Addr)|rng (lo hi:Int)|frz (o:Obj) (u:HO)
 |tbl (ps:Array Value)|ext (φ:Heap->Prop)
abbrev Hp:=Addr->Option HO
variable{H:Hp} {R:V->V->Hp->Prop}
noncomputable def upd (H:Hp) (a:Addr) (o:HO):Hp:=λb=>if b=a then !o else H b
theorem ao {o:HO}:upd H a o a=!o:=by unfold upd;rw[if_pos rfl]
theorem az {o:HO} (h:b≠a):upd H a o b=H b:=by unfold upd;rw[if_neg h]
theorem bD {o u:HO} (h:H a=!o) (h':H b=!u) (d:o≠u):a≠b:=by intro e;subst e;rw[h]at h';show d (Ô h')
theorem aW {o:HO} (h:H a=!o) (h':H b=none):a≠b:=by intro e;subst e;rw[h]at h';cases h'
section
variable (P:Program) (w:World)
def ObjOk (H:Hp) (h:Heap) (a:Addr):HO->Prop|.lst xs=>xs.length<=sizeLine/\∃(its:List Value) (n:Nat),Vals xs its/\h.get? a=!{cls:=.type "list",data:=.seq its.toArray n}|.tup xs=>xs.length<=sizeLine/\∃its:List Value,Vals xs its/\IsTup h a its.toArray|.dK kvs=>kvs.length<=sizeLine/\(a==sysModules)=false/\∃vs,KV kvs vs/\h.DictOf (bN P w) a vs|.dT kvs=>kvs.length<=sizeLine/\(a==sysModules)=false/\∃xs:List (List Key×Addr×Value),Paired (λ(p:List Key×V) (q:List Key×Addr×Value)=>p.1=q.1/\H q.2.1=!(.tup (p.1.map kV))/\RelV p.2 q.2.2) kvs xs/\∃o es ep,h.get? a=!o/\o.ExactDict/\o.data=.dict es ep/\es.toList=xs.map (entryOfKey (tupleKind (bN P w)))/\(xs.map (·.1)).Nodup|.set S n=>h.SetOf (intKind P w) a S n|.ins C dx fs=>H dx=!(.own a)/\fs.length<=1000/\dx≠a/\h.get? a=!(PySem.W.instObj C dx)/\∃mA,h.Ns1 dx mA/\(∀f,RelO (fs.lookup f) (mA f))/\PySem.Within mA (fs.map (·.1))|.own _=>∃o,h.get? a=!o|.xd fs=>∃mA,h.Ns1 a mA/\∀f,RelO (fs.lookup f) (mA f)|.rng lo hi=>∃t u v,h.get? a=!{cls:=.type "range",data:=.fields ([.int lo t,.int hi u,.int 1 v].toArray)}|.frz o u=>h.get? a=!o/\ObjOk H h a u|.tbl ps=>h.get? a=!{cls:=.none,data:=.fields ps}|.met f x=>h.get? a=!(PySem.W.methodObj (.ref f) (.ref x))|.ext φ=>φ h/\(∃o,h.get? a=!o)/\∀h1 h2:Heap,φ h1->(∀o,h1.get? a=!o->h2.get? a=!o)->φ h2
def HOk (H:Hp) (h:Heap):Prop:=∀a o,H a=!o->ObjOk P w H h a o
end
section
variable{P:Program} {w:World} {H H':Hp} {h h':Heap} {a:Addr} {o:HO}
theorem ObjOk.lt (x:ObjOk P w H h a o):a<h.objs.size:=by cases o with|lst xs=>let#[_,_,_,_,e]:=x;show Ç e|tup xs=>let#[_,_,_,p]:=x;show p.lt|dK kvs=>let#[_,_,_,_,o,_,_,e,_]:=x;show Ç e|dT kvs=>let#[_,_,_,_,o,_,_,e,_]:=x;show Ç e|set S n=>let#[o,_,_,_,e,_]:=x;show Ç e|ins C dx fs=>let#[_,_,_,e,_]:=x;show Ç e|own y=>let#[_,e]:=x;show Ç e|xd fs=>let#[_,#[_,_,_,e,_],_]:=x;show Ç e|rng lo hi=>let#[_,_,_,e]:=x;show Ç e|frz ob u=>let#[e,_]:=x;show Ç e|tbl ps=>show Ç (show h.get? a=!_ from x)|met f y=>show Ç (show h.get? a=!_ from x)|ext φ=>let#[_,#[_,e],_]:=x;show Ç e
theorem Paired.mapP {d c:Type} {F G:d->c->Prop}:∀{l₁:List d} {l₂:List c},Paired F l₁ l₂->(∀a b,F a b->G a b)->Paired G l₁ l₂
 |_,_,.nil,_=>.nil|_,_,.cons r t,f=>.cons (f _ _ r) (Paired.mapP t f)
theorem ObjOk.stay (x:ObjOk P w H h a o) (k:∀b u,(b=a\/H b=!(.own a))->h.get? b=!u->h'.get? b=!u)(B:∀b,H b=!(.own a)->H' b=!(.own a)) (s:∀b xs,H b=!(.tup xs)->H' b=!(.tup xs)):ObjOk P w H' h' a o:=by induction o with
 |lst xs=>let#[z,i,n,r,e]:=x;show#[z,i,n,r,k _ _ (.inl rfl) e]|tup xs=>let#[z,i,r,ob,e,c]:=x;show#[z,i,r,ob,k _ _ (.inl rfl) e,c]|dK kvs=>let#[z,y,vs,r,ob,es,g,e,c]:=x;show#[z,y,vs,r,ob,es,g,k _ _ (.inl rfl) e,c]|dT kvs=>let#[z,y,xs,r,ob,es,g,e,c]:=x;show#[z,y,xs,Paired.mapP r λp q z=>#[z.1,s _ _ z.2.1,z.2.2],ob,es,g,k _ _ (.inl rfl) e,c]|set S n=>let#[ob,es,g,t,e,c]:=x;show#[ob,es,g,t,k _ _ (.inl rfl) e,c]|ins C dx fs=>let#[d,z,A,e,j,#[l,es,g,m,c],r]:=x;show#[B _ d,z,A,k _ _ (.inl rfl) e,j,#[l,es,g,k _ _ (.inr d) m,c],r]|own y=>let#[ob,e]:=x;show#[ob,k _ _ (.inl rfl) e]|xd fs=>let#[j,#[l,es,g,e,c],r]:=x;show#[j,#[l,es,g,k _ _ (.inl rfl) e,c],r]|rng lo hi=>let#[t,u,v,e]:=x;show#[t,u,v,k _ _ (.inl rfl) e]|frz ob u ih=>let#[e,q]:=x;show#[k _ _ (.inl rfl) e,ih q]|tbl ps=>
  have e:h.get? a=!{cls:=.none,data:=.fields ps}:=x;change h'.get? a=!{cls:=.none,data:=.fields ps};show k a _ (.inl rfl) e|met f y=>have e:h.get? a=!(PySem.W.methodObj (.ref f) (.ref y)):=x;change h'.get? a=!(PySem.W.methodObj (.ref f) (.ref y));show k a _ (.inl rfl) e|ext φ=>let#[p,#[o,e],st]:=x;show#[st _ _ p λo q=>k _ _ (.inl rfl) q,#[o,k _ _ (.inl rfl) e],st]
theorem HOk.lt (x:HOk P w H h) (e:H a=!o):a<h.objs.size:=(x a o e).lt
theorem HOk.fresh (x:HOk P w H h) (e:h.objs.size<=a):H a=none:=by cases q:H a with
 |none=>rfl|some u=>show absurd (Ý (x.lt q) e) (ü _)
theorem HOk.kept (x:HOk P w H h) (k:∀b u,h.get? b=!u->h'.get? b=!u):HOk P w H h':=λa o e=>(x a o e).stay (λb u _ q=>k b u q) (λ_ q=>q) λ_ _ q=>q
theorem HOk.laid (x:HOk P w H h) (k:∀b u,h.get? b=!u->h'.get? b=!u) (i:h.objs.size<=a) (d:ObjOk P w (upd H a o) h' a o):HOk P w (upd H a o) h':=λb u e=>by
 have f:=x.fresh i;by_cases g:b=a;.subst g;rw[ao]at e;cases e;show d
 .rw [az g]at e;show(x b u e).stay (λc v _ q=>k c v q) (λc q=>by rw[az (aW q f)];show q) λc xs q=>by rw[az (aW q f)];show q
end
def Rd (H:Hp) (a:Addr) (u:HO):Prop:=H a=!u\/∃o,H a=!(.frz o u)
theorem Rd.ok {P:Program} {h:Heap} {u:HO} (r:Rd H a u) (x:HOk P w H h):ObjOk P w H h a u:=by
 rcases r with r|⟨o,r⟩;.show x a u r
 .obtain ⟨_,q⟩:=x a _ r;show q
def SN:Option HO->Prop
 |some (.lst _)=>True|some (.dK _)=>True|some (.dT _)=>True|some (.set _ _)=>True
 |some (.ins _ _ _)=>True|some (.ext _)=>True|_=>False
section
variable{P:Program} {w:World} {H:Hp} {h h':Heap} {x e:Addr} {o':HO}
theorem HOk.write (s:HOk P w H h) (i:SN (H x)) (o:e=x\/H e=!(.own x)) (k:∀b u,b≠e->h.get? b=!u->h'.get? b=!u) (l:∃u,h'.get? e=!u)(m:ObjOk P w (upd H x o') h' x o'):HOk P w (upd H x o') h':=λb u q=>by
 have d:∀c y,H c=!(.own y)->c≠x:=λc y r z=>by subst z;rw[r]at i;show i
 have f:∀c xs,H c=!(.tup xs)->c≠x:=λc xs r z=>by subst z;rw[r]at i;show i
 by_cases g:b=x;.subst g;rw[ao]at q;cases q;show m
 .rw [az g]at q;by_cases a:b=e
  .have n:H b=!(.own x):=by
    rcases o with z|z;.show absurd (a.trans z) g
    .rw [a];show z
   rw[q]at n;cases n;let#[v,p]:=l;show#[v,by rw[a];show p]
  .show (s b u q).stay (λc v j r=>k c v ?_ r) (λc r=>by rw[az (d c b r)];show r) λc xs r=>by rw[az (f c xs r)];show r
   rcases j with rfl|j;.show a
   .rintro rfl;rcases o with z|z;.show d c b j z
    .rw [j]at z;cases z;show g rfl
end
structure Un (fs ex:List Addr) (H H':Hp) (h h':Heap):Prop where
 keep:∀b o,h.get? b=!o->H b=none->b∉fs->b∉ex->h'.get? b=!o
 slot:∀b o,h.get? b=!o->H b=none->b∈fs->b∉ex->∃sl,h'.get? b=!{o with slots:=sl}free:∀b o,h.get? b=!o->H b=none->b∉ex->H' b=none
 there:∀b o,h.get? b=!o->b∉ex->∃o',h'.get? b=!o'
 tups:∀b xs,H b=!(.tup xs)->H' b=!(.tup xs)frzs:∀b o u,H b=!(.frz o u)->H' b=!(.frz o u)tbls:∀b ps,H b=!(.tbl ps)->∃more,H' b=!(.tbl (ps++more))
section
variable{fs fs' ex ex':List Addr} {H H1 H2:Hp} {h h1 h2 h':Heap} {a x e:Addr} {o:HO}
theorem Un.any (u:Un fs ex H H1 h h1) {ob:Obj} (q:h.get? b=!ob) (n:H b=none) (a:b∉ex):∃sl,h1.get? b=!{ob with slots:=sl}:=by
 by_cases c:b∈fs;.show u.slot b ob q n c a
 .show #[ob.slots,u.keep b ob q n c a]
theorem Un.kept (k:∀b u,h.get? b=!u->h'.get? b=!u):Un fs ex H H h h':=#[λb ob q _ _ _=>k b ob q,λb ob q _ _ _=>#[ob.slots,k b ob q],λ_ _ _ n _=>n,λb ob q _=>#[ob,k b ob q],λ_ _ q=>q,λ_ _ _ q=>q,λ_ ps q=>#[([].toArray),by rw[q];simp]]
theorem Un.refl:Un fs ex H H h h:=Un.kept λ_ _ q=>q
theorem Un.laid (k:∀b u,h.get? b=!u->h'.get? b=!u) (d:h.objs.size<=a) (c:H a=none):Un fs ex H (upd H a o) h h' where
 keep:=λb u q _ _ _=>k b u q
 slot:=λb u q _ _ _=>#[u.slots,k b u q]
 free:=λb u q n _=>by rw[az (ã (Ý (Ç q) d))];show n
 there:=λb u q _=>#[u,k b u q]
 tups:=λb xs q=>by rw[az (aW q c)];show q
 frzs:=λb u xs q=>by rw[az (aW q c)];show q
 tbls:=λb ps q=>#[([].toArray),by rw[az (aW q c),q];simp]
theorem Un.write (c:SN (H x)) (l:e=x\/H e=!(.own x)) (k:∀b u,b≠e->h.get? b=!u->h'.get? b=!u) (f:∃u,h'.get? e=!u):Un fs ex H (upd H x o) h h':=by
 have i:∀b,H b=none->b≠x:=λb n z=>by subst z;rw[n]at c;show c
 have g:∀b,H b=none->b≠e:=λb n z=>by
  subst z;rcases l with r|r
  .show i b n r
  .rw [n]at r;cases r
 have d:∀b u,H b=!u-> ¬SN !u->b≠x:=λb u q j z=>by subst z;rw[q]at c;show j c
 show⟨λb u q n _ _=>k b u (g b n) q,λb u q n _ _=>⟨u.slots,k b u (g b n) q⟩,λb u q n _=>by rw[az (i b n)];show n,λb u q _=>?_,
  λb xs q=>by rw[az (d b _ q λz=>z)];show q,λb u xs q=>by rw[az (d b _ q λz=>z)];show q,λb ps q=>⟨([].toArray),by rw[az (d b _ q λz=>z),q];simp⟩⟩
 by_cases a:b=e
 .subst a;show f
 .show #[u,k b u a q]
end
noncomputable def Wq (h:Heap) (H:Hp):List Addr:=(List.range h.objs.size).filter λa=>(H a).isSome
noncomputable def qi (h:Heap) (H:Hp):Heap:=PySem.W.hideAll h (Wq h H)
theorem yW (h:Heap) (H:Hp):(qi h H).objs.size=h.objs.size:=PySem.W.hideAll_size _ _
theorem Ak {h:Heap} {o:Obj} (e:h.get? b=!o) (n:H b=none):(qi h H).get? b=!o:=PySem.W.hideAll_get _ e λa=>by have q:(H b).isSome=true:=(Ĩ.mp a).2;rw[n]at q;simp at q
theorem HY {h:Heap} {o:Obj} (e:(qi h H).get? b=!o):h.get? b=!o/\H b=none:=by
 have a:h.get? b=!o:=PySem.W.of_hideAll (Wq h H) e;show#[a,?_];cases q:H b with
 |none=>rfl|some x=>have c:b∈Wq h H:=Ĩ.mpr #[List.mem_range.mpr (Ç a),by simp[q]];have z:(qi h H).get? b=none:=PySem.W.hideAll_none (Wq h H) c;rw[z]at e;cases e
noncomputable def Ia (g h:Heap) (L:Addr):List (Addr×Obj):=(List.range h.objs.size).filterMap λa=>if a=L\/(g.get? a).isSome=true then none else(h.get? a).map λo=>(a,o)
noncomputable def rest (g h:Heap) (L d:Addr):List (Addr×Obj):=(Ia g h L).filter λp=>decide (p.1≠d)
structure Mod (K:W.Frag) (mg:Str->Option Value) (base:Heap):Prop where
 kin:K.In base
 glob:base.Ns mainGlobals mg
 blt:∃mb,base.Ns builtinsNs mb/\∀x:Str,x≠"__name__"->mb x=bootBuiltins x
 nolimit:base.NoLimit
structure Cx where
 prog:Program
 w:World
 K:W.Frag
 mg:Str->Option Value
 base:Heap
 A:Around
 N:List Str
 s₀:Shared
 H₀:Hp
 env:Env
 outer:List Env
 stack:List Env
 ex:List Addr
 fn:Str->Bool
 calm:Bool
 pn:List (Addr×Obj)
 xe:Value->Shared->Prop
noncomputable def frs (l:List Env):List Addr:=l.filterMap (·.frame)
abbrev Cx.fs (X:Cx):List Addr:=frs X.outer
def Wr (sc:Scope) (x:Str):Prop:=sc.names.lookup x=!.local\/sc.names.lookup x=!.cell\/sc.names.lookup x=!.free
def Loc (sc:Scope) (x:Str):Prop:=sc.names.lookup x=!.local\/sc.names.lookup x=!.cell
def Look (env:Env) (h:Heap) (m:Str->Option Value) (x:Str) (u:Value):Prop:=(env.kindOf x=!.local/\m x=!u)\/((env.kindOf x=!.cell\/env.kindOf x=!.free)/\∃c,env.cells.lookup x=!c/\h.IsCell c !u)
structure Cx.Ok (X:Cx):Prop where
 mod:Mod X.K X.mg X.base
 kind:X.env.scope.kind=.function
 glob:X.env.globals=mainGlobals
 blt:X.env.builtins=builtinsNs
 above:X.s₀.heap.objs.size<=X.env.locals
 inj:∀x y c,X.env.cells.lookup x=!c->X.env.cells.lookup y=!c->x=y
 has:∀x,(X.env.kindOf x=!.cell\/X.env.kindOf x=!.free)->∃c,X.env.cells.lookup x=!c
 cab:∀x c,X.fn x=true->X.env.cells.lookup x=!c->X.s₀.heap.objs.size<=c
 hd:X.calm=true->X.A.handled=none
 frames:X.A.frames=!X.stack
 stk:X.stack=X.outer\/(X.stack=X.env::X.outer/\X.env.frame=!X.env.locals)exf:∀b∈X.ex,b≠X.env.locals/\∀x c,X.env.cells.lookup x=!c->c≠b
 bs:∀b o,X.base.get? b=!o->X.s₀.heap.get? b=!o/\X.H₀ b=none
 bsz:X.base.objs.size<=X.s₀.heap.objs.size
 noex:∀b o,X.base.get? b=!o->b∉X.ex
 exfs:∀b∈X.ex,b∉X.fs
 funs:X.s₀.heap.FunFrames X.base X.outer
 frf:∀b∈X.fs,X.H₀ b=none
structure Inv (X:Cx) (pins:List (Addr×Obj)) (σ:List (Option V)) (H:Hp) (s:Shared):Prop where
 ok:X.Ok
 os:s.os=X.s₀.os
 bare:AllBare s.gens
 base:Un X.fs X.ex X.H₀ H X.s₀.heap s.heap
 loc:∃m,s.heap.Ns X.env.locals m/\∀(i:Nat) (x:Str) (v:V),X.N[i]?=!x->σ[i]?=!(!v)->Wr X.env.scope x->∃u,RelV v u/\Look X.env s.heap m x u
 cell:∀x c,X.env.cells.lookup x=!c->∃v,s.heap.IsCell c v
 free:H X.env.locals=none
 freeC:∀x c,X.env.cells.lookup x=!c->H c=none
 pin:∀p∈X.pn++pins,s.heap.get? p.1=!p.2/\H p.1=none/\p.1≠X.env.locals/\p.1∉X.fs/\∀v,p.2.data≠.cell v
 hok:HOk X.prog X.w H s.heap
 len:σ.length=X.N.length
section
variable{X:Cx} {pins:List (Addr×Obj)} {σ:List (Option V)} {H H':Hp} {s:Shared} {h':Heap}
theorem Cx.Ok.nofr (a:X.Ok) {o:Obj} (e:X.base.get? b=!o):b∉X.fs:=λc=>by have:=(a.funs.mem c).1;rw[e]at this;cases this
theorem Inv.bs (I:Inv X pins σ H s):∀b o,X.base.get? b=!o->s.heap.get? b=!o/\H b=none:=λb o e=>#[I.base.keep b o (I.ok.bs b o e).1 (I.ok.bs b o e).2 (I.ok.nofr e) (I.ok.noex b o e),I.base.free b o (I.ok.bs b o e).1 (I.ok.bs b o e).2 (I.ok.noex b o e)]
theorem Inv.bk (I:Inv X pins σ H s):∀b o,X.base.get? b=!o->s.heap.get? b=!o:=λb o e=>(I.bs b o e).1
theorem Inv.mod (I:Inv X pins σ H s):Mod X.K X.mg X.base:=I.ok.mod
theorem Inv.kIn (I:Inv X pins σ H s):X.K.In s.heap:=I.ok.mod.kin.keeps I.bk
theorem Inv.lt (I:Inv X pins σ H s):X.env.locals<s.heap.objs.size:=let⟨_,hn,_⟩:=I.loc;hn.lt
theorem Inv.sz (I:Inv X pins σ H s):X.s₀.heap.objs.size<=s.heap.objs.size:=Û I.ok.above (ć I.lt)
theorem Inv.nofs (I:Inv X pins σ H s) (h:s.heap.objs.size<=a):a∉X.fs:=λb=>by let#[_,o,c,_]:=I.ok.funs.mem b;show absurd (Ý (Ç c) (Û I.sz h)) (ü _)
theorem Inv.cne (I:Inv X pins σ H s):∀x c,X.env.cells.lookup x=!c->c≠X.env.locals:=λx c e z=>by let#[v,o,d,f]:=I.cell x c e;let#[m,#[h,es,g,a,b,_],_]:=I.loc;rw[z,a]at d;cases d;rw[b]at f;cases f
theorem Inv.funs (I:Inv X pins σ H s):s.heap.FunFrames X.base X.outer:=by
 have all:∀(l:List Env),(∀b∈frs l,b∈X.fs)->X.s₀.heap.FunFrames X.base l->s.heap.FunFrames X.base l:=by intro l;induction l with|nil=>intro _ _;trivial|cons env r ih=>
   intro f h;let#[i,#[L,o,d,j,k,m],g]:=h;have c:L∈X.fs:=f L (by unfold frs;rw[Ħ,d];show Ì);let#[n,e]:=I.base.slot L o k (I.ok.frf L c) c λz=>I.ok.exfs L z c;show#[i,#[L,_,d,j,e,m],ih (λb a=>f b (by unfold frs;rw[Ħ,d];show Í _ a)) g]
 show all X.outer (λ_ a=>a) I.ok.funs
theorem Inv.stack (I:Inv X pins σ H s):s.heap.FunFrames X.base X.stack:=by
 rcases I.ok.stk with e|⟨e,hf⟩
 .rw [e];show I.funs
 .rw [e];let#[m,a,_]:=I.loc;show .cons (by rw[I.ok.kind];decide) hf a ?_ I.funs;show Heap.get?_none_of_le (Û I.ok.bsz I.ok.above)
theorem Inv.stkSub (I:Inv X pins σ H s):∀b∈frs X.stack,b∈X.env.locals::X.fs:=λb a=>by
 rcases I.ok.stk with e|⟨e,hf⟩;.rw [e]at a;show Í _ a
 .rw [e]at a;unfold frs at a;rw[Ħ,hf]at a;show a
theorem Inv.stkFree (I:Inv X pins σ H s):∀b∈frs X.stack,H b=none:=λb a=>by
 rcases Å.mp (I.stkSub b a)with e|a;.rw [e];show I.free
 .obtain ⟨_,o,c,_⟩:=I.ok.funs.mem a;show I.base.free b o c (I.ok.frf b a) λz=>I.ok.exfs b z a
theorem Inv.step (I:Inv X pins σ H s)(h:∀b∈ch,(b∈X.ex\/X.s₀.heap.objs.size<=b)/\b≠X.env.locals/\(∀x c,X.env.cells.lookup x=!c->c≠b)/\∀p∈X.pn++pins,p.1≠b)(t:∀b o,b≠X.env.locals->b∉X.fs->b∉ch->s.heap.get? b=!o->H b=none->h'.get? b=!o)(B:∀b o,b≠X.env.locals->b∈X.fs->b∉ch->s.heap.get? b=!o->H b=none->∃sl,h'.get? b=!{o with slots:=sl}) (f:∀b o,b∉ch->s.heap.get? b=!o->H b=none->H' b=none)(D:∀b o,b∉ch->s.heap.get? b=!o->∃o',h'.get? b=!o')(K:∀b xs,H b=!(.tup xs)->H' b=!(.tup xs)) (L:∀b o u,H b=!(.frz o u)->H' b=!(.frz o u)) (J:∀b ps,H b=!(.tbl ps)->∃more,H' b=!(.tbl (ps++more)))(ns:∀m,s.heap.Ns X.env.locals m->h'.Ns X.env.locals m) (M:HOk X.prog X.w H' h') (W:AllBare g'):Inv X pins σ H' {s with heap:=h',gens:=g',drawn:=d',toks:=t'}:=by
 have G:∀b o,X.s₀.heap.get? b=!o->b≠X.env.locals:=λb o e=>ã (Ý (Ç e) I.ok.above);have A:∀b o,X.s₀.heap.get? b=!o->b∉X.ex->b∉ch:=λb o e a C=>by
  rcases(h b C).1with z|z;.show a z
  .show absurd (Ý (Ç e) z) (ü _)
 have g:∀x c,X.env.cells.lookup x=!c->∀v,s.heap.IsCell c v->h'.IsCell c v:=λx c e v ⟨o,E,O⟩=>by
  have j:c∉ch:=λz=>(h c z).2.2.1 x c e rfl;by_cases S:c∈X.fs;.obtain ⟨sl,q⟩:=B c o (I.cne x c e) S j E (I.freeC x c e);show#[_,q,O]
  .show #[o,t c o (I.cne x c e) S j E (I.freeC x c e),O]
 show#[I.ok,I.os,W,#[λb o e n C a=>?_,λb o e n C a=>?_,λb o e n a=>?_,λb o e a=>?_,λb xs e=>K b xs (I.base.tups b xs e),λb o xs e=>L b o xs (I.base.frzs b o xs e),λb ps e=>?_],?_,λx c e=>?_,?_,λx c e=>?_,λp Q=>?_,M,I.len];.show t b o (G b o e) C (A b o e a) (I.base.keep b o e n C a) (I.base.free b o e n a)
 .obtain ⟨sl,y⟩:=I.base.slot b o e n C a;let#[N,F]:=B b _ (G b o e) C (A b o e a) y (I.base.free b o e n a);show#[N,F]
 .obtain ⟨o',y⟩:=I.base.there b o e a;show f b o' (A b o e a) y (I.base.free b o e n a)
 .obtain ⟨o',y⟩:=I.base.there b o e a;show D b o' (A b o e a) y
 .obtain ⟨T,y⟩:=I.base.tbls b ps e;let#[m2,F]:=J b _ y;show#[T++m2,by rw[F,Array.append_assoc]]
 .obtain ⟨m,Z,U⟩:=I.loc;show#[m,ns m Z,λi x v y F Y=>?_];let#[u,r,l]:=U i x v y F Y;show#[u,r,?_];rcases l with l|⟨k,c,e,z⟩
  .show .inl l
  .show .inr #[k,c,e,g x c e _ z]
 .obtain ⟨v,z⟩:=I.cell x c e;show#[v,g x c e v z]
 .obtain ⟨m,⟨o,_,_,E,_⟩,_⟩:=I.loc;show f _ o (λz=>(h _ z).2.1 rfl) E I.free
 .obtain ⟨v,o,E,O⟩:=I.cell x c e;show f c o (λz=>(h c z).2.2.1 x c e rfl) E (I.freeC x c e)
 .obtain ⟨e,n,R,P,d⟩:=I.pin p Q;have j:p.1∉ch:=λz=>(h p.1 z).2.2.2 p Q rfl;show#[t p.1 p.2 R P j e n,f p.1 p.2 j e n,R,P,d]
theorem Inv.un (I:Inv X pins σ H s) (u:Un X.fs [] H H' s.heap h') (g:HOk X.prog X.w H' h'):Inv X pins σ H' {s with heap:=h',toks:=t'}:=by
 let#[m,#[o,es,l,h,r],_]:=id I.loc;let#[q,k]:=u.any h I.free (by simp);show I.step (g':=s.gens) (d':=s.drawn) (ch:=[]) (λ_ z=>nomatch z) (λb o _ c _ e n=>u.keep b o e n c (by simp)) (λb o _ c _ e n=>u.slot b o e n c (by simp)) (λb o _ e n=>u.free b o e n (by simp)) (λb o _ e=>u.there b o e (by simp)) u.tups u.frzs u.tbls (λt j=>by let#[p,d,f,a,i]:=j;rw[h]at a;cases a;show#[_,d,f,k,i]) g I.bare
theorem Inv.call (I:Inv X pins σ H s) (u:Un (frs X.stack) ch H H' s.heap h') (g:HOk X.prog X.w H' h') (v:AllBare g')(d:∀b∈ch,(b∈X.ex\/X.s₀.heap.objs.size<=b)/\b≠X.env.locals/\(∀x c,X.env.cells.lookup x=!c->c≠b)/\∀p∈X.pn++pins,p.1≠b):
  Inv X pins σ H' {s with heap:=h',gens:=g',drawn:=d',toks:=t'}:=by
 let#[m,#[o,es,A,k,r],_]:=id I.loc;let#[y,h]:=u.any k I.free λz=>(d _ z).2.1 rfl;show I.step (ch:=ch) d (λb o h q a e n=>u.keep b o e n (λz=>(Å.mp (I.stkSub b z)).elim h q) a) (λb o _ _ a e n=>u.any e n a) (λb o a e n=>u.free b o e n a) (λb o a e=>u.there b o e a) u.tups u.frzs u.tbls (λB t=>by let#[C,i,j,f,l]:=t;rw[k]at f;cases f;show#[_,i,j,h,l]) g v
theorem Inv.turned (I:Inv X pins σ H s) (k:∀b o,b≠it->s.heap.get? b=!o->h'.get? b=!o) (h:H it=none) (f:it≠X.env.locals)(l:it∈X.ex\/X.s₀.heap.objs.size<=it) (t:∀x c,X.env.cells.lookup x=!c->c≠it) (w:∀p∈X.pn++pins,p.1≠it):Inv X pins σ H {s with heap:=h',toks:=t'}:=by
 have d:∀b u,H b=!u->b≠it:=λb u e z=>by rw[z,h]at e;cases e
 show I.step (g':=s.gens) (d':=s.drawn) (ch:=[it]) (λb i=>?_) (λb o _ _ a e _=>k b o (λz=>a (by simp[z])) e) (λb o _ _ a e _=>#[o.slots,k b o (λz=>a (by simp[z])) e]) (λ_ _ _ _ n=>n)
  (λb o a e=>#[o,k b o (λz=>a (by simp[z])) e]) (λ_ _ e=>e) (λ_ _ _ e=>e) (λb ps e=>#[([].toArray),by rw[e];simp]) (λm j=>?_) (λb u e=>?_) I.bare
 .have e:b=it:=by simpa using i
  subst e;show#[l,f,t,w]
 .obtain ⟨o,es,g,y,r⟩:=j;show#[o,es,g,k _ o (Ne.symm f) y,r]
 .show (I.hok b u e).stay (λc v a q=>k c v ?_ q) (λ_ q=>q) λ_ _ q=>q;rcases a with z|z;.rw [z];show d b u e
  .show d c _ z
theorem Inv.tok (I:Inv X pins σ H s) (t:Nat):Inv X pins σ H {s with toks:=t}:=I.un (h':=s.heap) (t':=t) Un.refl I.hok
theorem Inv.kept (I:Inv X pins σ H s) (k:∀b u,s.heap.get? b=!u->h'.get? b=!u):Inv X pins σ H {s with heap:=h',toks:=t'}:=I.un (Un.kept k) (I.hok.kept k)
theorem Inv.laid {o:HO} (I:Inv X pins σ H s) (k:∀b u,s.heap.get? b=!u->h'.get? b=!u) (c:s.heap.objs.size<=a) (d:ObjOk X.prog X.w (upd H a o) h' a o):Inv X pins σ (upd H a o) {s with heap:=h',toks:=t'}:=I.un (Un.laid k c (I.hok.fresh c)) (I.hok.laid k c d)
theorem Inv.write {x e:Addr} {o:HO} (I:Inv X pins σ H s) (f:SN (H x)) (d:e=x\/H e=!(.own x)) (k:∀b u,b≠e->s.heap.get? b=!u->h'.get? b=!u) (a:∃u,h'.get? e=!u)(c:ObjOk X.prog X.w (upd H x o) h' x o):Inv X pins σ (upd H x o) {s with heap:=h',toks:=t'}:=I.un (Un.write f d k a) (I.hok.write f d k a c)
theorem Inv.weak (I:Inv X pins σ H s) (d:σ'.length=σ.length) (w:∀(i:Nat) v,σ'[i]?=!(!v)->σ[i]?=!(!v)):Inv X pins σ' H s:=#[I.ok,I.os,I.bare,I.base,let⟨m,hn,hl'⟩:=I.loc;#[m,hn,λi x v c a b=>hl' i x v c (w i v a) b],I.cell,I.free,I.freeC,I.pin,I.hok,d.trans I.len]
theorem Inv.pins_of (I:Inv X pins σ H s) (h:∀p∈pins',s.heap.get? p.1=!p.2/\H p.1=none/\p.1≠X.env.locals/\p.1∉X.fs/\∀v,p.2.data≠.cell v):Inv X pins' σ H s:=#[I.ok,I.os,I.bare,I.base,I.loc,I.cell,I.free,I.freeC,λp a=>(Â.mp a).elim (λz=>I.pin p (Ü _ z)) (h p),I.hok,I.len]
theorem rY {N:List Str} (d:N.Nodup) (a:N[i]?=!x) (b:N[j]?=!x):i=j:=by let#[f,e]:=É.mp a;let#[g,c]:=É.mp b;show(List.getElem_inj d).mp (e.trans c.symm)
theorem oW {Q:Unit->Shared->Prop} (I:Inv X pins σ H s) (hN:X.N.Nodup) (hi:X.N[i]?=!x) (B:Loc X.env.scope x) (r:RelV v u)(h:∀s',Inv X pins (σ.set i !v) H s'->(∃a,Heap.SameBut a s.heap s'.heap/\(a=X.env.locals\/X.env.cells.lookup x=!a))->Q Unit.unit s') (hf:X.fn x=true\/X.env.scope.names.lookup x=!.local:=by first|show .inl rfl|show .inr rfl|assumption):wpAny M A (storeName X.env x u) Q E s:=by
 let#[m,hn,hl]:=id I.loc;have R:(X.env.scope.kind==.class||(X.env.scope.kind==.module&&X.env.locals !=X.env.globals))=false:=by rw[I.ok.kind];rfl
 have F:i<σ.length:=by rw[I.len];show(É.mp hi).1
 have cne:=I.cne;have l:∀{a:Addr} {h':Heap},(∃o,s.heap.get? a=!o/\H a=none)->Heap.SameBut a s.heap h'->HOk X.prog X.w H h':=λ{a h'} ha f b ob e=>by
  let#[_,_,C]:=ha;show(I.hok b ob e).stay (λc U t q=>(f.2 c ?_).trans q) (λ_ q=>q) λ_ _ q=>q;rintro rfl;rcases t with rfl|t;.rw [C]at e;cases e
  .rw [C]at t;cases t
 rcases B with hk|hk
 .show wpAny_storeName_local hk hn (λh' ad f=>?_) R;let#[oL,_,_,ae,_]:=id hn;show h _ #[I.ok,I.os,I.bare,#[λb o e n G B=>?_,λb o e n G B=>?_,I.base.free,λb o e B=>?_,I.base.tups,I.base.frzs,I.base.tbls],#[_,ad,λj y v' g D e3=>?_],λy c e=>?_,I.free,I.freeC,λp hp=>?_,l #[oL,ae,I.free] f,by simpa using I.len] #[_,f,.inl rfl];.show (f.2 b (ã (Ý (Ç e) I.ok.above))).trans (I.base.keep b o e n G B)
  .obtain ⟨sl,g⟩:=I.base.slot b o e n G B;show#[sl,(f.2 b (ã (Ý (Ç e) I.ok.above))).trans g]
  .obtain ⟨o',g⟩:=I.base.there b o e B;show#[o',(f.2 b (ã (Ý (Ç e) I.ok.above))).trans g]
  .by_cases J:j=i;.subst J;rw[hi]at g;cases g;rw[List.getElem?_set_self F]at D;cases D;show#[u,r,.inl #[hk,by simp]]
   .rw [List.getElem?_set_ne (Ne.symm J)]at D;let#[u',Y,q]:=hl j y v' g D e3;show#[u',Y,?_];rcases q with⟨k,e⟩|⟨k,c,e,z⟩;.show .inl #[k,?_];have:y≠x:=λe=>J (rY hN g (e▸hi));simp[this,e]
    .show .inr #[k,c,e,z.sameBut f (cne y c e)]
  .obtain ⟨U,z⟩:=I.cell y c e;show#[U,z.sameBut f (cne y c e)]
  .obtain ⟨e,n,W,Z,d⟩:=I.pin p hp;show#[(f.2 p.1 W).trans e,n,W,Z,d]
 .have K:X.fn x=true:=by
   rcases hf with z|z;.show z
   .rw [z]at hk;cases hk
  let#[c,t]:=I.ok.has x (.inl hk);let#[U,z]:=I.cell x c t;show wpAny_storeName_cell I.ok.kind hk t z (λh' P f=>?_);let#[oc,L,O]:=id z;show h {s with heap:=h'} ⟨I.ok,I.os,I.bare,⟨λb o e n G B=>?_,λb o e n G B=>?_,I.base.free,λb o e B=>?_,I.base.tups,I.base.frzs,I.base.tbls⟩,⟨m,hn.sameBut f (Ne.symm (cne x c t)),λj y v' g D e3=>?_⟩,λy T e=>?_,I.free,I.freeC,λp hp=>?_,l ⟨oc,L,I.freeC x c t⟩ f,by simpa using I.len⟩ ⟨c,f,.inr t⟩;.show (f.2 b (ã (Ý (Ç e) (I.ok.cab x c K t)))).trans (I.base.keep b o e n G B)
  .obtain ⟨sl,g⟩:=I.base.slot b o e n G B;show#[sl,(f.2 b (ã (Ý (Ç e) (I.ok.cab x c K t)))).trans g]
  .obtain ⟨o',g⟩:=I.base.there b o e B;show#[o',(f.2 b (ã (Ý (Ç e) (I.ok.cab x c K t)))).trans g]
  .by_cases J:j=i;.subst J;rw[hi]at g;cases g;rw[List.getElem?_set_self F]at D;cases D;show#[u,r,.inr #[.inl hk,c,t,P]]
   .rw [List.getElem?_set_ne (Ne.symm J)]at D;let#[u',Y,q]:=hl j y v' g D e3;show#[u',Y,?_];rcases q with q|⟨k,T,e,z'⟩;.show .inl q
    .show .inr #[k,T,e,z'.sameBut f ?_];rintro rfl;show J (rY hN g (I.ok.inj _ _ _ e t▸hi))
  .by_cases S:T=c;.subst S;show#[_,P]
   .obtain ⟨w2,z2⟩:=I.cell y T e;show#[w2,z2.sameBut f S]
  .obtain ⟨e,n,W,Z,d⟩:=I.pin p hp;show#[(f.2 p.1 ?_).trans e,n,W,Z,d];intro q;rw[q,L]at e;have q':oc=p.2:=Ô e;show d U (by rw[<-q'];show O)
theorem mC {Q:Unit->Shared->Prop} (I:Inv X pins σ H s) (a:X.N.Nodup) (hi:X.N[i]?=!x) (b:Loc X.env.scope x) (r:RelV v u)(h:∀s',Inv X pins (σ.set i !v) H s'->Q Unit.unit s') (d:X.fn x=true\/X.env.scope.names.lookup x=!.local:=by first|show .inl rfl|show .inr rfl|assumption):wpAny M A (storeName X.env x u) Q E s:=oW I a hi b r (λs' c _=>h s' c) d
theorem Inv.call' (I:Inv X pins σ H s) (h:s'.os=s.os) (u:Un (frs X.stack) ch H H' s.heap s'.heap) (a:HOk X.prog X.w H' s'.heap) (g:AllBare s'.gens)(d:∀b∈ch,(b∈X.ex\/X.s₀.heap.objs.size<=b)/\b≠X.env.locals/\(∀x c,X.env.cells.lookup x=!c->c≠b)/\∀p∈X.pn++pins,p.1≠b):Inv X pins σ H' s':=by let#[h',g',d',t',f]:=s';have e:f=s.os:=h;subst e;show I.call (g':=g') (t':=t') (d':=d') u a g d
end
abbrev XK:=Value->Option Addr->Hp->Prop
abbrev St:=List (Option V)
variable{σ:St}
abbrev VK:=V->Hp->Prop
abbrev TE:=St->Hp->VK->Prop
variable{t te:TE}
abbrev TT:=St->Hp->(Bool->Hp->Prop)->Prop
variable{tc:TT}
abbrev TA:=St->Hp->(List V->Hp->Prop)->Prop
structure Ends where
 nx:St->Hp->Prop
 rt:VK
 bk:St->Hp->Prop:=λ_ _=>False
 ct:St->Hp->Prop:=λ_ _=>False
abbrev TS:=Ends->St->Hp->Prop
variable{tb:TS}
def EP (X:Cx) (pins:List (Addr×Obj)) (σ:St) (Q:VK) (u:Value) (s':Shared):Prop:=∃v H',Inv X pins σ H' s'/\RelV v u/\Q v H'
def TP (X:Cx) (pins:List (Addr×Obj)) (σ:St) (Q:Bool->Hp->Prop) (b:Bool) (s':Shared):Prop:=∃H',Inv X pins σ H' s'/\Q b H'
def AP (X:Cx) (pins:List (Addr×Obj)) (σ:St) (Q:List V->Hp->Prop) (us:List Value) (s':Shared):Prop:=∃vs H',Inv X pins σ H' s'/\Vals vs us/\Q vs H'
def SP (X:Cx) (pins:List (Addr×Obj)) (D:Ends) (f:Flow) (s':Shared):Prop:=
 match f with|.next=>∃σ' H',Inv X pins σ' H' s'/\D.nx σ' H'|.brk=>∃σ' H',Inv X pins σ' H' s'/\D.bk σ' H'|.cont=>∃σ' H',Inv X pins σ' H' s'/\D.ct σ' H'|.ret u=>∃v σ' H',Inv X pins σ' H' s'/\RelV v u/\D.rt v H'
def PE (X:Cx) (e:Expr) (t:TE):Prop:=∀(pins:List (Addr×Obj)) (s:Shared) (σ:St) (H:Hp) (Q:VK),Inv X pins σ H s->t σ H Q->wpAny (model X.prog X.w) X.A (eval e X.env) (EP X pins σ Q) X.xe s
def PT (X:Cx) (e:Expr) (t:TT):Prop:=∀(pins:List (Addr×Obj)) (s:Shared) (σ:St) (H:Hp) (Q:Bool->Hp->Prop),Inv X pins σ H s->t σ H Q->wpAny (model X.prog X.w) X.A (isTrue e X.env (eval e X.env)) (TP X pins σ Q) X.xe s
def PW (X:Cx) (e:Expr) (t:TT):Prop:=∀(whole:Sem Value) (pins:List (Addr×Obj)) (s:Shared) (σ:St) (H:Hp) (Q:Bool->Hp->Prop),Inv X pins σ H s->t σ H Q->wpAny (model X.prog X.w) X.A (isTrue e X.env whole) (TP X pins σ Q) X.xe s
theorem PW.pt {X:Cx} {t:TT} (h:PW X e t):PT X e t:=h _
def PA (X:Cx) (es:List Expr) (t:TA):Prop:=∀(pos:Pos) (pins:List (Addr×Obj)) (s:Shared) (σ:St) (H:Hp) (Q:List V->Hp->Prop),Inv X pins σ H s->t σ H Q->wpAny (model X.prog X.w) X.A (spliced (backTo pos (starEach es X.env))) (AP X pins σ Q) X.xe s
def PS (X:Cx) (st:Stmt) (t:TS):Prop:=∀(pins:List (Addr×Obj)) (s:Shared) (σ:St) (H:Hp) (D:Ends),Inv X pins σ H s->t D σ H->wpAny (model X.prog X.w) X.A (exec st X.env) (SP X pins D) X.xe s
def PSs (X:Cx) (st:List Stmt) (t:TS):Prop:=∀(pins:List (Addr×Obj)) (s:Shared) (σ:St) (H:Hp) (D:Ends),Inv X pins σ H s->t D σ H->wpAny (model X.prog X.w) X.A (execs st X.env) (SP X pins D) X.xe s
theorem bM {b:Type} {t:Sem b} {Q c:b->Shared->Prop} {s:Shared} (h:wpAny M A t Q E s) (d:∀a s,Q a s->c a s):wpAny M A t c E s:=Ď h d λ_ _ x=>x
section
variable{X:Cx}
def aa (i:Nat):TE:=λσ H Q=>∃v,σ[i]?=!(!v)/\Q v H
def tC (v:V):TE:=λ_ H Q=>Q v H
theorem M9 (n:X.N[i]?=!x) (j:Wr X.env.scope x) (d:(x==("__debug__":Str))=false:=by decide) (b:(x==("__classdict__":Str))=false:=by decide):PE X (.Name x pos) (aa i):=by
 intro a s f H Q I h;let#[v,e,h]:=h;let#[m,k,g]:=I.loc;let#[u,r,l]:=g i x v n e j;have fin:EP X a f Q u s:=#[v,H,I,r,h];rcases l with⟨hk,hm⟩|⟨hk,c,hc,hcell⟩;.show wpAny_Name (wpAny_loadName_local I.ok.kind hk k hm fin) d
 .rcases hk with hk|hk;.show wpAny_Name (wpAny_loadName_cell I.ok.kind hk hc hcell fin) d
  .show wpAny_Name (wpAny_loadName_free I.ok.kind hk hc hcell fin b) d
theorem aq {i j pos}:PE X (.Constant (.int i) j pos) (tC (.int i)):=λ_ _ _ H _ I h=>wpAny_Constant_int #[.int i,H,I.tok _,#[_,rfl],h]
theorem iI {b j pos}:PE X (.Constant (.bool b) j pos) (tC (.bl b)):=λ_ _ _ H _ I h=>Constant_bool #[.bl b,H,I,rfl,h]
theorem bK {j pos}:PE X (.Constant .none j pos) (tC .non):=λ_ _ _ H _ I h=>Constant_none #[.non,H,I,rfl,h]
theorem uM {x j pos}:PE X (.Constant (.str x) j pos) (tC (.str x)):=λ_ _ _ H _ I h=>Calls.Constant_str #[.str x,H,I.tok _,#[_,rfl],h]
def Gl (X:Cx) (x:Str):Prop:=X.env.kindOf x=!.globalImplicit
theorem Ib {s:Shared} (I:Inv X pins σ H s) (c:Gl X x) (a:X.mg x=!u) (h:Q u s)(b:(x==("__debug__":Str))=false:=by decide):wpAny (model X.prog X.w) X.A (eval (.Name x pos) X.env) Q E s:=Calls.Name_function_global I.ok.kind c (Calls.loadGlobal_global (by rw[I.ok.glob];show I.mod.glob.keeps I.bk) a h) b
theorem km {s:Shared} (I:Inv X pins σ H s) (a:Gl X x) (e:X.mg x=none) (c:bootBuiltins x=!u) (h:Q u s)(d:x≠"__name__":=by decide) (g:(x==("__debug__":Str))=false:=by decide):wpAny (model X.prog X.w) X.A (eval (.Name x pos) X.env) Q E s:=by let#[i,f,b]:=I.mod.blt;show Calls.Name_function_global I.ok.kind a (Calls.loadGlobal_builtin (by rw[I.ok.glob];show I.mod.glob.keeps I.bk) e (by rw[I.ok.blt];show f.keeps I.bk) ((b x d).trans c) h) g
theorem fK (d:Gl X x) (c:X.mg x=none) (a:bootBuiltins x=!u) (r:RelV v u) (b:x≠"__name__":=by decide) (e:(x==("__debug__":Str))=false:=by decide):PE X (.Name x pos) (tC v):=λ_ _ _ H _ I h=>km I d c a #[v,H,I,r,h] b e
variable{a b:Expr} {ta tb:TE} {pos:Pos}
def PC (X:Cx) (op:CmpOp) (a b:Expr) (t:TE):Prop:=∀(pins:List (Addr×Obj)) (s:Shared) (σ:St) (H:Hp) (Q:VK),Inv X pins σ H s->t σ H Q->wpAny (model X.prog X.w) X.A (eval a X.env) (λv s₁=>wpAny (model X.prog X.w) X.A (eval b X.env) (λu s₂=>wpAny (model X.prog X.w) X.A (compareOp op v u) (EP X pins σ Q) X.xe s₂) X.xe s₁) X.xe s
def tB (t:TE):TT:=λσ H Q=>t σ H λx H1=>∃c,x=.bl c/\Q c H1
theorem eY (h:PC X op a b t) (f:behindInMarks op b=false:=by first|show nobehind _ (by decide) (by decide)|rfl):PT X (.Compare a [op] [b] pos) (tB t):=by
 intro e s i H Q I j;show wpAny_isTrue_Compare1 (bM (h e s i H _ I j) λv p f=>bM f λu o m=>bM m λc n ⟨x,H1,k,l,g⟩=>?_) f;let#[d,rfl,q]:=g;cases l;show Č #[H1,k,q]
variable{tA tB':TT} {rest:List Expr}
def jH (t u:TT):TT:=λσ H Q=>t σ H λc H1=>if c=true then u σ H1 Q else Q false H1
def uH (t u:TT):TT:=λσ H Q=>t σ H λc H1=>if c=true then Q true H1 else u σ H1 Q
def jJ (t:TT):TT:=λσ H Q=>t σ H λc H1=>Q (not c) H1
theorem fL (d:PT X a tA):PW X (.BoolOp .And [a] pos) tA:=by intro g b s f H Q I h;show isTrue_and (bM (d b s f H Q I h) λc i e=>?_);cases c with
 |true=>show isTrue_and_nil e|false=>show e
theorem gY (d:PT X a tA):PW X (.BoolOp .Or [a] pos) tA:=by intro g b s f H Q I h;show isTrue_or (bM (d b s f H Q I h) λc i e=>?_);cases c with
 |false=>show isTrue_or_nil e|true=>show e
theorem gF (l:PT X a tA) (k:PW X (.BoolOp .And (b::rest) pos) tB'):PW X (.BoolOp .And (a::b::rest) pos) (jH tA tB'):=by intro i d s f H Q I h;show isTrue_and (bM (l d s f H _ I h) λc j ⟨H1,g,e⟩=>?_);cases c with
 |true=>show k i d j f H1 Q g e|false=>show#[H1,g,e]
theorem gr (l:PT X a tA) (k:PW X (.BoolOp .Or (b::rest) pos) tB'):PW X (.BoolOp .Or (a::b::rest) pos) (uH tA tB'):=by intro i d s f H Q I h;show isTrue_or (bM (l d s f H _ I h) λc j ⟨H1,g,e⟩=>?_);cases c with
 |true=>show#[H1,g,e]|false=>show k i d j f H1 Q g e
theorem eZ (d:PT X a tA):PT X (.UnaryOp .Not a pos) (jJ tA):=by intro b s e H Q I h;show isTrue_not (d b s e H (λc H1=>Q (not c) H1) I h)
def iU (ta tb:TE):TE:=λσ H Q=>ta σ H λx H1=>∃c,x=.bl c/\if c=true then tb σ H1 Q else Q (.bl false) H1
def YH (ta tb:TE):TE:=λσ H Q=>ta σ H λx H1=>∃c,x=.bl c/\if c=true then Q (.bl true) H1 else tb σ H1 Q
def Al (ta:TE):TE:=λσ H Q=>ta σ H λx H1=>∃c,x=.bl c/\Q (.bl (not c)) H1
theorem jz {op} (h:PE X a t):PE X (.BoolOp op [a] pos) t:=λb s c H Q I d=>BoolOp_one (h b s c H Q I d)
theorem iV (k:PE X a ta) (j:PE X (.BoolOp .And (b::rest) pos) tb):PE X (.BoolOp .And (a::b::rest) pos) (iU ta tb):=by
 intro d s f H Q I h;show BoolOp_and (bM (k d s f H _ I h) λv i ⟨x,H1,g,l,e⟩=>?_);let#[c,rfl,e]:=e;cases l;show Č ?_;cases c with
 |true=>show j d i f H1 Q g e|false=>show#[.bl false,H1,g,rfl,e]
theorem Ma (e:PE X a ta):PE X (.UnaryOp .Not a pos) (Al ta):=by
 intro b s f H Q I h;show UnaryOp_ (bM (e b s f H _ I h) λv j ⟨x,H1,g,i,d⟩=>?_);let#[c,rfl,d]:=d;cases i;show not_of (Č #[.bl (not c),H1,g,rfl,d])
def WX (t:TT) (ta tb:TE):TE:=λσ H Q=>t σ H λc H1=>if c=true then ta σ H1 Q else tb σ H1 Q
theorem Am (l:PT X c tA) (m:PE X a ta) (k:PE X b tb):PE X (.IfExp c a b pos) (WX tA ta tb):=by intro e s f H Q I h;show wpAny_IfExp (bM (l e s f H _ I h) λd g ⟨H1,i,j⟩=>?_);cases d with
 |true=>show m e g f H1 Q i j|false=>show k e g f H1 Q i j
end
def SqL (K:W.Frag) (H:Hp) (a:Addr) (xs:List V):Prop:=Rd H a (.lst xs)\/∃(o:Obj) (its:Array Value) (n:Nat),K.lookup a=!o/\o.cls=.type "list"/\o.dict=none/\o.data=.seq its n/\its.size<=sizeLine/\Vals xs its.toList
def SqT (K:W.Frag) (H:Hp) (a:Addr) (xs:List V):Prop:=Rd H a (.tup xs)\/∃(o:Obj) (its:Array Value) (n:Nat),K.lookup a=!o/\o.cls=.type "tuple"/\o.data=.seq its n/\its.size<=sizeLine/\Vals xs its.toList
noncomputable def WY:Value->Option V
 |.none=>!.non|.bool b=>!(.bl b)|.int i _=>!(.int i)|.str x _=>!(.str x)|.bytes b _=>!(.byt b)|.float b _=>!(.flt b)|.ref a=>!(.ref a)|.type n=>!(.ty n)|_=>none
theorem RelV.abs {x:V} (r:RelV x u):WY u=!x:=by
 cases x with
 |non=>cases r;rfl|bl _=>cases r;rfl|int _=>let#[t,rfl]:=r;rfl|str _=>let#[t,rfl]:=r;rfl|byt _=>let#[t,rfl]:=r;rfl|flt _=>let#[t,rfl]:=r;rfl|ref _=>cases r;rfl|ty _=>cases r;rfl
theorem RelV.inj {x:V} (r:RelV x u) (q:RelV y u):x=y:=Ô (r.abs.symm.trans q.abs)
theorem Vals.inj:∀{xs ys:List V} {us:List Value},Vals xs us->Vals ys us->xs=ys
 |_,_,_,.nil,.nil=>rfl|_,_,_,.cons r t,.cons r' t'=>by rw[r.inj r',Vals.inj t t']
section
variable{X:Cx} {pins:List (Addr×Obj)} {σ:St} {H:Hp} {s:Shared} {a:Addr} {xs ys:List V}
theorem SqL.of {K:W.Frag} (h:H a=!(.lst xs)):SqL K H a xs:=.inl (.inl h)
theorem SqT.of {K:W.Frag} (h:H a=!(.tup xs)):SqT K H a xs:=.inl (.inl h)
theorem Inv.list (I:Inv X pins σ H s) (h:SqL X.K H a xs):∃its:List Value,Vals xs its/\PlainL s.heap a its.toArray/\xs.length<=sizeLine:=by
 rcases h with h|⟨o,its,n,hk,hc,hd,hs,hz,r⟩;.obtain ⟨z,its,n,r,e⟩:=h.ok I.hok;show#[its,r,#[_,n,e,rfl,rfl,rfl],z]
 .show #[its.toList,r,#[o,n,I.kIn a o hk,hc,hd,by simpa using hs],?_];have e:=r.length;simp only[ø]at e;rfl'
theorem Inv.tuple (I:Inv X pins σ H s) (h:SqT X.K H a xs):∃its:List Value,Vals xs its/\IsTup s.heap a its.toArray/\xs.length<=sizeLine:=by
 rcases h with h|⟨o,its,n,hk,hc,hs,hz,r⟩;.obtain ⟨z,its,r,p⟩:=h.ok I.hok;show#[its,r,p,z]
 .show #[its.toList,r,#[o,I.kIn a o hk,hc,n,by simpa using hs],?_];have e:=r.length;simp only[ø]at e;rfl'
theorem Inv.list_inj (I:Inv X pins σ H s) (h:SqL X.K H a xs) (h':SqL X.K H a ys):xs=ys:=by
 let#[b,r,#[o,n,e,_,_,d],_]:=I.list h;let#[its',f,#[i,g,c,_,_,d'],_]:=I.list h';rw[e]at c;cases c;rw[d]at d';injection d' with d1 _;have:b=its':=by simpa using ß Array.toList d1
 subst this;show r.inj f
theorem Inv.tuple_inj (I:Inv X pins σ H s) (h:SqT X.K H a xs) (h':SqT X.K H a ys):xs=ys:=by
 let#[b,r,#[o,e,_,n,d],_]:=I.tuple h;let#[its',f,#[i,c,_,g,d'],_]:=I.tuple h';rw[e]at c;cases c;rw[d]at d';injection d' with d1 _;have:b=its':=by simpa using ß Array.toList d1
 subst this;show r.inj f
end
abbrev Cx.wish (X:Cx) (E:Value->Shared->Prop):Cx:={X with xe:=E}
abbrev Cx.nox (X:Cx):Cx:=X.wish λ_ _=>False
theorem Cx.Ok.wish {X:Cx} (a:X.Ok) (E:Value->Shared->Prop):(X.wish E).Ok:=#[a.mod,a.kind,a.glob,a.blt,a.above,a.inj,a.has,a.cab,a.hd,a.frames,a.stk,a.exf,a.bs,a.bsz,a.noex,a.exfs,a.funs,a.frf]
theorem Cx.Ok.unwish {X:Cx} (a:(X.wish E).Ok):X.Ok:=#[a.mod,a.kind,a.glob,a.blt,a.above,a.inj,a.has,a.cab,a.hd,a.frames,a.stk,a.exf,a.bs,a.bsz,a.noex,a.exfs,a.funs,a.frf]
section
variable{X:Cx} {pins:List (Addr×Obj)} {σ:St} {H:Hp} {s:Shared} {E:Value->Shared->Prop}
theorem Inv.wish (I:Inv X pins σ H s) (E:Value->Shared->Prop):Inv (X.wish E) pins σ H s:=#[I.ok.wish E,I.os,I.bare,I.base,I.loc,I.cell,I.free,I.freeC,I.pin,I.hok,I.len]
theorem Inv.unwish (I:Inv (X.wish E) pins σ H s):Inv X pins σ H s:=#[I.ok.unwish,I.os,I.bare,I.base,I.loc,I.cell,I.free,I.freeC,I.pin,I.hok,I.len]
theorem SP.unwish {D:Ends} {f:Flow} (h:SP (X.wish E) pins D f s'):SP X pins D f s':=by cases f with|next=>let#[a,b,I,q]:=h;show#[a,b,I.unwish,q]|brk=>let#[a,b,I,q]:=h;show#[a,b,I.unwish,q]|cont=>let#[a,b,I,q]:=h;show#[a,b,I.unwish,q]|ret u=>let#[v,a,b,I,r,q]:=h;show#[v,a,b,I.unwish,r,q]
theorem PSs.nox {t:TS} (h:PSs X.nox st t):PSs X st t:=λa s b H D I c=>Ď (h a s b H D (I.wish _) c) (λ_ _ q=>q.unwish) λ_ _ z=>False.elim z
end
section
variable{X:Cx} {st:Stmt} {rest:List Stmt} {t u:TS} {e:Expr} {te:TE} {pos:Pos}
def bh:TS:=λD σ H=>D.nx σ H
def aF (t u:TS):TS:=λD σ H=>t {D with nx:=u D} σ H
theorem aV:PSs X [] bh:=λ_ _ a H _ I h=>θ #[a,H,I,h]
theorem rZ (g:PS X st t) (i:PSs X rest u):PSs X (st::rest) (aF t u):=by intro a s d H D I h;show wpAny_execs_cons (bM (g a s d H {D with nx:=u D} I h) λf c q=>?_);cases f with
 |next=>let#[b,e,j,q]:=q;show i a c b e D j q|ret v=>show q|brk=>show q|cont=>show q
theorem aG (c:PS X st t):PSs X [st] t:=by
 intro a s b H D I h;show wpAny_execs_cons (bM (c a s b H D I h) λf d q=>?_)
 cases f with|next=>show θ q|ret v=>show q|brk=>show q|cont=>show q
def X3:TS:=λD σ H=>D.bk σ H
def Y9:TS:=λD σ H=>D.ct σ H
theorem Inv.quiet {s:Shared} (I:Inv X pins σ H s):interactive X.env=false:=by simp[interactive,I.ok.kind]
def du (te:TE):TS:=λD σ H=>te σ H λ_ H1=>D.nx σ H1
theorem bO (g:PE X e te) (c:swapsWith e none pos.line X.env=pure false:=by rfl):PS X (.Expr e pos) (du te):=by intro a s b H D I h;show wpAny_Expr_any (bM (g a s b H _ I h) λv i ⟨x,H1,f,j,d⟩=>#[b,H1,f,d]) I.quiet c
def b7 (te:TE):TS:=λD σ H=>te σ H D.rt
theorem aL (f:PE X e te):PS X (.Return (!e) pos) (b7 te):=by intro a s b H D I h;show wpAny_Return_some (bM (f a s b H _ I h) λv i ⟨x,H1,d,g,c⟩=>#[x,b,H1,d,g,c])
def Yb:TS:=λD _ H=>D.rt .non H
def bW (c:TT) (t u:TS):TS:=λD σ H=>c σ H λb H1=>if b=true then t D σ H1 else u D σ H1
theorem bj {a b:List Stmt} (m:PT X c tc) (l:PSs X a t) (k:PSs X b u):PS X (.If c a b pos) (bW tc t u):=by intro e s f H D I h;show wpAny_If (bM (m e s f H _ I h) λd i ⟨H1,j,g⟩=>?_);cases d with
 |true=>show l e i f H1 D j g|false=>show k e i f H1 D j g
def Ao:TS:=λ_ _ _=>False
theorem Aq:PS X st Ao:=λ_ _ _ _ _ _ h=>h.elim
end
abbrev TG:=V->St->Hp->(St->Hp->Prop)->Prop
abbrev HR:=List V->St->Hp->(St->Hp->Prop)->Prop
def PG (X:Cx) (target:Expr) (t:TG):Prop:=∀(pins:List (Addr×Obj)) (s:Shared) (σ:St) (H:Hp) (v:V) (u:Value) (Q:St->Hp->Prop),Inv X pins σ H s->RelV v u->t v σ H Q->wpAny (model X.prog X.w) X.A (assign target X.env u) (λ_ s'=>∃σ' H',Inv X pins σ' H' s'/\Q σ' H') X.xe s
def SQ (X:Cx) (ts:List Expr) (t:HR):Prop:=∀(pins:List (Addr×Obj)) (s:Shared) (σ:St) (H:Hp) (vs:List V) (us:List Value) (Q:St->Hp->Prop),Inv X pins σ H s->Vals vs us->t vs σ H Q->wpAny (model X.prog X.w) X.A (assignInOrder ((assignEach ts X.env).map (·.2)) us) (λ_ s'=>∃σ' H',Inv X pins σ' H' s'/\Q σ' H') X.xe s
abbrev SX:=V->V->V->Hp->(Hp->Prop)->Prop
abbrev Mf:=V->V->Hp->VK->Prop
def Yc (X:Cx) (op:Operator) (t:Mf):Prop:=∀(pins:List (Addr×Obj)) (s:Shared) (σ:St) (H:Hp) (x y:V) (v u:Value) (Q:VK),Inv X pins σ H s->RelV x v->RelV y u->t x y H Q->wpAny (model X.prog X.w) X.A (inplaceOp op v u) (EP X pins σ Q) X.xe s
section
variable{X:Cx} {pos:Pos}
def au (i:Nat):TG:=λv σ H Q=>Q (σ.set i !v) H
theorem qj (c:X.N.Nodup) (hi:X.N[i]?=!x) (d:Loc X.env.scope x) (e:X.fn x=true\/X.env.scope.names.lookup x=!.local:=by first|show .inl rfl|show .inr rfl|assumption):PG X (.Name x pos) (au i):=by intro a s f H v u Q I r h;show wpAny_assign_Name (mC I c hi d r (λs' b=>#[_,H,b,h]) e)
def iQ:HR:=λvs σ H Q=>vs=[]/\Q σ H
def bC (t:TG) (u:HR):HR:=λvs σ H Q=>∃v r,vs=v::r/\t v σ H λσ' H'=>u r σ' H' Q
theorem cG:SQ X [] iQ:=by
 intro a s b H vs us Q I r h;let#[e,h]:=h;subst e;cases r;show assignInOrder_nil #[b,H,I,h]
theorem aU {t:TG} {u:HR} (g:PG X e t) (i:SQ X es u)
  (j:(assignEach (e::es) X.env).map (·.2)=assign e X.env::(assignEach es X.env).map (·.2):=by rfl):SQ X (e::es) (bC t u):=by
 intro a s d H vs us Q I r h;let#[v,m,f,h]:=h;subst f;cases r with|cons r rr=>rw[j];show assignInOrder_cons (bM (g a s d H _ _ _ I r h) λ_ k ⟨b,H1,l,c⟩=>?_);show i a k b H1 _ _ Q l rr c
def gZ (K:W.Frag) (n:Nat) (t:HR):TG:=λv σ H Q=>∃a xs,v=.ref a/\SqT K H a xs/\xs.length=n/\t xs σ H Q
theorem Mi {t:HR} (w:X.calm=true) (h:SQ X es t)(i:(assignEach es X.env).length=n:=by rfl) (f:(assignEach es X.env).findIdx? (·.1)=none:=by rfl):PG X (.Tuple es k pos) (gZ X.K n t):=by
 intro c s g H v u Q I r d;let#[a,xs,l,j,m,d]:=d;subst l;cases r;let#[p,rv,q,hz]:=I.tuple j;show assign_Tuple_tuple (I.ok.hd w) q (by simp[i,<-m,rv.length]) f λh' x=>?_;have y:Inv X c g H {s with heap:=h'}:=I.kept (t':=s.toks) λb o e=>x b o (ã (Ç e)) e;show h c _ g H xs _ Q y (by simpa using rv) d
def YJ (to ti:TE) (t:SX):TG:=λv σ H Q=>to σ H λo H1=>ti σ H1 λi H2=>t o i v H2 λH3=>Q σ H3
def aP (te:TE) (g:TG):TS:=λD σ H=>te σ H λx H1=>g x σ H1 D.nx
theorem Mj {g:TG} (m:PE X e te) (i:PG X tg g) (j:swapsWithSole [tg] e pos.line X.env=pure false:=by rfl) (d:swappedStores [tg] e X.env=pure none:=by rfl)(f:(assignEach [tg] X.env).map (·.2)=[assign tg X.env]:=by rfl):PS X (.Assign [tg] e pos) (aP te g):=by intro a s b H D I h;show wpAny_Assign_stores (bM (m a s b H _ I h) λv k ⟨x,H1,l,n,c⟩=>?_) j d;rw[f];show bM (i a k b H1 x v _ l n c) λ_ o q=>q
theorem kE (d:X.N.Nodup) (hi:X.N[i]?=!x) (l:Loc X.env.scope x) (m:PE X e te) (j:swapsWith e (!(.Name x pos')) pos.line X.env=pure false:=by rfl) (g:X.fn x=true\/X.env.scope.names.lookup x=!.local:=by first|show .inl rfl|show .inr rfl|assumption):PS X (.Assign [.Name x pos'] e pos) (aP te (au i)):=by intro a s f H D I h;show wpAny_Assign_Name (bM (m a s f H _ I h) λv o ⟨y,H1,k,n,c⟩=>?_) j;show mC k d hi l n (λp b=>#[_,H1,b,c]) g
def Mp (i:Nat) (te:TE) (ti:Mf):TS:=λD σ H=>∃x,σ[i]?=!(!x)/\te σ H λy H1=>ti x y H1 λz H2=>D.nx (σ.set i !z) H2
theorem Mq {op:Operator} {n:Mf} (F:X.N.Nodup) (hi:X.N[i]?=!x) (g:Loc X.env.scope x) (O:PE X e te) (M:Yc X op n) (J:X.fn x=true\/X.env.scope.names.lookup x=!.local:=by first|show .inl rfl|show .inr rfl|assumption):PS X (.AugAssign (.Name x pos') op e pos) (Mp i te n):=by
 intro a s j H D I h;let#[v,G,h]:=h;let#[m,E,q]:=I.loc;have f:Wr X.env.scope x:=by rcases g with k|k;show .inl k;show .inr (.inl k)
 let#[u,r,l]:=q i x v hi G f;show wpAny_AugAssign_Name ?_;have go:wpAny (model X.prog X.w) X.A (eval e X.env) (λw b=>wpAny (model X.prog X.w) X.A (inplaceOp op u w) (λr d=>wpAny (model X.prog X.w) X.A (storeName X.env x r) (λ_=>SP X a D .next) X.xe d) X.xe b) X.xe s:=by show bM (O a s j H _ I h) λw L ⟨y,H1,t,P,o⟩=>?_;show bM (M a L j H1 v y u w _ t r P o) λz R ⟨S,H2,C,p,B⟩=>?_;show mC C F hi g p (λQ K=>#[_,H2,K,B]) J
 rcases l with⟨hk,hm⟩|⟨hk,c,hc,hcell⟩;.show wpAny_loadName_local I.ok.kind hk E hm go
 .rcases hk with hk|hk;.show wpAny_loadName_cell I.ok.kind hk hc hcell go
  .rcases g with k|k;.have:X.env.scope.names.lookup x=!.free:=hk;rw[k]at this;cases this
   .have:X.env.scope.names.lookup x=!.free:=hk;rw[k]at this;cases this
def Yd (to ti te:TE) (tget:V->V->Hp->VK->Prop) (tip:Mf) (tset:SX):TS:=λD σ H=>to σ H λo H1=>ti σ H1 λi H2=>tget o i H2 λx H3=>te σ H3 λy H4=>tip x y H4 λz H5=>tset o i z H5 λH6=>D.nx σ H6
def X4 (f:Int->Int->Int):Mf:=λx y H Q=>∃i j,x=.int i/\y=.int j/\Q (.int (f i j)) H
theorem Mr:Yc X .Add (X4 λi j=>i+j):=by intro a s f H x y v u Q I e b h;let#[i,j,d,c,q]:=h;subst d;subst c;let#[t,rfl]:=e;let#[t',rfl]:=b;show iadd_int #[.int _,H,I.tok _,#[_,rfl],q]
end
section
variable{X:Cx} {pos:Pos}
def fc (c:TT) (tb:TS):TS:=λD σ H=>∃W:Nat->St->Hp->Prop,(∃m,W m σ H)/\∀m σ H,W m σ H->c σ H λb H1=>if b=true then ∃N:St->Hp->Prop,(∀σ' H',N σ' H'->∃m',m'<m/\W m' σ' H')/\tb {D with nx:=N,ct:=N,bk:=D.nx} σ H1 else D.nx σ H1
theorem eQ (r:PassesOwn (model X.prog X.w) X.A X.env X.xe) (J:PT X c tc) (z:PSs X body tb):PS X (.While c body [] pos) (fc tc tb):=by intro a s B H D I h;let#[W,#[K,C],g]:=h;show wpAny_While (codeAny_whileLoop (λn s'=>∃i x,Inv X a i x s'/\W n i x) ?_ K #[B,H,I,C]);rintro n G ⟨e,H1,E,y⟩;show Ŋ r (bM (J a G e H1 _ E (g n e H1 y)) λb F ⟨H2,t,j⟩=>?_);cases b with
 |true=>
  let#[N,u,j]:=j;rw[if_pos rfl];show Ŋ r (bM (z a F e H2 _ t j) λf L k=>?_);cases f with|next=>let#[d,H3,p,o]:=k;let#[m,l,q]:=u d H3 o;show#[m,l,d,H3,p,q]|cont=>let#[d,H3,p,o]:=k;let#[m,l,q]:=u d H3 o;show#[m,l,d,H3,p,q]|brk=>show k|ret v=>show k
 |false=>rw[if_neg Ê];show θ #[e,H2,t,j]
end
structure It where
 go:Nat->Hp->Prop
 yld:Nat->Hp->V->Hp->Prop
 stop:Nat->Hp->Prop
def mD (X:Cx) (pins:List (Addr×Obj)) (H:Hp) (b:Addr):Prop:=
 H b=none/\b≠X.env.locals/\b∉X.fs/\(b∈X.ex\/X.s₀.heap.objs.size<=b)/\(∀x c,X.env.cells.lookup x=!c->c≠b)/\∀p∈X.pn++pins,p.1≠b
theorem Inv.fpOk {X:Cx} {d:Hp} {s:Shared} (I:Inv X pins σ H s) (a:s.heap.objs.size<=b) (f:d b=none):mD X pins d b:=by
 show#[f,ı (Ý I.lt a),I.nofs a,.inr (Û I.sz a),λx c e z=>?_,λp g z=>?_];.obtain ⟨v,q⟩:=I.cell x c e;show absurd (Ý q.lt (by rw[z];show a)) (ü _)
 .show absurd (Ý (Ç (I.pin p g).1) (by rw[z];show a)) (ü _)
structure Turn (P:Program) (w:World) (K:W.Frag) (tg:Expr) (J:It) (fp:List Addr) (it:Addr) (tn:Nat->Heap->Prop):Prop where
 mem:it∈fp
 obj:∀i h,tn i h->∀b∈fp,∃o,h.get? b=!o/\∀v,o.data≠.cell v
 keep:∀i h h',tn i h->(∀b∈fp,∀o,h.get? b=!o->h'.get? b=!o)->tn i h'
 item:∀(X:Cx),X.prog=P->X.w=w->X.K=K->X.calm=true->∀(i:Nat) (pins:List (Addr×Obj)) (s:Shared) (σ:St) (H:Hp) (E:Value->Shared->Prop),Inv X pins σ H s->(∀b∈fp,mD X pins H b)->tn i s.heap->J.go i H->
  wpAny (model P w) X.A (pyNext (.ref it)) (λr s1=>∃u,r=!u/\wpAny (model P w) X.A (letOwnedTupleGo tg (.ref it) u) (λ_ s2=>∃x H',Inv X pins σ H' s2/\RelV x u/\J.yld i H x H'/\tn (i+1) s2.heap/\∀b∈fp,H' b=none) E s1) E s
 done:∀(X:Cx),X.prog=P->X.w=w->X.K=K->X.calm=true->∀(i:Nat) (pins:List (Addr×Obj)) (s:Shared) (σ:St) (H:Hp) (E:Value->Shared->Prop),Inv X pins σ H s->(∀b∈fp,mD X pins H b)->tn i s.heap->J.stop i H->wpAny (model P w) X.A (pyNext (.ref it)) (λr s1=>r=none/\Inv X pins σ H s1) E s
 self:∀(A:Around) (i:Nat) (s:Shared) (Q:Value->Shared->Prop) (E:Value->Shared->Prop),tn i s.heap->Q (.ref it) s->wpAny (model P w) A (pyIter (.ref it)) Q E s
abbrev TI:=St->Hp->(It->Hp->Prop)->Prop
def PIE (X:Cx) (pins:List (Addr×Obj)) (σ:St) (tg:Expr) (R:It->Hp->Prop) (itv:Value) (s2:Shared):Prop:=∃(it:Addr) (fp:List Addr) (tn:Nat->Heap->Prop) (J:It) (H':Hp),itv=.ref it/\Inv X pins σ H' s2/\Turn X.prog X.w X.K tg J fp it tn/\tn 0 s2.heap/\(∀b∈fp,mD X pins H' b)/\R J H'
def PI (X:Cx) (tg iter:Expr) (wi:TI):Prop:=∀(pins:List (Addr×Obj)) (s:Shared) (σ:St) (H:Hp) (R:It->Hp->Prop),Inv X pins σ H s->wi σ H R->wpAny (model X.prog X.w) X.A (eval iter X.env) (λv s1=>wpAny (model X.prog X.w) X.A (pyIter v) (PIE X pins σ tg R) X.xe s1) X.xe s
theorem oX {s:Shared} {o:Obj} {n:String} {vs:Array Value} {Q:Unit->Shared->Prop} (d:s.heap.get? it=!o) (c:o.cls=.type n) (e:o.data=.fields vs)(b:["enumerate","zip","dict_itemiterator","dict_reverseitemiterator","odict_iterator","itertools.zip_longest","itertools.pairwise"].contains n=false) (a:Q Unit.unit s):wpAny M A (letOwnedTupleGo tg (.ref it) u) Q E s:=by
 unfold letOwnedTupleGo;cases tg <;> first
  |show Zy a| (cases u<;>first
    |show Zy a
    | (show Qr (wpAny_load d ?_);rw[c,e];change wpAny M A (if(["enumerate","zip","dict_itemiterator","dict_reverseitemiterator","odict_iterator","itertools.zip_longest","itertools.pairwise"].contains n&&vs[0]? ==!(rawInt _))=true then _ else _) Q E s;rw[if_neg (by intro h;rw[b,Bool.false_and]at h;cases h)];show Zy a))
noncomputable def Ie (K:W.Frag) (a:Addr):It:=#[λi H=>∃xs x,SqL K H a xs/\xs[i]?=!x,λi H x H'=>H'=H/\∀xs,SqL K H a xs->xs[i]?=!x,λi H=>∃xs,SqL K H a xs/\xs.length<=i]
noncomputable def RZ (K:W.Frag) (a:Addr):It:=#[λi H=>∃xs x,SqT K H a xs/\xs[i]?=!x,λi H x H'=>H'=H/\∀xs,SqT K H a xs->xs[i]?=!x,λi H=>∃xs,SqT K H a xs/\xs.length<=i]
noncomputable def yX (lo:Int) (n:Nat):It:=#[λi _=>i<n,λi H x H'=>H'=H/\x=.int (lo+i),λi _=>n<=i]
theorem yZ {P:Program} {K:W.Frag} (a j:Addr):Turn P w K tg (Ie K a) [j] j (λi h=>h.IsListIter j a i)where
 mem:=by simp
 obj:=λi h st b g=>by
  have e:b=j:=by simpa using g
  subst e;let#[o,e,c,d]:=st;show#[o,e,λv z=>by rw[d]at z;cases z]
 keep:=λi h h' st k=>st.at λo e=>k j (by simp) o e
 item:=by
  intro X t q D L i f s J H E I n st y;subst t q D;let#[xs,x,m,B]:=y;let#[F,rv,p,hz]:=I.list m;let#[u,S,N]:=rv.get B;let#[r,G,O,A,C,f5]:=n j (by simp);show wpAny_pyNext_list_item st p.isList (x:=u) (by simpa using S) λh' l sb=>?_;have M:Inv X f J H {s with heap:=h'}:=I.turned (t':=s.toks) (λb o g e=>(sb.2 b g).trans e) r G A C f5;let#[o,e,c,d]:=id l;show#[u,rfl,oX (s:={s with heap:=h'}) e c d (by decide) ⟨x,H,M,N,⟨rfl,λU Q=>by rw[I.list_inj Q m];show B⟩,l,λb g=>(n b g).1⟩]
 done:=by intro X t q D L i f s J H E I n st y;subst t q D;let#[xs,m,B]:=y;let#[F,rv,p,hz]:=I.list m;let#[r,G,O,A,C,f5]:=n j (by simp);have T:=rv.length;show wpAny_pyNext_list_end (I.ok.hd L) st p.isList (by simp;rfl') λh' R=>#[rfl,I.turned (t':=s.toks) (λb o g e=>R b o g e) r G A C f5]
 self:=λ_ _ _ _ _ st h=>wpAny_pyIter_listiter st h
theorem uN {P:Program} {K:W.Frag} (a j:Addr):Turn P w K tg (RZ K a) [j] j (λi h=>h.IsTupleIter j a i)where
 mem:=by simp
 obj:=λi h st b g=>by
  have e:b=j:=by simpa using g
  subst e;let#[o,e,c,d]:=st;show#[o,e,λv z=>by rw[d]at z;cases z]
 keep:=λi h h' st k=>st.at λo e=>k j (by simp) o e
 item:=by
  intro X y r F L i f s J H E I q st A;subst y r F;let#[xs,x,n,C]:=A;let#[l,rv,p,hz]:=I.tuple n;let#[u,S,N]:=rv.get C;let#[t,G,O,B,D,f5]:=q j (by simp);show wpAny_pyNext_tuple_item st (show s.heap.IsTuple a l.toArray from p) (x:=u) (by simpa using S) λh' m sb=>?_;have M:Inv X f J H {s with heap:=h'}:=I.turned (t':=s.toks) (λb o g e=>(sb.2 b g).trans e) t G B D f5;let#[o,e,c,d]:=id m;show#[u,rfl,oX (s:={s with heap:=h'}) e c d (by decide) ⟨x,H,M,N,⟨rfl,λU Q=>by rw[I.tuple_inj Q n];show C⟩,m,λb g=>(q b g).1⟩]
 done:=by intro X y r F L i f s J H E I q st A;subst y r F;let#[xs,n,C]:=A;let#[l,rv,p,hz]:=I.tuple n;let#[t,G,O,B,D,f5]:=q j (by simp);have T:=rv.length;show wpAny_pyNext_tuple_end (I.ok.hd L) st (show s.heap.IsTuple a l.toArray from p) (by simp;rfl') λh' R=>#[rfl,I.turned (t':=s.toks) (λb o g e=>R b o g e) t G B D f5]
 self:=λ_ _ _ _ _ st h=>wpAny_pyIter_tupleiter st h
theorem uO {P:Program} {K:W.Frag} (a:Addr) (lo:Int) (n:Nat):Turn P w K tg (yX lo n) [a] a (λi h=>IsRangeIter h a (lo+(i:Nat)*1) ((n:Int)-(i:Nat)) 1)where
 mem:=by simp
 obj:=λi h st b d=>by
  have e:b=a:=by simpa using d
  subst e;show⟨_,st,λv z=>by
   have C:Data.fields _=Data.cell v:=z;cases C⟩
 keep:=λi h h' st k=>k a (by simp) _ st
 item:=by
  intro X j m u x i c s A H E I g st l;subst j m u;let#[p,y,L,q,r,f5]:=g a (by simp);have W:=Walks.range (prog:=X.prog) (w:=X.w) (I.ok.hd x) a lo 1 n;show W.item i s _ _ l st λv h' B G f D=>?_;let#[t,rfl]:=G;have F:Inv X c A H {s with heap:=h',toks:=B}:=I.turned (λb o d e=>D b o (by simpa using d) e) p y q r f5;show⟨_,rfl,oX (s:={s with heap:=h',toks:=B}) (n:="range_iterator") f rfl rfl (by decide) ⟨.int (lo+i),H,F,⟨t,?_⟩,⟨rfl,rfl⟩,f,λb d=>(g b d).1⟩⟩;rw[Int.mul_one]
 done:=by
  intro X j m u x i c s A H E I g st l;subst j m u;let#[p,y,L,q,r,f5]:=g a (by simp);show wpAny_pyNext_range_end (I.ok.hd x) st (by have:n<=i:=l;rfl') λh' J=>#[rfl,I.turned (t':=s.toks) (λb o d e=>J b o d e) p y q r f5]
 self:=λ_ _ _ _ _ st h=>wpAny_pyIter_rangeiter st h
section
variable{X:Cx} {tg:Expr}
def cO (K:W.Frag) (tl:TE):TI:=λσ H R=>tl σ H λx H1=>∃a,x=.ref a/\(∃xs,SqL K H1 a xs)/\R (Ie K a) H1
def lJ (K:W.Frag) (tl:TE):TI:=λσ H R=>tl σ H λx H1=>∃a,x=.ref a/\(∃xs,SqT K H1 a xs)/\R (RZ K a) H1
theorem Ig {l:Expr} {g:TE} (m:PE X l g):PI X tg l (cO X.K g):=by
 intro c s k H R I h;show bM (m c s k H _ I h) λv f ⟨x,H1,d,t,i⟩=>?_;let#[a,e,#[xs,n],q]:=i;subst e;cases t;let#[r,rv,p,hz]:=d.list n;show wpAny_pyIter_list p.isList ?_;show#[f.heap.objs.size,[f.heap.objs.size],_,_,H1,rfl,d.kept (t':=f.toks) λb o e=>Yf _ e,yZ a _,#[_,Ë _ rfl,rfl,rfl],λb j=>?_,q];have e:b=f.heap.objs.size:=by simpa using j
 subst e;show d.fpOk (Ã _) (d.hok.fresh (Ã _))
theorem Ms {l:Expr} {i:TE} (n:PE X l i):PI X tg l (lJ X.K i):=by
 intro c s m H R I h;show bM (n c s m H _ I h) λv d ⟨x,H1,f,t,j⟩=>?_;let#[a,e,#[xs,r],q]:=j;subst e;cases t;let#[g,rv,p,hz]:=f.tuple r;show Ł (show d.heap.IsTuple a g.toArray from p) ?_;show#[d.heap.objs.size,[d.heap.objs.size],_,_,H1,rfl,f.kept (t':=d.toks) λb o e=>Yf _ e,uN a _,#[_,Ë _ rfl,rfl,rfl],λb k=>?_,q];have e:b=d.heap.objs.size:=by simpa using k
 subst e;show f.fpOk (Ã _) (f.hok.fresh (Ã _))
theorem Ar {s:Shared} {R:It->Hp->Prop} {hi:Int} {t u v:Tok} {a:Nat} (I:Inv X pins σ H s) (i:-(2^62)<=lo) (j:lo<2^62) (k:-(2^62)<=hi) (g:hi<2^62)(q:R (yX lo (hi-lo).toNat) H):wpAny (model X.prog X.w) X.A (pyIter (.ref s.heap.objs.size)) (PIE X pins σ tg R) E {s with heap:=s.heap.push {cls:=.type "range",data:=.fields ([.int lo t,.int hi u,.int 1 v].toArray)},toks:=a}:=by
 show wpAny_pyIter_range (IsRange.new ..) (small_one i j k g) ?_;have c:Inv X pins σ H {s with heap:=s.heap.push {cls:=.type "range",data:=.fields ([.int lo t,.int hi u,.int 1 v].toArray)},toks:=a}:=I.kept λb o e=>Yf _ e;show⟨(s.heap.push {cls:=.type "range",data:=.fields ([.int lo t,.int hi u,.int 1 v].toArray)}).objs.size,[(s.heap.push {cls:=.type "range",data:=.fields ([.int lo t,.int hi u,.int 1 v].toArray)}).objs.size],_,_,H,rfl,
  c.kept (t':=a) λb o e=>Yf _ e,uO _ lo (hi-lo).toNat,?_,λb d=>?_,q⟩
 .have h:lo+((0:Nat):Int)*1=lo:=by simp
  have f:(((hi-lo).toNat:Nat):Int)-((0:Nat):Int)=Builtin.Range.rangeSize lo hi 1:=by rw[rangeSize_one];split<;>rfl'
  change IsRangeIter _ _ (lo+((0:Nat):Int)*1) ((((hi-lo).toNat:Nat):Int)-((0:Nat):Int)) 1;rw[h,f];show Ë _ rfl
 .have e:b=(s.heap.push {cls:=.type "range",data:=.fields ([.int lo t,.int hi u,.int 1 v].toArray)}).objs.size:=by simpa using d
  subst e;show c.fpOk (Ã _) (c.hok.fresh (Ã _))
def iJ (ta:TA):TI:=λσ H R=>ta σ H λvs H1=>∃j:Int,vs=[.int j]/\-(2^62)<=j/\j<2^62/\R (yX 0 j.toNat) H1
def Ye (ta:TA):TI:=λσ H R=>ta σ H λvs H1=>∃i j:Int,vs=[.int i,.int j]/\(-(2^62)<=i/\i<2^62/\-(2^62)<=j/\j<2^62)/\R (yX i (j-i).toNat) H1
theorem cQ {a:Expr} {d:TA} {p:Pos} (k:Gl X "range") (i:X.mg "range"=none) (f:PA X [a] d) (l:starEach [a] X.env=[(false,eval a X.env)]:=by rfl):PI X tg (.Call (.Name "range" p) [a] [] pos) (iJ d):=by intro b s g H R I h;show Call_ (km I k i boot_range (Ļ (bM (f pos b s g H _ I h) λus u ⟨vs,H1,m,o,c⟩=>?_) l rfl));let#[j,e,c,n,q]:=c;subst e;cases o with|cons r rr=>cases rr;let#[t,rfl]:=r;show call_range_1 (Ar m () () c n (by simpa using q))
def d9 (wi:TI) (g:TG) (tb:TS):TS:=λD σ H=>wi σ H λJ H1=>∃W:Nat->Nat->St->Hp->Prop,(∃m,W 0 m σ H1)/\∀i m σ H,W i m σ H->(J.stop i H/\D.nx σ H)\/(J.go i H/\∃N:St->Hp->Prop,(∀σ' H',N σ' H'->∃m',m'<m/\W (i+1) m' σ' H')/\∀x H',J.yld i H x H'->g x σ H' λσ2 H2=>tb {D with nx:=N,ct:=N,bk:=D.nx} σ2 H2)
noncomputable def mF (fp:List Addr) (h:Heap):List (Addr×Obj):=fp.filterMap λb=>(h.get? b).map λo=>(b,o)
theorem ie {h:Heap} {o:Obj} (a:b∈fp) (e:h.get? b=!o):(b,o)∈mF fp h:=ý.mpr #[b,a,by rw[e];rfl]
theorem z6 {h:Heap} (a:p∈mF fp h):p.1∈fp/\h.get? p.1=!p.2:=by
 let#[b,c,e]:=ý.mp a;cases q:h.get? b with
 |none=>rw[q]at e;cases e|some o=>rw[q]at e;have d:(b,o)=p:=Ô e;subst d;show#[c,q]
theorem Inv.pinned {s:Shared} (I:Inv X pins σ H s) (j:∀b∈fp,mD X pins H b) (i:∀b∈fp,∃o,s.heap.get? b=!o/\∀v,o.data≠.cell v):Inv X (pins++mF fp s.heap) σ H s:=I.pins_of λp g=>(Â.mp g).elim (λz=>I.pin p (Ï _ z)) λz=>by let#[c,e]:=z6 z;let#[f,h,k,_]:=j p.1 c;let#[o,a,d]:=i p.1 c;rw[e]at a;cases a;show#[e,f,h,k,d]
theorem Inv.unpinned {pl:List (Addr×Obj)} {s:Shared} (I:Inv X (pins++pl) σ H s):Inv X pins σ H s:=I.pins_of λp a=>I.pin p (Ï _ (Ü _ a))
theorem Mt {p:Expr} {wi:TI} {g:TG} (K:PassesOwn (model X.prog X.w) X.A X.env X.xe) (hc:X.calm=true) (hi:PI X tg p wi) (hg:PG X tg g) (j:PSs X body tb)(hs:∀x,foldedSetIterable p X.env x=pure x:=by intro _;rfl):PS X (.For tg p body [] pos) (d9 wi g tb):=by
 intro c s Z H D I h;show wpAny_For (bM (hi c s Z H _ I h) λv s1 h1=>bM h1 λad s2 h2=>?_) hs;let#[it,L,tn,J,H2,e,I2,T,S,f2,W,#[m0,w0],M]:=h2;subst e;have t:∀{B:Hp},(∀b∈L,B b=none)->∀b∈L,mD X c B b:=λhn b j=>#[hn b j,(f2 b j).2];show codeAny_forLoop_any (λn s'=>∃i q B,Inv X c q B s'/\tn i s'.heap/\(∀b∈L,B b=none)/\W i n q B) ?_ m0 #[0,Z,H2,I2,S,λb j=>(f2 b j).1,w0];rintro n s3 ⟨i,z,H3,I3,O,G,w3⟩;rcases M i n z H3 w3 with⟨stop,qn⟩|⟨go,N,hN,step⟩;.show Ŋ K (bM (T.done X rfl rfl rfl hc i c s3 z H3 X.xe I3 (t G) O stop) λr s4 ⟨Q,I4⟩=>?_);subst Q;show θ #[z,H3,I4,qn]
 .show Ŋ K (bM (T.item X rfl rfl rfl hc i c s3 z H3 X.xe I3 (t G) O go) λr s4 ⟨u,Q,h4⟩=>?_);subst Q;show Ŋ K (bM h4 λ_ s5 ⟨x,H5,I5,r5,y5,E,Y⟩=>?_);have P:=I5.pinned (t Y) (T.obj _ _ E);show Ŋ K (bM (hg _ s5 z H5 x u _ P r5 (step x H5 y5)) λ_ s6 ⟨U,H6,I6,q6⟩=>?_);show Ŋ K (bM (j _ s6 U H6 _ I6 q6) λf R C=>?_);have k:∀{a:St} {l:Hp},Inv X (c++mF L s5.heap) a l R->N a l->∃m,m<n/\∃i q B,Inv X c q B R/\tn i R.heap/\(∀b∈L,B b=none)/\W i m q B:=λ{a l} y F=>by let#[m',hm,w7]:=hN a l F;show#[m',hm,i+1,a,l,y.unpinned,T.keep _ _ _ E λb j o e=>(y.pin (b,o) (Ï _ (Ï _ (ie j e)))).1,λb j=>?_,w7];let#[o,e,d]:=T.obj _ _ E b j;show(y.pin (b,o) (Ï _ (Ï _ (ie j e)))).2.1
  cases f with
  |next=>let#[a,l,y,F]:=C;show k y F|cont=>let#[a,l,y,F]:=C;show k y F|brk=>let#[a,l,y,C]:=C;show#[a,l,y.unpinned,C]|ret v=>let#[x7,a,l,y,r7,C]:=C;show#[x7,a,l,y.unpinned,r7,C]
end
theorem Av {K:W.Frag} {g:TG} {D:Ends} (b:Nat->St->Hp->Prop) (k:b 0 σ H) (f:∀i σ H,i<=xs.length->b i σ H->SqL K H a xs)(j:∀i x σ H,xs[i]?=!x->b i σ H->g x σ H λc H2=>tb {D with nx:=b (i+1),ct:=b (i+1),bk:=D.nx} c H2) (l:∀σ H,b xs.length σ H->D.nx σ H):∃W:Nat->Nat->St->Hp->Prop,(∃m,W 0 m σ H)/\∀i m σ H,W i m σ H->((Ie K a).stop i H/\D.nx σ H)\/((Ie K a).go i H/\∃N:St->Hp->Prop,(∀σ' H',N σ' H'->∃m',m'<m/\W (i+1) m' σ' H')/\∀x H',(Ie K a).yld i H x H'->g x σ H' λc H2=>tb {D with nx:=N,ct:=N,bk:=D.nx} c H2):=by
 show#[λi m σ H=>m=xs.length-i/\i<=xs.length/\b i σ H,#[xs.length,by simp,ñ _,k],?_];rintro i m σ H ⟨rfl,hi,p⟩;have q:=f i σ H hi p;by_cases d:i<xs.length;.show .inr #[#[xs,xs[i],q,by simp[d]],b (i+1),λσ' H' h=>#[xs.length-(i+1),(),rfl,d,h],λx H' y=>?_];let#[e,y]:=y;subst e;show j i x σ _ (y xs q) p
 .have e:i=xs.length:=();subst e;show .inl #[#[xs,q,Ã _],l σ H p]
theorem Ih {K:W.Frag} {g:TG} {D:Ends} (b:Nat->St->Hp->Prop) (k:b 0 σ H) (f:∀i σ H,i<=xs.length->b i σ H->SqT K H a xs)(j:∀i x σ H,xs[i]?=!x->b i σ H->g x σ H λc H2=>tb {D with nx:=b (i+1),ct:=b (i+1),bk:=D.nx} c H2) (l:∀σ H,b xs.length σ H->D.nx σ H):∃W:Nat->Nat->St->Hp->Prop,(∃m,W 0 m σ H)/\∀i m σ H,W i m σ H->((RZ K a).stop i H/\D.nx σ H)\/((RZ K a).go i H/\∃N:St->Hp->Prop,(∀σ' H',N σ' H'->∃m',m'<m/\W (i+1) m' σ' H')/\∀x H',(RZ K a).yld i H x H'->g x σ H' λc H2=>tb {D with nx:=N,ct:=N,bk:=D.nx} c H2):=by
 show#[λi m σ H=>m=xs.length-i/\i<=xs.length/\b i σ H,#[xs.length,by simp,ñ _,k],?_];rintro i m σ H ⟨rfl,hi,p⟩;have q:=f i σ H hi p;by_cases d:i<xs.length;.show .inr #[#[xs,xs[i],q,by simp[d]],b (i+1),λσ' H' h=>#[xs.length-(i+1),(),rfl,d,h],λx H' y=>?_];let#[e,y]:=y;subst e;show j i x σ _ (y xs q) p
 .have e:i=xs.length:=();subst e;show .inl #[#[xs,q,Ã _],l σ H p]
theorem z7 {g:TG} {D:Ends} (b:Nat->St->Hp->Prop) (d:b 0 σ H)(h:∀i σ H,i<n->b i σ H->g (.int (lo+i)) σ H λc H2=>tb {D with nx:=b (i+1),ct:=b (i+1),bk:=D.nx} c H2) (j:∀σ H,b n σ H->D.nx σ H):∃W:Nat->Nat->St->Hp->Prop,(∃m,W 0 m σ H)/\∀i m σ H,W i m σ H->((yX lo n).stop i H/\D.nx σ H)\/((yX lo n).go i H/\∃N:St->Hp->Prop,(∀σ' H',N σ' H'->∃m',m'<m/\W (i+1) m' σ' H')/\∀x H',(yX lo n).yld i H x H'->g x σ H' λc H2=>tb {D with nx:=N,ct:=N,bk:=D.nx} c H2):=by
 show#[λi m σ H=>m=n-i/\i<=n/\b i σ H,#[n,by simp,ñ _,d],?_];rintro i m σ H ⟨rfl,hi,p⟩;by_cases a:i<n;.show .inr #[a,b (i+1),λσ' H' f=>#[n-(i+1),(),rfl,a,f],λx H' y=>?_];let#[e,y]:=y;subst e y;show h i σ _ a p
 .have e:i=n:=();subst e;show .inl #[Nat.le_refl _,j σ H p]
theorem sr {c:TT} {D:Ends} (e:St->Hp->Prop) (a:St->Hp->Nat) (g:e σ H)(i:∀σ H,e σ H->c σ H λb H1=>if b=true then tb {D with nx:=λσ' H'=>e σ' H'/\a σ' H'<a σ H,ct:=λσ' H'=>e σ' H'/\a σ' H'<a σ H,bk:=D.nx} σ H1 else D.nx σ H1)(d:∀σ H Q f,(∀b H1,Q b H1->f b H1)->c σ H Q->c σ H f):fc c tb D σ H:=by
 show#[λm σ H=>m=a σ H/\e σ H,#[_,rfl,g],?_];rintro m σ H ⟨rfl,p⟩;show d σ H _ _ (λb H1 q=>?_) (i σ H p);cases b with|true=>show#[_,λσ' H' ⟨h,l⟩=>#[_,l,rfl,h],q]|false=>show q
abbrev R2:=V->V->Hp->VK->Prop
def gW (X:Cx) (f:Value->Value->Sem Value) (r:R2):Prop:=∀(pins:List (Addr×Obj)) (s:Shared) (σ:St) (H:Hp) (x y:V) (v u:Value) (Q:VK),Inv X pins σ H s->RelV x v->RelV y u->r x y H Q->wpAny (model X.prog X.w) X.A (f v u) (EP X pins σ Q) X.xe s
def bY (X:Cx) (f:Value) (r:List V->Hp->VK->Prop):Prop:=∀(pins:List (Addr×Obj)) (s:Shared) (σ:St) (H:Hp) (xs:List V) (us:List Value) (Q:VK),Inv X pins σ H s->Vals xs us->r xs H Q->wpAny (model X.prog X.w) X.A (call f us) (EP X pins σ Q) X.xe s
def X5 (X:Cx) (r:V->Hp->(Bool->Hp->Prop)->Prop):Prop:=∀(pins:List (Addr×Obj)) (s:Shared) (σ:St) (H:Hp) (x:V) (v:Value) (Q:Bool->Hp->Prop),Inv X pins σ H s->RelV x v->r x H Q->wpAny (model X.prog X.w) X.A (truthy v) (TP X pins σ Q) X.xe s
def aH (r:R2) (ta tb:TE):TE:=λσ H Q=>ta σ H λx H1=>tb σ H1 λy H2=>r x y H2 Q
def Z9 (r:V->Hp->VK->Prop) (ta:TE):TE:=λσ H Q=>ta σ H λx H1=>r x H1 Q
def rI (C:Int->Int->Prop) (g:Int->Int->V):R2:=λx y H Q=>∃i j,x=.int i/\y=.int j/\C i j/\Q (g i j) H
def rO (g:Int->Int->V):R2:=λx y H Q=>∃i j,x=.int i/\y=.int j/\Q (g i j) H
def rU (g:Int->V):V->Hp->VK->Prop:=λx H Q=>∃i,x=.int i/\Q (g i) H
section
variable{X:Cx} {a b c:Expr} {ta tb tc:TE} {pos:Pos}
theorem Mu (i:PE X a ta) (e:PE X b tb) {s:Shared} (I:Inv X pins σ H s)(h:ta σ H λx H1=>tb σ H1 λy H2=>R x y H2)(k:∀v u c x y H2,Inv X pins σ H2 c->RelV x v->RelV y u->R x y H2->wpAny (model X.prog X.w) X.A (f v u) Q X.xe c):wpAny (model X.prog X.w) X.A (eval a X.env) (λv s₁=>wpAny (model X.prog X.w) X.A (eval b X.env) (λu s₂=>wpAny (model X.prog X.w) X.A (f v u) Q X.xe s₂) X.xe s₁) X.xe s:=by
 show bM (i pins s σ H _ I h) λv l ⟨x,H1,m,o,g⟩=>?_;show bM (e pins l σ H1 _ m g) λu c ⟨y,H2,d,j,n⟩=>?_;show k v u c x y H2 d o j n
theorem aJ {op:Operator} {r:R2} (k:gW X (binaryOp op) r) (f:PE X a ta) (e:PE X b tb):PE X (.BinOp a op b pos) (aH r ta tb):=by intro c s g H Q I h;show wpAny_BinOp (Mu f e I h λv u l x y H2 d j i q=>k c l g H2 x y v u Q d j i q)
theorem Mv (a:∀(i j:Int) (t u:Tok) (s:Shared) (Q:Value->Shared->Prop) (E:Value->Shared->Prop),C i j->Q (.int (g i j) s.toks) {s with toks:=s.toks+1}->wpAny (model X.prog X.w) X.A (f (.int i t) (.int j u)) Q E s):gW X f (rI C λi j=>.int (g i j)):=by intro b s k H x y v u Q I c d h;let#[i,j,rfl,rfl,e,q]:=h;let#[t,rfl]:=c;let#[t',rfl]:=d;show a i j t t' s _ _ e #[.int (g i j),H,I.tok _,#[_,rfl],q]
theorem Ii (a:∀(i j:Int) (t u:Tok) (s:Shared) (Q:Value->Shared->Prop) (E:Value->Shared->Prop),Q (.int (g i j) s.toks) {s with toks:=s.toks+1}->wpAny (model X.prog X.w) X.A (f (.int i t) (.int j u)) Q E s):gW X f (rO λi j=>.int (g i j)):=by intro b s e H x y v u Q I c d h;let#[i,j,rfl,rfl,q]:=h;let#[t,rfl]:=c;let#[t',rfl]:=d;show a i j t t' s _ _ #[.int (g i j),H,I.tok _,#[_,rfl],q]
theorem Mw {g:Int->Int->Bool}(a:∀(i j:Int) (t u:Tok) (s:Shared) (Q:Value->Shared->Prop) (E:Value->Shared->Prop),Q (.bool (g i j)) s->wpAny (model X.prog X.w) X.A (f (.int i t) (.int j u)) Q E s):gW X f (rO λi j=>.bl (g i j)):=by intro b s e H x y v u Q I c d h;let#[i,j,rfl,rfl,q]:=h;let#[t,rfl]:=c;let#[t',rfl]:=d;show a i j t t' s _ _ #[.bl (g i j),H,I,rfl,q]
def T5 (i j:Int):Prop:=0<j/\j<1073741824
def Ij (i j:Int):Prop:=0<=j/\j<=1000000/\i.natAbs<2^64
def CMul (i j:Int):Prop:=(-(2^64)<i/\i<2^64)\/(-(2^64)<j/\j<2^64)
theorem CMul.ok {i j:Int} (h:CMul i j):IntMulOk i j:=by
 rcases h with⟨h1,h2⟩|⟨h1,h2⟩;.show .of_left (intBits_le_64 h1 h2)
 .show .of_right (intBits_le_64 h1 h2)
theorem bB:gW X (binaryOp .Add) (rO λi j=>.int (i+j)):=Ii λ_ _ _ _ _ _ _ q=>add_int q
theorem ig:gW X (binaryOp .Sub) (rO λi j=>.int (i-j)):=Ii λ_ _ _ _ _ _ _ q=>sub_int q
theorem kI:gW X (binaryOp .Mult) (rI CMul λi j=>.int (i*j)):=Mv λ_ _ _ _ _ _ _ a q=>mul_int q a.ok
theorem bG:gW X (binaryOp .FloorDiv) (rI T5 λi j=>.int (i/j)):=Mv λi j _ _ _ _ _ a q=>by have b:(0:Int)<j:=a.1;have c:j<1073741824:=a.2;show floordiv_int () (by rw[Int.fdiv_eq_ediv_of_nonneg i ()];show q) (.inl (PyProof.noPylong_small ()))
theorem bH:gW X (binaryOp .Mod) (rI (λ_ j=>0<j) λi j=>.int (i%j)):=Mv λi j _ _ _ _ _ a q=>by have b:(0:Int)<j:=a;show mod_int' () (by rw[Int.fmod_eq_emod_of_nonneg i ()];show q)
theorem Aw:gW X (binaryOp .Pow) (rI Ij λi j=>.int (i^j.toNat)):=Mv λ_ _ _ _ _ _ _ a q=>pow_int_small a.1 a.2.1 a.2.2 q
theorem ql:gW X (binaryOp .LShift) (rI Ij λi j=>.int (i*2^j.toNat)):=Mv λ_ _ _ _ _ _ _ a q=>lshift_int_small a.1 a.2.1 a.2.2 q
theorem Mx:gW X (binaryOp .BitAnd) (rO λi j=>.int (Builtin.bitAnd i j)):=Ii λ_ _ _ _ _ _ _ q=>and_int q
theorem Ax:gW X (binaryOp .BitXor) (rO λi j=>.int (Builtin.bitXor i j)):=Ii λ_ _ _ _ _ _ _ q=>xor_int q
end
noncomputable def My:V->V->Bool|.non,.non=>true|.non,.int _=>true|.int _,.non=>true|.non,.bl _=>true|.bl _,.non=>true|.non,.str _=>true|.str _,.non=>true|.int _,.int _=>true|.bl _,.bl _=>true|.str _,.str _=>true|.byt _,.byt _=>true|.int _,.str _=>true|.str _,.int _=>true|.bl _,.str _=>true|.str _,.bl _=>true|_,_=>false
def oH:R2:=λx y H Q=>My x y=true/\Q (.bl (decide (x=y))) H
def Mz:R2:=λx y H Q=>My x y=true/\Q (.bl (not (decide (x=y)))) H
theorem xO {i j:Int}:decide (V.int i=V.int j)=(i==j):=by rw[ŵ];simp
theorem Ay {i j:Bool}:decide (V.bl i=V.bl j)=(i==j):=by rw[ŵ];simp
theorem xP {i j:Str}:decide (V.str i=V.str j)=(i==j):=by rw[ŵ];simp
theorem xQ {i j:Array UInt8}:decide (V.byt i=V.byt j)=(i.toList==j.toList):=by
 rw[ŵ];cases i;cases j;simp
section
variable{X:Cx} {a b c:Expr} {ta tb tc:TE} {pos:Pos}
theorem bf {s:Shared} {Q:VK} {k a:Bool} (I:Inv X pins σ H s) (q:Q (.bl k) H) (e:k=a):EP X pins σ Q (.bool a) s:=by subst e;show#[.bl k,H,I,rfl,q]
theorem eU:gW X (compareOp .Eq) oH:=by
 intro d s e H x y v u Q I c a h;let#[b,q]:=h;cases x with
 |non=>
  cases c;cases y with|non=>cases a;show PySem.EqNone.eq_none_none (bf I q (by simp))|bl j=>cases a;show PySem.EqNone.eq_none_bool (bf I q (by simp))|int j=>let#[t',rfl]:=a;show PySem.EqNone.eq_none_int (bf I q (by simp))|str j=>let#[t',rfl]:=a;show PySem.EqNone.eq_none_str (bf I q (by simp))|_=>show absurd (show false=true from b) Ê
 |bl i=>
  cases c;cases y with
  |non=>cases a;show PySem.EqNone.eq_bool_none (bf I q (by simp))|bl j=>cases a;show eq_bool (bf I q Ay)|str j=>let#[t',rfl]:=a;show PySem.EqMixed.eq_bool_str (bf I q (by simp))|_=>show absurd (show false=true from b) Ê
 |int i=>
  let#[t,rfl]:=c;cases y with
  |non=>cases a;show PySem.EqNone.eq_int_none (bf I q (by simp))|int j=>let#[t',rfl]:=a;show eq_int (bf I q xO)|str j=>let#[t',rfl]:=a;show PySem.EqMixed.eq_int_str (bf I q (by simp))|_=>show absurd (show false=true from b) Ê
 |str i=>
  let#[t,rfl]:=c;cases y with
  |non=>cases a;show PySem.EqNone.eq_str_none (bf I q (by simp))|bl j=>cases a;show PySem.EqMixed.eq_str_bool (bf I q (by simp))|int j=>let#[t',rfl]:=a;show PySem.EqMixed.eq_str_int (bf I q (by simp))|str j=>let#[t',rfl]:=a;show eq_str (bf I q xP)|_=>show absurd (show false=true from b) Ê
 |byt i=>let#[t,rfl]:=c;cases y with
  |byt j=>let#[t',rfl]:=a;show PySem.W.eq_bytes (bf I q xQ)|_=>show absurd (show false=true from b) Ê
 |_=>cases y<;>show absurd (show false=true from b) Ê
theorem su:gW X (compareOp .NotEq) Mz:=by
 intro d s e H x y v u Q I c a h;let#[b,q]:=h;cases x with
 |non=>
  cases c;cases y with|non=>cases a;show PySem.EqNone.ne_none_none (bf I q (by simp))|bl j=>cases a;show PySem.EqNone.ne_none_bool (bf I q (by simp))|int j=>let#[t',rfl]:=a;show PySem.EqNone.ne_none_int (bf I q (by simp))|str j=>let#[t',rfl]:=a;show PySem.EqNone.ne_none_str (bf I q (by simp))|_=>show absurd (show false=true from b) Ê
 |bl i=>
  cases c;cases y with
  |non=>cases a;show PySem.EqNone.ne_bool_none (bf I q (by simp))|bl j=>cases a;show ne_bool (bf I q (ß not Ay))|str j=>let#[t',rfl]:=a;show PySem.EqMixed.ne_bool_str (bf I q (by simp))|_=>show absurd (show false=true from b) Ê
 |int i=>
  let#[t,rfl]:=c;cases y with
  |non=>cases a;show PySem.EqNone.ne_int_none (bf I q (by simp))|int j=>let#[t',rfl]:=a;show ne_int (bf I q (ß not xO))|str j=>let#[t',rfl]:=a;show PySem.EqMixed.ne_int_str (bf I q (by simp))|_=>show absurd (show false=true from b) Ê
 |str i=>
  let#[t,rfl]:=c;cases y with
  |non=>cases a;show PySem.EqNone.ne_str_none (bf I q (by simp))|bl j=>cases a;show PySem.EqMixed.ne_str_bool (bf I q (by simp))|int j=>let#[t',rfl]:=a;show PySem.EqMixed.ne_str_int (bf I q (by simp))|str j=>let#[t',rfl]:=a;show ne_str (bf I q (ß not xP))|_=>show absurd (show false=true from b) Ê
 |byt i=>let#[t,rfl]:=c;cases y with
  |byt j=>let#[t',rfl]:=a;show PySem.W.ne_bytes (bf I q (ß not xQ))|_=>show absurd (show false=true from b) Ê
 |_=>cases y<;>show absurd (show false=true from b) Ê
theorem xR:gW X (compareOp .Lt) (rO λi j=>.bl (decide (i<j))):=Mw λ_ _ _ _ _ _ _ q=>lt_int q
theorem Az:gW X (compareOp .LtE) (rO λi j=>.bl (decide (i<=j))):=Mw λ_ _ _ _ _ _ _ q=>le_int q
theorem gK:gW X (compareOp .Gt) (rO λi j=>.bl (decide (j<i))):=Mw λ_ _ _ _ _ _ _ q=>gt_int q
theorem z8:gW X (compareOp .Lt) (λx y H Q=>∃i j,x=.str i/\y=.str j/\Q (.bl (decide (i.cps.toList<j.cps.toList))) H):=by intro a s d H x y v u Q I b c h;let#[i,j,rfl,rfl,q]:=h;let#[t,rfl]:=b;let#[t',rfl]:=c;show lt_str (bf I q rfl)
theorem fW:gW X (compareOp .Is) (λx y H Q=>y=.non/\Q (.bl (decide (x=.non))) H):=by
 intro b s d H x y v u Q I a c h;let#[rfl,q]:=h;cases c;show is_none_gen (bf I q ?_);cases x<;>first
  |(cases a;rfl)|(let#[t,rfl]:=a;rfl)
theorem xT:gW X (compareOp .IsNot) (λx y H Q=>y=.non/\Q (.bl (not (decide (x=.non)))) H):=by
 intro b s d H x y v u Q I a c h;let#[rfl,q]:=h;cases c;show isnot_none_gen (bf I q ?_);cases x<;>first
  |(cases a;rfl)|(let#[t,rfl]:=a;rfl)
theorem aQ (b:Expr) (h:op≠.In:=by decide) (d:op≠.NotIn:=by decide):behindInMarks op b=false:=by
 have c:(op==CmpOp.In)=false:=by cases op<;>first|rfl|show absurd rfl h
 have a:(op==CmpOp.NotIn)=false:=by cases op<;>first|rfl|show absurd rfl d
 cases b<;>simp[behindInMarks,c,a]
theorem cT {r:R2} (l:gW X (compareOp op) r) (f:PE X a ta) (e:PE X b tb) (i:behindInMarks op b=false):PE X (.Compare a [op] [b] pos) (aH r ta tb):=by intro c s g H Q I h;show wpAny_Compare1 (Mu f e I h λv u m x y H2 d k j q=>l c m g H2 x y v u Q d k j q) i
def aZ (t:TE):TT:=λσ H Q=>t σ H λx H'=>∃k,x=.bl k/\Q k H'
theorem aM {r:R2} (t:gW X (compareOp op) r) (m:PE X a ta) (j:PE X b tb) (n:behindInMarks op b=false):PT X (.Compare a [op] [b] pos) (aZ (aH r ta tb)):=by intro d s f H Q I h;show wpAny_isTrue_Compare1 (bM (m d s f H _ I h) λv q ⟨x,H1,w,D,l⟩=>bM (j d q f H1 _ w l) λu A ⟨y,H2,g,o,C⟩=>bM (t d A f H2 x y v u _ g D o C) λc E ⟨z,H3,p,i,k,e,B⟩=>?_) n;subst e;cases i;show Č #[H3,p,B]
def X6 (r r':R2) (ta tb tc:TE):TE:=λσ H Q=>ta σ H λx H1=>tb σ H1 λy H2=>r x y H2 λz H3=>∃k,z=.bl k/\(if k=true then tc σ H3 λw' H4=>r' y w' H4 Q else Q (.bl false) H3)
def Ba (K:W.Frag) (x:V) (H:Hp) (k:Bool):Prop:=
 match x with|.non=>k=false|.bl b=>k=b|.int i=>k=(i !=0)|.str y=>y.length<=sizeLine/\k=((y.length:Int)!=0)|.byt y=>y.size<=sizeLine/\k=((y.size:Int)!=0)|.ref p=>(∃xs,SqL K H p xs/\k=not xs.isEmpty)\/(∃xs,SqT K H p xs/\k=not xs.isEmpty)\/∃kvs,H p=!(.dK kvs)/\k=not kvs.isEmpty|_=>False
theorem uP {a:Type} {kvs:List (a×V)} {vs:List (a×Value)} (r:KV kvs vs):(not vs.isEmpty)=not kvs.isEmpty:=by cases r<;>rfl
theorem mG (r:Vals xs its):(not its.toArray.isEmpty)=not xs.isEmpty:=by cases r<;>simp
theorem mH:(sizeLine:Nat)<2^63:=by rw[ę];decide
theorem MF:X5 X (λx H Q=>∃k,Ba X.K x H k/\Q k H):=by
 intro g s n H x v Q I d h;let#[k,e,q]:=h;have o:=mH;have u:sizeLine=16777216:=ę;cases x with|non=>cases d;have a:k=false:=e;subst a;show truthy_none #[H,I,q]|bl b=>cases d;have a:k=b:=e;subst a;show Č #[H,I,q]|int i=>let#[t,rfl]:=d;have a:k=(i !=0):=e;subst a;show PySem.P.truthy_int #[H,I,q]|str y=>let#[t,rfl]:=d;let#[j,a]:y.length<=sizeLine/\k=((y.length:Int)!=0):=e;subst a;show PySem.P.truthy_str () #[H,I.tok _,q]|byt y=>let#[t,rfl]:=d;let#[j,a]:y.size<=sizeLine/\k=((y.size:Int)!=0):=e;subst a;show PySem.W.truthy_bytes () #[H,I.tok _,q]|ref p=>
  cases d;have a:(∃xs,SqL X.K H p xs/\k=not xs.isEmpty)\/(∃xs,SqT X.K H p xs/\k=not xs.isEmpty)\/∃kvs,H p=!(.dK kvs)/\k=not kvs.isEmpty:=e;rcases a with⟨xs,hx,a⟩|⟨xs,hx,a⟩|⟨kvs,hx,a⟩;.subst a;let#[f,r,pl,hz]:=I.list hx;have c:=r.length;show wpAny_truthy_list pl.isList (by simp only[Î];rfl') #[H,I.tok _,by rw[mG r];show q]
  .subst a;let#[f,r,pl,hz]:=I.tuple hx;have c:=r.length;show truthy_tuple pl (by simp only[Î];rfl') #[H,I.tok _,by rw[mG r];show q]
  .subst a;let#[hz,l,vs,r,m]:kvs.length<=sizeLine/\(p==sysModules)=false/\∃vs,KV kvs vs/\s.heap.DictOf (bN X.prog X.w) p vs:=I.hok p _ hx;have c:kvs.length=vs.length:=Ċ r;show wpAny_truthy_dict l m () #[H,I.tok _,by rw[uP r];show q]|_=>show(show False from e).elim
theorem Bb (e:PE X a ta) (i:∀b,isTrue a X.env b=(do let v<-b;standAt a.pos;holding [v] (truthy v))):PT X a (λσ H Q=>ta σ H λx H'=>∃k,Ba X.K x H' k/\Q k H'):=by intro c s σ H Q I h;show isTrue_plain (bM (e c s σ H _ I h) λv g ⟨x,H1,f,j,d⟩=>MF c g σ H1 x v Q f j d) (i _)
theorem fX:gW X (binaryOp .Add) (λx y H Q=>∃i j,x=.str i/\y=.str j/\i.length+j.length<=sizeLine/\Q (.str (i++j)) H):=by intro a s d H x y v u Q I b c h;let#[i,j,rfl,rfl,hz,q]:=h;let#[t,rfl]:=b;let#[t',rfl]:=c;show add_str (λt' e=>#[.str (i++j),H,I.tok _,#[_,rfl],q]) hz
theorem vals1 {x:V} (r:Vals [x] us):∃u,us=[u]/\RelV x u:=by cases r with|cons r1 r2=>cases r2;show#[_,rfl,r1]
theorem vals2 {x:V} (r:Vals [x,y] us):∃u a,us=[u,a]/\RelV x u/\RelV y a:=by cases r with|cons r1 r2=>cases r2 with|cons r3 r4=>cases r4;show#[_,_,rfl,r1,r3]
theorem gM (c:X.calm=true):bY X (.builtin "min") (λxs H Q=>∃i j,xs=[.int i,.int j]/\Q (.int (if j<i then j else i)) H):=by
 intro b s d H xs us Q I r h;let#[i,j,rfl,q]:=h;let#[u,f,rfl,#[t,rfl],#[t',rfl]]:=vals2 r;show min_two_ints (I.ok.hd c) λh' e k=>#[_,H,I.kept k,?_,q];by_cases a:j<i;.rw [if_pos a,if_pos a];show#[_,rfl]
 .rw [if_neg a,if_neg a];show#[_,rfl]
theorem z9:bY X (.type "int") (λxs H Q=>(∃i,xs=[.int i]/\Q (.int i) H)\/∃k,xs=[.bl k]/\Q (.int (if k then 1 else 0)) H):=by
 intro a s c H xs us Q I r h;rcases h with⟨i,rfl,q⟩|⟨k,rfl,q⟩;.obtain ⟨u,rfl,t,rfl⟩:=vals1 r;show call_int_int #[.int i,H,I,#[_,rfl],q]
 .obtain ⟨u,rfl,b⟩:=vals1 r;cases b;show call_int_bool #[.int (if k then 1 else 0),H,I.tok _,#[_,rfl],q]
def T6 (K:W.Frag) (x:V) (H:Hp) (n:Nat):Prop:=
 match x with
 |.str y=>y.length<=sizeLine/\n=y.length|.byt y=>y.size<=sizeLine/\n=y.size|.ref p=>(∃xs,SqL K H p xs/\n=xs.length)\/∃xs,SqT K H p xs/\n=xs.length|_=>False
theorem Bc:bY X (.builtin "len") (λxs H Q=>∃x n,xs=[x]/\T6 X.K x H n/\Q (.int n) H):=by
 intro g s j H xs us Q I r h;let#[x,n,rfl,e,q]:=h;let#[u,rfl,d]:=vals1 r;have k:=mH;have l:sizeLine=16777216:=ę;cases x with
 |str y=>let#[t,rfl]:=d;let#[i,b]:y.length<=sizeLine/\n=y.length:=e;subst b;show len_str () #[.int _,H,I.tok _,#[_,rfl],q]|byt y=>let#[t,rfl]:=d;let#[i,b]:y.size<=sizeLine/\n=y.size:=e;subst b;show PySem.W.len_bytes () #[.int _,H,I.tok _,#[_,rfl],q]|ref p=>
  cases d;have b:(∃xs,SqL X.K H p xs/\n=xs.length)\/∃xs,SqT X.K H p xs/\n=xs.length:=e;rcases b with⟨xs,hx,b⟩|⟨xs,hx,b⟩;.subst b;let#[f,c,pl,hz]:=I.list hx;have a:=c.length;show Calls.call_len_list pl.isList (by simp only[Î];rfl') #[.int xs.length,H,I.tok _,#[_,by simp only[Î];rw[a]],q]
  .subst b;let#[f,c,pl,hz]:=I.tuple hx;have a:=c.length;show len_tuple pl (by simp only[Î];rfl') #[.int xs.length,H,I.tok _,#[_,by simp only[Î];rw[a]],q]|_=>show(show False from e).elim
end
structure ObjM (h:Heap) (x dx C:Addr) (mA:Str->Option Value):Prop where
 obj:h.get? x=!(PySem.W.instObj C dx)ns:h.Ns1 dx mA
 ne:dx≠x
theorem zb {h:Heap} (n:h.Ns1 dx mA):∃od,h.get? dx=!od/\∀name,PySem.W.lookIn name od=!(mA name):=by
 let#[o,es,k,i,j,f,_,c]:=n;show#[o,i,λname=>?_];have e:=c name;unfold nsFind findBy at e;rw[<-Array.find?_toList]at e;unfold PySem.W.lookIn;rw[j];dsimp only;split;.rename_i y q;rw[q]at e;show ß some e
 .rename_i q;rw[q]at e;have a:es.toList.any (·.refKey)=false:=by
   rw[List.any_eq_false];intro y g;let#[z,t,b]:=f y (Array.mem_toList_iff.mp g);simp[DictEntry.refKey,b]
  have d:¬es.toList.any (·.refKey)=true:=by rw[a];show Ê
  rw[if_neg d];show ß some e
theorem ObjM.look {h:Heap} {x C:Addr} (I:ObjM h x dx C mA):∃od,PySem.W.InstAt h x (PySem.W.instObj C dx) C !od/\∀name,PySem.W.lookIn name od=!(mA name):=
 let⟨od,ho,hl⟩:=zb I.ns
 #[od,#[I.obj,rfl,rfl,ho],hl]
theorem RelO.some_of {o:Option Value} (r:RelO (!v) o):∃u,o=!u/\RelV v u:=by cases o with
 |none=>show(show False from r).elim|some u=>show#[u,rfl,r]
section
variable{P:Program} {w:World} {H H':Hp} {h h':Heap} {a C dx:Addr} {fs fs':List (Str×V)}
theorem Ik (b:HOk P w H h) (e:H a=!(.ins C dx fs)):∃mA,ObjM h a dx C mA/\(∀f,RelO (fs.lookup f) (mA f))/\PySem.Within mA (fs.map (·.1))/\fs.length<=1000/\H dx=!(.own a):=by let#[d,z,c,ob,mA,n,r,q]:=(show ObjOk P w H h a (.ins C dx fs)from b a _ e);show#[mA,#[ob,n,c],r,q,z,d]
end
structure Cls (K:W.Frag) (C:Addr):Prop where
 pg:PySem.W.plainGet K C Str.empty=true
 hd:PySem.W.hasDictIn K C=true
 po:PySem.W.plainOver K C=true
 sa:PySem.W.findIn K (.ref C) "__setattr__"=!(!(.builtin "object.__setattr__"))
theorem Cls.get {K:W.Frag} {C:Addr} (c:Cls K C) (f:Str):PySem.W.plainGet K C f=true:=c.pg
def MJ (K:W.Frag) (C:Addr) (f:Str):Prop:=PySem.W.findIn K (.ref C) f=!none
structure Con (K:W.Frag) (C:Addr) (f:Str) (v:V) (u:Value):Prop where
 at_:PySem.W.findIn K (.ref C) f=!(!u)rel:RelV v u
 get:PySem.W.specialIn K u "__get__"=!none
 cp:PySem.W.copiedNames.contains f=false
structure Meth (K:W.Frag) (C:Addr) (m:Str) (f:Addr):Prop where
 at_:PySem.W.findIn K (.ref C) m=!(!(.ref f))
 fn:PySem.W.isFn K (.ref f)=true
 kp:W.keepIn K (.ref f)=true
def YK (K:W.Frag) (ta:TE) (f:Str):TE:=λσ H Q=>ta σ H λx H1=>∃a C dx fs v,x=.ref a/\H1 a=!(.ins C dx fs)/\Cls K C/\MJ K C f/\fs.lookup f=!v/\Q v H1
section
variable{X:Cx} {pins:List (Addr×Obj)} {σ:St} {H:Hp} {s:Shared} {A:Around} {E:Value->Shared->Prop} {Q:Value->Shared->Prop} {c:Value} {b:Bool}
inductive TyOf (K:W.Frag) (H:Hp):V->Value->Prop where|non:TyOf K H .non (.type "NoneType")|bl (x:Bool):TyOf K H (.bl x) (.type "bool")|int (i:Int):TyOf K H (.int i) (.type "int")|str (x:Str):TyOf K H (.str x) (.type "str")|flt (x:UInt64):TyOf K H (.flt x) (.type "float")|lst {a:Addr} {xs:List V} (e:H a=!(.lst xs)):TyOf K H (.ref a) (.type "list")|frz {a:Addr} {o:Obj} {xs:List V} (e:H a=!(.frz o (.lst xs))):TyOf K H (.ref a) (.type "list")|tup {a:Addr} {xs:List V} (e:H a=!(.tup xs)):TyOf K H (.ref a) (.type "tuple")|dK {a:Addr} {kvs:List (Key×V)} (e:H a=!(.dK kvs)):TyOf K H (.ref a) (.type "dict")|dT {a:Addr} {kvs:List (List Key×V)} (e:H a=!(.dT kvs)):TyOf K H (.ref a) (.type "dict")|ins {a C dx:Addr} {fs:List (Str×V)} (e:H a=!(.ins C dx fs)) (cl:Cls K C) (ha:PySem.W.findIn K (.ref C) "__class__"=!(!(.builtin "object.__class__")))(hn:PySem.W.specialIn K (.builtin "object.__class__") "__get__"=!(!(.builtin "getset_descriptor.__get__"))) (htk:PySem.W.takesIn K (.builtin "object.__class__")=!true)(hm:PySem.W.mroIn K C (.type "object")=!true):TyOf K H (.ref a) (.ref C)
theorem zc {x:V} {t:Value} (I:Inv X pins σ H s) (d:RelV x u) (k:TyOf X.K H x t) (e:PySem.W.kitOne X.K t c=!b) (h:∀tk,Q (.bool b) {s with toks:=tk}):wpAny (model X.prog X.w) A (call (.builtin "isinstance") [u,c]) Q E s:=by cases k with
 |non=>cases(show u=Value.none from d);show ē PySem.W.kitx_none I.kIn True.intro e (λz=>nomatch z) h|bl y=>cases(show u=Value.bool y from d);show ē PySem.W.kitx_bool I.kIn True.intro e (λz=>nomatch z) h|int i=>let#[t,q]:=(show∃t,u=Value.int i t from d);cases q;show ē PySem.W.kitx_int I.kIn True.intro e (λz=>nomatch z) h|str y=>let#[t,q]:=(show∃t,u=Value.str y t from d);cases q;show ē PySem.W.kitx_str I.kIn True.intro e (λz=>nomatch z) h|flt y=>let#[t,q]:=(show∃t,u=Value.float y t from d);cases q;show ē PySem.W.kitx_float I.kIn True.intro e (λz=>nomatch z) h|@lst a xs ea=>cases(show u=Value.ref a from d);let#[_,_,n,_,f]:=(show ObjOk X.prog X.w H s.heap a (.lst xs)from I.hok a _ ea);show ē PySem.W.kitx_list I.kIn #[_,f,rfl] e (λz=>nomatch z) h|@frz a ob xs ea=>cases(show u=Value.ref a from d);let#[_,_,_,n,_,f]:=(show ObjOk X.prog X.w H s.heap a (.frz ob (.lst xs))from I.hok a _ ea);show ē PySem.W.kitx_list I.kIn #[_,f,rfl] e (λz=>nomatch z) h|@tup a xs ea=>cases(show u=Value.ref a from d);let#[_,_,_,p]:=(show ObjOk X.prog X.w H s.heap a (.tup xs)from I.hok a _ ea);let#[o,f,g,_]:=p;show ē PySem.W.kitx_tuple I.kIn #[o,f,g] e (λz=>nomatch z) h|@dK a kvs ea=>cases(show u=Value.ref a from d);let#[_,_,vs,_,p]:=(show ObjOk X.prog X.w H s.heap a (.dK kvs)from I.hok a _ ea);let#[o,es,j,f,g,_]:=p;show ē PySem.W.kitx_dict I.kIn #[o,f,g.1] e (λz=>nomatch z) h|@dT a kvs ea=>cases(show u=Value.ref a from d);let#[_,_,xs,_,o,es,j,f,g,_]:=(show ObjOk X.prog X.w H s.heap a (.dT kvs)from I.hok a _ ea);show ē PySem.W.kitx_dict I.kIn #[o,f,g.1] e (λz=>nomatch z) h|@ins a C dx fs ea cl ha hn htk hm=>cases(show u=Value.ref a from d);let#[l,O,_]:=Ik I.hok ea;let#[m,J,_]:=O.look;show ē (PySem.W.kitx_own (cl.get _) cl.hd ha hn htk hm) I.kIn J e (λz=>nomatch z) h
end
structure Room (k:Nat) (A:Around):Prop where
 hd:A.handled=none
 dp:A.depth+3*k+5<recursionLimit
 un:A.units+16*k+200<cLine
theorem Room.mono (r:Room k A) (h:j<=k):Room j A:=#[r.hd,by have:=r.dp;rfl',by have:=r.un;rfl']
theorem Room.deeper (r:Room (k+1) A) (env:Env):Room k (A.deeper env):=#[r.hd,by have:=r.dp;change A.depth+1+3*k+5<_;rfl',by have:=r.un;change A.units+3+16*k+200<_;rfl']
theorem Room.depth (r:Room k A):A.depth<recursionLimit:=by have:=r.dp;rfl'
theorem Room.units (r:Room k A):A.units+64<cLine:=by have:=r.un;rfl'
def aA:TA:=λ_ H Q=>Q [] H
def aj (ta:TE) (tr:TA):TA:=λσ H Q=>ta σ H λx H1=>tr σ H1 λxs H2=>Q (x::xs) H2
section
variable{X:Cx} {e:Expr} {es:List Expr} {te:TE} {t:TA} {pos:Pos}
theorem cY:PA X [] aA:=λ_ _ _ _ H Q I h=>ũ #[[],H,I,.nil,h]
theorem ik (f:PE X e te) (d:PA X es t) (i:starEach (e::es) X.env=(false,eval e X.env)::starEach es X.env:=by rfl):PA X (e::es) (aj te t):=by intro pos a s b H Q I h;rw[i];change wpAny _ _ (spliced ((false,eval e X.env)::backTo pos (starEach es X.env))) _ _ s;show į (bM (f a s b H _ I h) λu m ⟨x,H1,j,n,c⟩=>?_);show bM (d pos a m b H1 _ j c) λus o ⟨xs,H2,l,g,k⟩=>#[x::xs,H2,l,.cons n g,k]
def bZ (t:TA):TE:=λσ H Q=>t σ H λxs H1=>xs.length<=sizeLine/\∀p,H1 p=none->Q (.ref p) (upd H1 p (.tup xs))
def gG (t:TA):TE:=λσ H Q=>t σ H λxs H1=>xs.length<=sizeLine/\∀p,H1 p=none->Q (.ref p) (upd H1 p (.lst xs))
theorem aY {x1} (h:PA X es t):PE X (.Tuple es x1 pos) (bZ t):=by intro a s f H Q I g;show wpAny_Tuple_spliced (bM (h pos a s f H _ I g) λus c ⟨xs,H1,d,r,z,q⟩=>#[by rw[<-r.length];show z,?_]);have i:H1 c.heap.objs.size=none:=d.hok.fresh (Ã _);show#[.ref c.heap.objs.size,upd H1 c.heap.objs.size (.tup xs),d.laid (t':=c.toks) (λb u e=>Yf _ e) (Ã _) ?_,rfl,q _ i];show#[z,us,r,#[_,Ë _ rfl,rfl,_,rfl]]
theorem cN (h:PA X es t):PE X (.List es pos) (gG t):=by intro a s f H Q I g;show wpAny_List_spliced (bM (h pos a s f H _ I g) λus c ⟨xs,H1,d,r,z,q⟩=>#[by rw[<-r.length];show z,?_]);have i:H1 c.heap.objs.size=none:=d.hok.fresh (Ã _);show#[.ref c.heap.objs.size,upd H1 c.heap.objs.size (.lst xs),d.laid (t':=c.toks) (λb u e=>Yf _ e) (Ã _) ?_,rfl,q _ i];show#[z,us,0,r,Ë _ rfl]
end
abbrev Sp:=List V->Hp->VK->XK->Prop
abbrev Ag:=List Env->Hp->Shared->XK->Value->Shared->Prop
variable{CX:Ag}
structure Env0 (P:Program) (w:World) (K:W.Frag) (mg:Str->Option Value) (base:Heap) (A:Around) (outer:List Env) (s:Shared) (H:Hp):Prop where
 frames:A.frames=!outer
 mod:Mod K mg base
 bs:∀b o,base.get? b=!o->s.heap.get? b=!o/\H b=none
 bsz:base.objs.size<=s.heap.objs.size
 funs:s.heap.FunFrames base outer
 frf:∀b∈frs outer,H b=none
 hok:HOk P w H s.heap
 bare:AllBare s.gens
def CE (outer:List Env) (P:Program) (w:World) (H:Hp) (s:Shared) (Q:VK) (u:Value) (s':Shared):Prop:=
 ∃v H',s'.os=s.os/\AllBare s'.gens/\Un (frs outer) [] H H' s.heap s'.heap/\HOk P w H' s'.heap/\RelV v u/\Q v H'
def CR (CX:Ag) (outer:List Env) (P:Program) (w:World) (H:Hp) (s:Shared) (Q:VK) (E:XK) (r:Result) (s':Shared):Prop:=
 match r with
 |.ok (.ret u)=>CE outer P w H s Q u s'|.ok _=>False|.error e=>CX outer H s E e s'
structure FnOk (P:Program) (w:World) (K:W.Frag) (mg:Str->Option Value) (base:Heap) (CX:Ag) (k:Nat) (f:Addr) (fd:FuncData) (ps:List Str) (sp:Sp):Prop where
 len:∀vs H Q E,sp vs H Q E->vs.length=ps.length
 run:∀(A:Around) (outer:List Env) (s:Shared) (H:Hp) (args:Args) (us:List Value) (vs:List V) (Q:VK) (E:XK),Room k A->Env0 P w K mg base A outer s H->BindsTo s fd args (ps.zip us)->Vals vs us->sp vs H Q E->codeAny (model P w) A (.call (.ref f) args) (CR CX outer P w H s Q E) s
section
variable{X:Cx} {pins:List (Addr×Obj)} {σ:St} {H:Hp} {s s':Shared}
theorem Inv.env0 (I:Inv X pins σ H s):Env0 X.prog X.w X.K X.mg X.base X.A X.stack s H:=#[I.ok.frames,I.ok.mod,I.bs,Û I.ok.bsz I.sz,I.stack,I.stkFree,I.hok,I.bare]
theorem Inv.after {Q:VK} (I:Inv X pins σ H s) (h:CE X.stack X.prog X.w H s Q u s'):EP X pins σ Q u s':=by let#[v,j,i,a,un,c,r,q]:=h;let#[f,g,d,t,e]:=s';obtain rfl:e=s.os:=i;show#[v,j,I.call (h':=f) (g':=g) (d':=d) (t':=t) (ch:=[]) un c a (λb z=>absurd z (by simp)),r,q]
end
def aR (sp:Sp) (dvs:List V) (E:XK) (t:TA):TE:=λσ H Q=>t σ H λvs H1=>sp (vs++dvs) H1 Q E
def Yg (C:Addr) (m:Str) (sp:Sp) (dvs:List V) (E:XK) (ta:TE) (t:TA):TE:=λσ H Q=>ta σ H λx H1=>∃a dx fs,x=.ref a/\H1 a=!(.ins C dx fs)/\fs.lookup m=none/\t σ H1 λvs H2=>sp (x::(vs++dvs)) H2 Q E
def Yh (C:Addr) (sp:Sp) (dvs:List V) (E:XK) (t:TA):TE:=λσ H Q=>t σ H λvs H1=>∀x dx,H1 x=none->H1 dx=none->dx≠x->sp (.ref x::(vs++dvs)) (upd (upd H1 dx (.own x)) x (.ins C dx [])) (λv H2=>v=.non/\Q (.ref x) H2) E
def Binds (K:W.Frag) (fd:FuncData) (ps:List Str) (ds:List Value):Prop:=∀(s:Shared) (us:List Value),K.In s.heap->(us++ds).length=ps.length->BindsTo s fd #[us,[]] (ps.zip (us++ds))
theorem Binds.all {K:W.Frag} {ps:List Str} (h:∀us:List Value,us.length=ps.length->bindArgs fd #[us,[]]=pure (ps.zip us)):Binds K fd ps []:=λs us _ a=>by rw[å]at a⊢;show .of_eq (h us a)
def uQ (CX:Ag) (X:Cx) (E:XK):Prop:=∀(pins:List (Addr×Obj)) (σ:St) (H:Hp) (s:Shared) (e:Value) (s':Shared),Inv X pins σ H s->CX X.stack H s E e s'->X.xe e s'
section
variable{X:Cx} {CX:Ag} {k:Nat} {f C:Addr} {fd:FuncData} {ps:List Str} {sp:Sp} {dvs:List V} {ds:List Value} {E:XK} {x m:Str} {p pos apos:Pos} {e o:Expr} {es:List Expr} {ta:TE} {t:TA}
theorem MK {s:Shared} {Q:VK} {vs:List V} (F:FnOk X.prog X.w X.K X.mg X.base CX k f fd ps sp) (d:Room k X.A) (c:Binds X.K fd ps ds) (i:Vals dvs ds) (g:uQ CX X E)(I:Inv X pins σ H s) (r:Vals vs us) (h:sp (vs++dvs) H Q E):wpAny (model X.prog X.w) X.A (call (.ref f) us) (EP X pins σ Q) X.xe s:=by
 have b:Vals (vs++dvs) (us++ds):=r.append i;have j:(us++ds).length=ps.length:=by rw[<-b.length];show F.len _ _ _ _ h
 show wpAny_call (codeAny_mono (F.run X.A X.stack s H #[us,[]] (us++ds) (vs++dvs) Q E d I.env0 (c s us I.kIn j) b h) λr s' a=>?_);cases r with
 |error e=>show g pins σ H s e s' I a|ok fl=>cases fl with|ret u=>show I.after a|next=>show False.elim a|brk=>show False.elim a|cont=>show False.elim a
theorem Il (F:FnOk X.prog X.w X.K X.mg X.base CX k f fd ps sp) (i:Room k X.A) (n:Gl X x) (m:X.mg x=!(.ref f)) (u:W.keepIn X.K (.ref f)=true) (g:Binds X.K fd ps ds) (y:Vals dvs ds) (o:uQ CX X E)(j:PA X (e::es) t) (c:(x==("__debug__":Str))=false:=by decide) (v:starEach (e::es) X.env=(false,eval e X.env)::starEach es X.env:=by rfl) (b:(backTo pos (starEach es X.env)).any (·.1)=false:=by rfl):PE X (.Call (.Name x p) (e::es) [] pos) (aR sp dvs E t):=by intro a s l H Q I h;show ψ (Ib I n m ?_ c);show PySem.W.callWith_K (h₀:=X.base) I.ok.mod.kin u (bM (j pos a s l H _ I h) λus z ⟨vs,H1,d,r,q⟩=>#[d.kIn,?_]) v b;show MK F i g y o d r q
structure Mk (K:W.Frag) (C f:Addr):Prop where
 makes:PySem.W.makesIn K C=true
 init:PySem.W.findIn K (.ref C) "__init__"=!(!(.ref f))fn:PySem.W.isFn K (.ref f)=true
 kp:W.keepIn K (.ref C)=true
end
section
variable{X:Cx} {CX:Ag} {k:Nat} {f C:Addr} {fd:FuncData} {ps ks:List Str} {sp:Sp} {E:XK} {x m:Str} {p pos apos kpos:Pos} {e o:Expr} {es:List Expr} {kws:List Keyword} {te ta:TE} {t tk:TA} {nm:Option Str}
structure KBinds (K:W.Frag) (fd:FuncData) (ps ks:List Str) (g:List Value->List Value->List Value) (gV:List V->List V->List V):Prop where
 to:∀(s:Shared) (us ws:List Value),K.In s.heap->(g us ws).length=ps.length->BindsTo s fd #[us,ks.zip ws] (ps.zip (g us ws))rel:∀{vs:List V} {us:List Value} {zs:List V} {ws:List Value},Vals vs us->Vals zs ws->Vals (gV vs zs) (g us ws)
variable{g:List Value->List Value->List Value} {gV:List V->List V->List V}
end
structure FnScope (N P:List Str) (sc:Scope):Prop where
 kind:sc.kind=.function
 co:sc.isCoroutine=false
 gen:sc.isGenerator=false
 nd:N.Nodup
 pre:N.take P.length=P
 par:∀x∈P,sc.names.lookup x=!.local\/sc.names.lookup x=!.cell
 nofree:∀y∈sc.names,y.2≠.free
theorem oY {a:Str->Option NameKind} {x:Str}:∀{binds:List (Str×Value)} {m:Str->Option Value},(∀v,(x,v)∉binds)->bindL a binds m x=m x
 |[],_,_=>rfl|(n,v)::r,m,h=>by
  unfold bindL;rw[oY λw b=>h w (Í _ b)];split
  .have:x≠n:=by rintro rfl;show h v Ì
   simp[this]
  .rfl
theorem oZ {a:Str->Option NameKind} {x:Str}:∀{binds:List (Str×Value)} {m:Str->Option Value},(∀v,(x,v)∉binds)->bindC a binds m x=m x
 |[],_,_=>rfl|(n,v)::r,m,h=>by
  unfold bindC;rw[oZ λw b=>h w (Í _ b)];split
  .rfl
  .have:x≠n:=by rintro rfl;show h v Ì
   simp[this]
theorem ph {a:Str->Option NameKind} {x:Str} {v:Value}:∀{P:List Str} {vs:List Value} {i:Nat} {m:Str->Option Value},P.Nodup->P[i]?=!x->vs[i]?=!v->a x=!.local->bindL a (P.zip vs) m x=!v
 |[],_,_,_,_,h,_,_=>by simp at h
 |_::_,[],_,_,_,_,h,_=>by simp at h|p::P,w::vs,0,m,nd,h1,h2,hk=>by simp at h1 h2;subst h1;subst h2;change bindL a ((p,w)::P.zip vs) m p=_;unfold bindL;rw[oY λv b=>(Ĉ.mp nd).1 (List.of_mem_zip b).1,if_pos hk];simp
 |p::P,w::vs,i+1,m,nd,h1,h2,hk=>by change bindL a ((p,w)::P.zip vs) m x=_;unfold bindL;show ph (i:=i) (Ĉ.mp nd).2 (by simpa using h1) (by simpa using h2) hk
theorem pq {a:Str->Option NameKind} {x:Str} {v:Value}:∀{P:List Str} {vs:List Value} {i:Nat} {m:Str->Option Value},P.Nodup->P[i]?=!x->vs[i]?=!v->a x≠!.local->bindC a (P.zip vs) m x=!v
 |[],_,_,_,_,h,_,_=>by simp at h|_::_,[],_,_,_,_,h,_=>by simp at h|p::P,w::vs,0,m,nd,h1,h2,hk=>by simp at h1 h2;subst h1;subst h2;change bindC a ((p,w)::P.zip vs) m p=_;unfold bindC;rw[oZ λv b=>(Ĉ.mp nd).1 (List.of_mem_zip b).1,if_neg hk];simp|p::P,w::vs,i+1,m,nd,h1,h2,hk=>by change bindC a ((p,w)::P.zip vs) m x=_;unfold bindC;show pq (i:=i) (Ĉ.mp nd).2 (by simpa using h1) (by simpa using h2) hk
noncomputable def start (N:List Str) (vs:List V):St:=vs.map some++List.replicate (N.length-vs.length) none
noncomputable def zf (CX:Ag) (P:Program) (w:World) (K:W.Frag) (mg:Str->Option Value) (base:Heap) (N:List Str) (qual:Str) (scope:Scope) (f:Addr) (cd:Value) (A:Around) (outer:List Env) (s:Shared) (H:Hp) (E:XK):Cx where
 prog:=P
 w:=w
 K:=K
 mg:=mg
 base:=base
 A:=A.deeper (envOfC qual scope s.heap.objs.size f cd)
 N:=N
 s₀:=s
 H₀:=H
 env:=envOfC qual scope s.heap.objs.size f cd
 outer:=outer
 stack:=envOfC qual scope s.heap.objs.size f cd::outer
 ex:=[]
 calm:=true
 fn:=λ_=>true
 pn:=[]
 xe:=λe s'=>wpAny (model P w) (A.deeper (envOfC qual scope s.heap.objs.size f cd)) (leaving (envOfC qual scope s.heap.objs.size f cd) e) (λ_ s''=>CX outer H s E e s'') (λe' s''=>CX outer H s E e' s'') s'
theorem sE (h:sc.names.lookup x=!.cell):∃c,(cellsFrom n sc.names []).lookup x=!c:=by
 have q:=PySem.W.cellsFrom_some sc.names n [] (.inl h);show Option.isSome_iff_exists.mp q
theorem zg {P:Program} {K:W.Frag} {g:Heap} {N ps:List Str} {f:Addr} {s:Shared} {E:XK} {vs:List V}(S:FnScope N ps scope) (I:A.handled=none) (j:Env0 P w K mg g A outer s H) (L:vs.length=ps.length) (r:Vals vs us)(x:InCallC s s.heap.objs.size (bindL (envOfC qual scope s.heap.objs.size f cd).kindOf (ps.zip us) λ_=>none) (cellsFrom (s.heap.objs.size+1) scope.names []) (bindC (envOfC qual scope s.heap.objs.size f cd).kindOf (ps.zip us) λ_=>none) s1):Inv (zf CX P w K mg g N qual scope f cd A outer s H E) [] (start N vs) H s1:=by
 have G:ps.length<=N.length:=by have:=ß List.length S.pre;rw[Ñ]at this;rfl'
 let#[B,J,rfl,C]:=x.done;have l:∀b:Addr,b∉(zf CX P w K mg g N qual scope f cd A outer s H E).ex:=λb z=>absurd (show b∈([]:List Addr)from z) (by simp);show⟨⟨j.mod,S.kind,rfl,rfl,Ã _,λy z c B d=>?_,λy m=>?_,λy c _ h=>?_,λ_=>I,Around.frames_deeper j.frames,.inr ⟨rfl,rfl⟩,λb z=>absurd z (l b),j.bs,j.bsz,λb _ _=>l b,λb z=>absurd z (l b),j.funs,j.frf⟩,
  rfl,j.bare,Un.kept C,⟨_,x.toInCall.ns,λi y v B d M=>?_⟩,λy c h=>⟨_,x.cell y c h⟩,j.hok.fresh (Ã _),λy c h=>?_,λp o=>absurd (show p∈([]:List (Addr×Obj))from o) (by simp),j.hok.kept C,?_⟩;.show name_of_addr x.apart (œ B) (œ d)
 .have m:scope.names.lookup y=!.cell\/scope.names.lookup y=!.free:=m;rcases m with m|m;.show sE m
  .show absurd rfl (S.nofree _ (œ m))
 .show ć (x.above y c (œ h))
 .have hi:i<vs.length:=by
   unfold start at d;by_cases hi:i<vs.length;.show hi
   .rw [ú (by simpa using hi)]at d;rw[List.getElem?_replicate]at d;split at d<;>cases d
  have F:vs[i]?=!v:=by
   unfold start at d;rw[ĕ (by simpa using hi),Xs]at d;cases e:vs[i]?with
   |none=>rw[e]at d;cases d|some a=>rw[e]at d;cases d;rfl
  let#[u,D,rv]:=r.get F;have o:ps[i]?=!y:=by rw[<-S.pre,List.getElem?_take_of_lt ()];show B
  have t:ps.Nodup:=by rw[<-S.pre];show S.nd.sublist (Ě _ _)
  show#[u,rv,?_];rcases S.par y (Zs o)with k|k;.show .inl #[k,ph t o D k]
  .obtain ⟨c,e⟩:=sE (n:=s.heap.objs.size+1) k;show .inr #[.inl k,c,e,?_];have q:=x.cell y c e;rw[pq t o D (by change scope.names.lookup y≠_;rw[k];decide)]at q;show q
 .show j.hok.fresh (ć (x.above y c (œ h)))
 .unfold start;change _=N.length;rw[À,Qb,List.length_replicate];rfl'
theorem T7 {P:Program} {K:W.Frag} {c:Heap} {f:Addr} {name:Str} {G kV p L a ct X:Value} {T:Option Addr}{N ps:List Str} {sp:Sp} (lk:K.lookup f=!#[X,T,.func (W.fnOf name qual params body scope G kV p L an a ct),osl]) (C:W.codeIn K a qual=true) (S:FnScope N ps scope)(j:∀vs H Q E,sp vs H Q E->vs.length=ps.length)(g:∀(A:Around) (outer:List Env) (s:Shared) (H:Hp) (vs:List V) (Q:VK) (E:XK),Room k (A.deeper (envOfC qual scope s.heap.objs.size f a))->sp vs H Q E->∃t,PSs (zf CX P w K mg c N qual scope f a A outer s H E) body t/\t {nx:=λ_ H'=>Q .non H',rt:=Q} (start N vs) H):FnOk P w K mg c CX (k+1) f (W.fnOf name qual params body scope G kV p L an a ct) ps sp:=by
 show#[j,λA outer s H args us vs Q E z m M r l=>?_];have R:=j _ _ _ _ l;have D:K.In s.heap:=m.mod.kin.keeps λb o e=>(m.bs b o e).1
 have B:s.heap.NoLimit:=m.mod.nolimit.keeps λb o e=>(m.bs b o e).1;have h:∀y∈ps.zip us,scope.names.lookup y.1=!.local\/(scope.names.lookup y.1=!.cell/\((cellsFrom (s.heap.objs.size+1) scope.names []).lookup y.1).isSome=true):=λ⟨n,v⟩ hy=>by
  rcases S.par n (List.of_mem_zip hy).1with q|q
  .show .inl q
  .show .inr #[q,PySem.W.cellsFrom_some _ _ _ (.inl q)]
 show codeAny_call_function z.depth (D _ _ lk) rfl S.co S.gen rfl (PySem.W.codeRec_of D C) (M _ _ _ _ ?_);show wpAny_newFunctionEnv_cells S.kind h λenv Z F x=>?_;subst Z;show#[B.keeps x.toInCall.keep,codeAny_func ?_];let#[t,U,Y]:=g A outer s H vs Q E (z.deeper _) l;have I:Inv (zf CX P w K mg c N qual scope f a A outer s H E) [] (start N vs) H F:=zg S z.hd m R r x;show Ď (U [] F (start N vs) H _ I Y) (λO s' i=>?_) λe s' i=>i;have fin:∀{d:St} {H':Hp} {v:V} {u:Value},Inv (zf CX P w K mg c N qual scope f a A outer s H E) [] d H' s'->RelV v u->Q v H'->CE outer P w H s Q u s':=λ{d H' v u} J rv q=>#[v,H',J.os,J.bare,J.base,J.hok,rv,q];cases O with
 |ret u=>
  let#[v,d,H',J,rv,q]:=i;show fin J rv q|next=>let#[d,H',J,q]:=i;show fin (v:=V.non) (u:=Value.none) J rfl q|brk=>
  let#[_,_,_,q]:=i;show False.elim q|cont=>let#[_,_,_,q]:=i;show False.elim q
section
variable{X:Cx} {x:Str} {p pos:Pos} {e:Expr} {es:List Expr} {t:TA} {id T:String} {r:List V->Hp->VK->Prop}
def cF (r:List V->Hp->VK->Prop) (t:TA):TE:=λσ H Q=>t σ H λvs H1=>r vs H1 Q
theorem Bd (o:bY X (.builtin id) r) (j:Gl X x) (i:X.mg x=none) (l:bootBuiltins x=!(.builtin id)) (g:PA X (e::es) t) (m:x≠"__name__":=by decide) (c:(x==("__debug__":Str))=false:=by decide)(q:starEach (e::es) X.env=(false,eval e X.env)::starEach es X.env:=by rfl) (b:(backTo pos (starEach es X.env)).any (·.1)=false:=by rfl):PE X (.Call (.Name x p) (e::es) [] pos) (cF r t):=by intro a s d H Q I h;show ψ (km I j i l ?_ m c);show PyProof.Rows.callWith_builtin1 (bM (g pos a s d H _ I h) λus n ⟨vs,H1,k,u,f⟩=>o a n d H1 vs us Q k u f) q b
theorem bI (o:bY X (.type T) r) (j:Gl X x) (i:X.mg x=none) (l:bootBuiltins x=!(.type T)) (g:PA X (e::es) t) (m:x≠"__name__":=by decide) (c:(x==("__debug__":Str))=false:=by decide)(q:starEach (e::es) X.env=(false,eval e X.env)::starEach es X.env:=by rfl) (b:(backTo pos (starEach es X.env)).any (·.1)=false:=by rfl):PE X (.Call (.Name x p) (e::es) [] pos) (cF r t):=by intro a s d H Q I h;show ψ (km I j i l ?_ m c);show Ļ (bM (g pos a s d H _ I h) λus n ⟨vs,H1,k,u,f⟩=>o a n d H1 vs us Q k u f) q b
end
end L2
namespace HT
open PySem PyProof.Rows
variable{b sl t:Addr} {ms:List Int} {v vl vu:Value} {hi lo:Option Int} {items:Array Value} {Q:Value->Shared->Prop}
noncomputable def lexLt:List Int->List Int->Bool|[],[]=>false|[],_::_=>true|_::_,[]=>false|x::xs,y::ys=>if x=y then lexLt xs ys else decide (x<y)
theorem fY (x y:Int) (xs a:List Int):lexLt (x::xs) (y::a)=if x=y then lexLt xs a else decide (x<y):=rfl
theorem oJ:lexLt [] []=false:=rfl
theorem mJ (y:Int) (a:List Int):lexLt [] (y::a)=true:=rfl
theorem mK (x:Int) (xs:List Int):lexLt (x::xs) []=false:=rfl
theorem Be (A:Around) (s:Shared) (a:Int) (t:Tok) (c:Int) (u:Tok):∃e,SeqAt.EqAt A s (.int a t) (.int c u) e/\(e=true↔a=c):=#[(a==c),SeqAt.EqAt.int_int a t c u,by simp]
theorem Bg (A:Around) (s:Shared) (a:Int) (t:Tok) (c:Int) (u:Tok) (prog:Program) (w:World) (E:Value->Shared->Prop) (Q:Value->Shared->Prop) (h:Q (.bool (decide (a<c))) s):wpAny (model prog w) A (richCompare .Lt (.int a t) (.int c u)) Q E s:=(PyProof.Rows.lt_int h:wpAny (model prog w) A (compareOp .Lt (.int a t) (.int c u)) Q E s)
section
open PySem.SeqAt
open PySem.AutoSeq1 (wpAny_loadPart')
open PySem.MeetsSeq PySem.MeetsSeq2 PySem.MeetsSeq3
theorem oK (l b:Addr) (i f:Array Value) (n P:Nat) (N G:Option Addr) (M H:Array (Option Value)) (ns ms:List Int) (hi:IntsAre i.toList ns) (I:IntsAre f.toList ms):Meets (Builtin.«tuple.__lt__» #[[.ref l,.ref b],[]])
   (λ_ R s=>s.heap.get? l=!{cls:=.type "tuple",dict:=N,data:=.seq i n,slots:=M}/\s.heap.get? b=!{cls:=.type "tuple",dict:=G,data:=.seq f P,slots:=H}/\R (.ok (.ret (.bool (lexLt ns ms)))) s):=
 .of_wp λprog w A R s h=>by
  let#[D,g,d,B,E]:=s;let#[L,K,h]:=h;have U:=AutoSeq1.sub_tuple_tuple;have T:i.size=ns.length:=by rw[<-hi.length];simp
  have S:f.size=ms.length:=by rw[<-I.length];simp
  wp_walk using wpAny_loadPart' L,wpAny_loadPart' K,wpAny_forIn_list _ (λrest b s'=>b.1=none/\s'=#[D,g,d,B,E]/\∃(vs C:List Value) (m k:List Int),rest=vs.zip C/\IntsAre vs m/\IntsAre C k/\m.length+f.size=k.length+i.size/\R (.ok (.ret (.bool (lexLt m k)))) #[D,g,d,B,E]) _
  case turn=>
   rintro⟨y,x⟩ rest b s' ⟨v,rfl,vs,C,m,k,hz,z,o,j,r⟩;cases z with
   |nil=>rw[List.zip_nil_left]at hz;cases hz|cons a t hvi'=>cases o with
    |nil=>rw[List.zip_nil_right]at hz;cases hz|cons c u hwi'=>
     rw[Ź]at hz;injection hz with hyx hrest;injection hyx with hy hx;subst hy hx;rw[fY]at r;simp only[é]at j;let#[e,O,p]:=Be A.in1 #[D,g,d,B,E] a t c u;show Qr (O prog w _ _ ?_)
     cases e with|true=>
      rw[if_pos (p.mp rfl)]at r
      wp_walk;show#[rfl,rfl,_,_,_,_,hrest,hvi',hwi',(),r]|false=>
      rw[if_neg (λq=>absurd (p.mpr q) Ê)]at r;have F:=Bg A.in1 #[D,g,d,B,E] a t c u prog w
      wp_walk using F;show#[_,rfl,by simpa using r]
  case fin=>
   rintro⟨b1,Q⟩ s' ⟨v,rfl,vs,C,m,k,hz,z,o,j,r⟩;simp only at v;subst v;have J:lexLt m k=decide (i.size<f.size):=by cases z with
    |nil=>cases o with|nil=>simp only[ş]at j;rw[oJ];show(È ()).symm|cons c u hw=>simp only[ş,é]at j;rw[mJ];show(Ö ()).symm
    |cons a t J=>cases o with|nil=>simp only[ş,é]at j;rw[mK];show(È ()).symm|cons c u hw=>
      rw[Ź]at hz;cases hz
   rw[J]at r
   wp_walk;show#[_,rfl,by simpa[Builtin.Tuple.tupleCompareSizes]using r]
  case h=>show#[rfl,rfl,i.toList,f.toList,ns,ms,rfl,hi,I,(),h]
end
section
variable{prog:Program} {w:World} {A:Around} {E:Value->Shared->Prop} {s:Shared}
theorem jA {l:Addr} {a:Array Value} {ns:List Int} (q:IsTup s.heap l items) (p:IsTup s.heap b a) (hi:IntsAre items.toList ns) (t:IntsAre a.toList ms)(v:A.units<cLine) (h:Q (.bool (lexLt ns ms)) s):wpAny (model prog w) A (compareOp .Lt (.ref l) (.ref b)) Q E s:=by
 let#[#[cls,u,data,r],m,k,n,o]:=id q;let#[#[j,g,f,i],d,c,y,e]:=id p;simp only at k o c e;subst k o c e;show richCompare_meets_room (op:=.Lt) #[_,m,rfl] #[_,d,rfl] Υ PySem.F.entry_tuple_lt (PySem.F.args_tuple_lt_2 _ _) (oK l b items a n y u g r i ns ms hi t)
  #[m,d,show Value.bool (lexLt ns ms)≠Value.notImplemented/\Q (.bool (lexLt ns ms)) s from#[(λx=>nomatch x),h]] v
theorem Im {vs a:List Value} (x:IsTup s.heap t vs.toArray) (v:IsTup s.heap b a.toArray) (o:vs≠[])(y:a=[]->Q (.ref t) s) (z:a≠[]->Q (.ref s.heap.objs.size) {s with heap:=s.heap.push {cls:=.type "tuple",data:=.seq (vs++a).toArray}})(hsz:vs.length+a.length<=sizeLine):wpAny (model prog w) A (binaryOp .Add (.ref t) (.ref b)) Q E s:=by
 let#[#[cls,p,data,m],j,q,n,r]:=id x;let#[#[l,g,k,h],c,d,u,f]:=id v;simp only at q r d f;subst q r d f;have e:vs.toArray++a.toArray=(vs++a).toArray:=by simp
 by_cases i:a=[]
 .show concat_meets #[_,j,rfl] #[_,c,rfl] noFill_tuple_add seq_tuple_add Α Ž (Ŵ _ _)
   (tuple_addW1 t b vs.toArray a.toArray n u p g m h (by simpa using o) (by simp[i])) #[j,c,y i]
 .show concat_meets #[_,j,rfl] #[_,c,rfl] noFill_tuple_add seq_tuple_add Α Ž (Ŵ _ _)
   (tuple_addW2 t b vs.toArray a.toArray n u p g m h (by simpa using o) (by simpa using i) (by rw[Î,Î];show hsz)) #[j,c,?_]
  rw[e];show z i
noncomputable def dJ (n d:Nat):Option Int->Nat
 |none=>d
 |some v=>if v<0 then(v+(n:Int)).toNat else min v.toNat n
theorem MN (n d:Nat) (b:d<=n) (o:Option Int):dJ n d o<=n:=by cases o with
 |none=>show b|some v=>
  change(if v<0 then(v+(n:Int)).toNat else min v.toNat n)<=n;by_cases a:v<0
  .rw [if_pos a];rfl'
  .rw [if_neg a];show Nat.min_le_right _ _
theorem xU (v:Int) (n d:Nat):(if v<0 then max (v+(n:Int)) 0 else min v (n:Int))=((dJ n d !v:Nat):Int):=by
 change(if v<0 then max (v+(n:Int)) 0 else min v (n:Int))=(((if v<0 then(v+(n:Int)).toNat else min v.toNat n):Nat):Int);by_cases a:v<0;.simp only[if_pos a];rfl'
 .simp only[if_neg a];rfl'
theorem uR (lo hi:Option Int) (n:Nat):Builtin.Slice.sliceAdjust lo hi 1 (n:Int)=(((dJ n 0 lo:Nat):Int),((dJ n n hi:Nat):Int)):=by
 have a:¬((1:Int)<0):=();unfold Builtin.Slice.sliceAdjust;simp only[a,ă];show ω ?_ ?_;.cases lo with
  |none=>rfl
  |some v=>show xU v n 0
 .cases hi with
  |none=>rfl|some v=>show xU v n n
theorem uT (i j:Nat):Builtin.Slice.slicePlaces (i:Int) (j:Int) 1=j-i:=by
 unfold Builtin.Slice.slicePlaces;have a:(1:Int)>0:=();simp only[a,Ģ,Int.ediv_one];split<;>rfl'
theorem mL {o:Option Int} {Q:Option Int->Shared->Prop} (p:IsPart v o) (h:Q o s):wpAny (model prog w) A (Builtin.Slice.slicePartIndex v) Q E s:=by cases p with
 |none=>show slicePart_none h|int i t=>show slicePart_int h
theorem gO {n:Nat} {Q:Int×Int×Nat->Shared->Prop} (d:s.heap.IsSliceOf sl vl vu .none) (pl:IsPart vl lo) (c:IsPart vu hi)(h:Q (((dJ n 0 lo:Nat):Int),1,dJ n n hi-dJ n 0 lo) s):wpAny (model prog w) A (Builtin.Slice.sliceApplied (.ref sl) (pure (n:Int))) Q E s:=by
 let#[f,b,e,a]:=id d;unfold Builtin.Slice.sliceApplied Builtin.Slice.sliceFields;show Qr (Qr (ÿ b a (x:=vl) rfl (Qr (ÿ b a (x:=vu) rfl (Qr (ÿ b a (x:=.none) rfl (Zy ?_)))))));show Qr (slicePart_none ?_);change wpAny _ _ (if((1:Int)==0)=true then _ else _) _ _ s;rw[if_neg (by decide)];show Qr (mL pl (Qr (mL c (Qr (Zy ?_)))));change wpAny _ _ (match Builtin.Slice.sliceAdjust lo hi 1 (n:Int)with|(lo,hi)=>pure (lo,(1:Int),Builtin.Slice.slicePlaces lo hi 1)) _ _ s;rw[uR lo hi n];change wpAny _ _ (pure (((dJ n 0 lo:Nat):Int),(1:Int),Builtin.Slice.slicePlaces ((dJ n 0 lo:Nat):Int) ((dJ n n hi:Nat):Int) 1)) _ _ s;rw[uT];show Zy h
theorem Bh (xs:Array Value) (i k:Nat):((List.range k).filterMap λ(m:Nat)=>xs[((i:Int)+(m:Int)*1).toNat]?).toArray=((xs.toList.drop i).take k).toArray:=by
 have e:(λ(m:Nat)=>xs[((i:Int)+(m:Int)*1).toNat]?)=λm=>xs[i+m]? :=by
  funext m;have:((i:Int)+(m:Int)*1).toNat=i+m:=();rw[this]
 rw[e];have:=pick_run xs i k;rw[List.filterMap_map]at this;have a:((λx=>xs[x]?)∘λx=>i+x)=λm=>xs[i+m]? :=rfl;rw[a]at this;rw[this]
theorem jK (b:IsTup s.heap t items) (g:s.heap.IsSliceOf sl vl vu .none) (pl:IsPart vl lo) (j:IsPart vu hi)(k:¬(dJ items.size 0 lo=0/\dJ items.size items.size hi=items.size))(h:Q (.ref s.heap.objs.size) {s with heap:=s.heap.push {cls:=.type "tuple",data:=.seq ((items.toList.drop (dJ items.size 0 lo)).take (dJ items.size items.size hi-dJ items.size 0 lo)).toArray}})(hsz:items.size<=sizeLine):wpAny (model prog w) A (getItem (.ref t) (.ref sl)) Q E s:=by
 have a:sizeOk (.seq ((items.toList.drop (dJ items.size 0 lo)).take (dJ items.size items.size hi-dJ items.size 0 lo)).toArray):=by change((items.toList.drop (dJ items.size 0 lo)).take (dJ items.size items.size hi-dJ items.size 0 lo)).toArray.size<=sizeLine;rw[Î,Ñ,ô,ø];rfl'
 have o:dJ items.size items.size hi<=items.size:=MN _ _ (Ã _) hi;let#[l,c,f,i]:=id g;have e:s.TypeIs (.ref sl) "slice":=#[l,c,f];unfold getItem;try with_reducible show ą ?_
 first|show Qr (Zy ?_)|skip
 show Qr (wpAny_sequenceKey b.typeIs (by decide) ?_);show Qr (wpAny_callSpecial?_slot (name:=Str.ofString "__getitem__") b.typeIs ī (ê ī b.typeIs entry_tuple_getitem ?_ (args_tuple_getitem _ _)));change wpAny _ _ (Builtin.Tuple.tupleItemsOf (.ref t)>>=_) _ _ s;show Qr (tupleItemsOf_ b ?_);show Qr (ς e ?_);rw[if_pos (by decide)];show Qr (gO g pl j ?_);have d:¬((((dJ items.size 0 lo:Nat):Int)==0&&(1:Int)==1&&(dJ items.size items.size hi-dJ items.size 0 lo)==items.size)=true):=by
  intro q;rw[Ą,Ą]at q;have p:((dJ items.size 0 lo:Nat):Int)=0:=Φ q.1.1;have n:dJ items.size items.size hi-dJ items.size 0 lo=items.size:=Φ q.2;show k #[(),()]
 change wpAny _ _ (if(((dJ items.size 0 lo:Nat):Int)==0&&(1:Int)==1&&(dJ items.size items.size hi-dJ items.size 0 lo)==items.size)=true then _ else _) _ _ s;rw[if_neg d,Bh];first
  |show Qr (m:=Builtin.Tuple.tupleExact _) (õ (Zy #[_,rfl,Zy h]) a)|show Qr (m:=Builtin.Tuple.tupleExact _) (õ (Qr (Zy (Zy #[_,rfl,Zy h]))) a)
  |show Qr (Qr (m:=Builtin.Tuple.tupleExact _) (õ (Zy (Zy #[_,rfl,Zy h])) a))|show Qr (Qr (m:=Builtin.Tuple.tupleExact _) (õ (Zy #[_,rfl,Zy h]) a))
end
end HT
namespace L2
open PySem PySem.Spec PyProof.Rows
variable{i:Int} {x y:V} {A:Around} {u v:Value} {xs:List V} {j n t':Nat} {its us:List Value} {pins:List (Addr×Obj)} {f:Array Value->Array Value}
abbrev TO:=St->Hp->(Option Int->Hp->Prop)->Prop
def PO (X:Cx) (e:Option Expr) (t:TO):Prop:=∀(pins:List (Addr×Obj)) (s:Shared) (σ:St) (H:Hp) (Q:Option Int->Hp->Prop),Inv X pins σ H s->t σ H Q->wpAny (model X.prog X.w) X.A (evalPart e X.env) (λu s'=>∃o H',Inv X pins σ H' s'/\IsPart u o/\Q o H') X.xe s
def cU:TO:=λ_ H Q=>Q none H
def fD (t:TE):TO:=λσ H Q=>t σ H λx H1=>∃i,x=.int i/\Q (!i) H1
theorem intsAre_of {ns:List Int}:∀{us:List Value},Vals (ns.map V.int) us->IntsAre us ns:=by induction ns with
 |nil=>intro us r;rw[û]at r;cases r;show .nil|cons n ns ih=>intro us r;rw[Ä]at r;cases r with|cons r1 r2=>let#[t,e]:=r1;subst e;show .cons n t (ih r2)
section
variable{X:Cx} {e:Expr} {te:TE} {lo hi:Option Expr} {tl th:TO} {pos p2:Pos}
theorem dC:PO X none cU:=by intro a s b H Q I h;rw[evalPart_none];show Zy #[none,H,I,.none,h]
theorem cV (h:PE X e te):PO X (!e) (fD te):=by
 intro a s c H Q I f;rw[evalPart_some];show bM (h a s c H _ I f) λu j ⟨x,H1,d,g,b⟩=>?_;let#[i,rfl,q]:=b;let#[t,rfl]:=g;show#[!i,H1,d,.int i t,q]
def KJ (X:Cx) (r:V->Option Int->Option Int->Hp->VK->Prop):Prop:=
 ∀(pins:List (Addr×Obj)) (s:Shared) (σ:St) (H:Hp) (x:V) (v vl vu:Value) (lo hi:Option Int) (sl:Addr) (Q:VK),Inv X pins σ H s->RelV x v->s.heap.IsSliceOf sl vl vu .none->IsPart vl lo->IsPart vu hi->r x lo hi H Q->∃T id,typeLookup (.type T) "__getitem__"=pure !(.builtin id)/\s.TypeIs v T/\wpAny (model X.prog X.w) X.A (getItem v (.ref sl)) (EP X pins σ Q) X.xe s
def uU (r:V->Option Int->Option Int->Hp->VK->Prop) (te:TE) (tl th:TO):TE:=λσ H Q=>te σ H λx H1=>tl σ H1 λl H2=>th σ H2 λu H3=>r x l u H3 Q
theorem cI {r:V->Option Int->Option Int->Hp->VK->Prop} (j:KJ X r) (B:PE X e te) (k:PO X lo tl) (z:PO X hi th):PE X (.Subscript e (.Slice lo hi none p2) pos) (uU r te tl th):=by
 intro a s d H Q I h;show Subscript_ (bM (B a s d H _ I h) λv y ⟨x,H1,o,K,C⟩=>?_);show wpAny_Slice (bM (k a y d H1 _ o C) λg E ⟨l,H2,F,pl,p⟩=>bM (z a E d H2 _ F p) λf c ⟨u,H3,t,G,J⟩=>?_);rw[evalPart_none];show Zy ?_;have i:Inv X a d H3 {c with heap:=c.heap.push {cls:=.type "slice",data:=.fields ([g,f,.none].toArray)}}:=t.kept (t':=c.toks) λb ob q=>Yf _ q;let#[T,L,D,n,m]:=j a {c with heap:=c.heap.push {cls:=.type "slice",data:=.fields ([g,f,.none].toArray)}} d H3 x v g f l u c.heap.objs.size Q i K (Heap.IsSliceOf.new ..) pl G J;change wpAny (model X.prog X.w) X.A (subscriptTail e (.Slice lo hi none p2) v (.ref c.heap.objs.size)) (EP X a d Q) X.xe {c with heap:=c.heap.push {cls:=.type "slice",data:=.fields ([g,f,.none].toArray)}};show tail_any (ops:=[.ref c.heap.objs.size,v]) n D m (by with_unfolding_all rfl)
noncomputable def fM (xs:List V) (lo hi:Option Int):List V:=(xs.drop (HT.dJ xs.length 0 lo)).take (HT.dJ xs.length xs.length hi-HT.dJ xs.length 0 lo)
theorem lG (xs:List V) (lo hi:Option Int):(fM xs lo hi).length<=xs.length:=by unfold fM;rw[Ñ,ô];rfl'
def MP (K:W.Frag):V->Option Int->Option Int->Hp->VK->Prop:=λx lo hi H Q=>∃a xs,x=.ref a/\SqT K H a xs/\¬(HT.dJ xs.length 0 lo=0/\HT.dJ xs.length xs.length hi=xs.length)/\∀p,H p=none->Q (.ref p) (upd H p (.tup (fM xs lo hi)))
theorem Bj:KJ X (MP X.K):=by
 intro f s m H x v p n lo hi t Q I i j pl l h;let#[a,xs,rfl,k,g,q]:=h;cases i;let#[d,r,e,hz]:=I.tuple k;have c:d.toArray.size=xs.length:=by rw[Î];show r.length.symm
 show#["tuple",_,PyProof.Rows.slot_tuple_getitem.lookup,e.typeIs,?_];show HT.jK e j pl l (by rw[c];show g) ?_ (by rw[c];show hz);rw[c];show#[.ref s.heap.objs.size,_,I.laid (t':=s.toks) (o:=.tup (fM xs lo hi)) (λb ob q=>Yf _ q) (Ã _) ?_,rfl,q _ (I.hok.fresh (Ã _))];show#[Nat.le_trans (lG xs lo hi) hz,_,(r.drop (HT.dJ xs.length 0 lo)).take (HT.dJ xs.length xs.length hi-HT.dJ xs.length 0 lo),IsTup.new _ _]
def MT (K:W.Frag):R2:=λx y H Q=>∃a b ns ms,x=.ref a/\y=.ref b/\SqT K H a (ns.map V.int)/\SqT K H b (ms.map V.int)/\Q (.bl (HT.lexLt ns ms)) H
theorem N5 (n:X.A.units<cLine):gW X (compareOp .Lt) (MT X.K):=by
 intro e s t H x y v u Q I k m h;let#[a,b,ns,ms,rfl,rfl,g,f,q]:=h;cases k;cases m;let#[d,r,i,_]:=I.tuple g;let#[c,j,o,_]:=I.tuple f;have l:IntsAre d.toArray.toList ns:=intsAre_of r;have p:IntsAre c.toArray.toList ms:=intsAre_of j;show HT.jA i o l p n #[.bl (HT.lexLt ns ms),H,I,rfl,q]
def T8 (K:W.Frag):R2:=λx y H Q=>∃a b xs ys,x=.ref a/\y=.ref b/\SqT K H a xs/\SqT K H b ys/\xs≠[]/\xs.length+ys.length<=sizeLine/\(ys=[]->Q (.ref a) H)/\(ys≠[]->∀p,H p=none->Q (.ref p) (upd H p (.tup (xs++ys))))
theorem Vals.nil_iff (r:Vals xs us):us=[]↔xs=[]:=by cases r with
 |nil=>simp|cons _ _=>simp
theorem Io:gW X (binaryOp .Add) (T8 X.K):=by
 intro f s B H x y v u Q I l r h;let#[a,b,xs,n,rfl,rfl,j,g,m,hz,i,p]:=h
 cases l;cases r;let#[t,d,k,_]:=I.tuple j;let#[e,c,A,_]:=I.tuple g;show HT.Im k A (λz=>m (d.nil_iff.mp z)) (λz=>#[.ref a,H,I,rfl,i (c.nil_iff.mp z)]) (λz=>?_) (by rw[<-d.length,<-c.length];show hz);show#[.ref s.heap.objs.size,_,I.laid (t':=s.toks) (o:=.tup (xs++n)) (λb ob q=>Yf _ q) (Ã _) ?_,rfl,p (λw=>z (c.nil_iff.mpr w)) _ (I.hok.fresh (Ã _))];show#[by rw[À];show hz,_,d.append c,IsTup.new _ _]
end
noncomputable def S7 (n:Nat) (i:Int):Option Nat:=if 0<=i then(if i<n then !i.toNat else none)else if-(n:Int)<=i then !(i+n).toNat else none
noncomputable def xV {α:Type} (xs:List α) (i:Int):Option α:=(S7 xs.length i).bind λj=>xs[j]?
theorem Ip (h:S7 n i=!j):seqIndex? i n=!j/\j<n/\-(n:Int)<=i/\i<n:=by
 unfold S7 at h;by_cases b:0<=i
 .rw [if_pos b]at h;by_cases a:i<n;.rw [if_pos a]at h;have e:i.toNat=j:=Ô h;show#[by rw[seqIndex_of b a,e],(),(),a]
  .rw [if_neg a]at h;cases h
 .rw [if_neg b]at h;by_cases a:-(n:Int)<=i;.rw [if_pos a]at h;have e:(i+n).toNat=j:=Ô h;show#[by rw[seqIndex_neg () a,e],(),a,()]
  .rw [if_neg a]at h;cases h
theorem qm {a:Type} {xs:List a} {v:a} (h:xV xs i=!v):∃j,seqIndex? i xs.length=!j/\xs[j]?=!v/\j<xs.length/\-(xs.length:Int)<=i/\i<xs.length:=by
 unfold xV at h;cases e:S7 xs.length i with
 |none=>rw[e]at h;cases h|some j=>rw[e]at h;let#[b,d,f,c]:=Ip e;show#[j,b,h,d,f,c]
theorem aX {a:Type} {xs:List a} {v:a} (h:xs[j]?=!v):xV xs (j:Int)=!v:=by
 have b:j<xs.length:=(É.mp h).1;have e:S7 xs.length (j:Int)=!j:=by unfold S7;rw[if_pos (),if_pos ()];simp
 unfold xV;rw[e];show h
def Ir (b:Expr):Prop:=∀o i,subscripted b false o i=operate [o,i] (getItem o i)
def IxR (X:Cx) (r:R2):Prop:=∀(value slice:Expr) (pins:List (Addr×Obj)) (s:Shared) (σ:St) (H:Hp) (x y:V) (v u:Value) (Q:VK),Inv X pins σ H s->RelV x v->RelV y u->r x y H Q->subscripted slice false v u=operate [v,u] (getItem v u)->wpAny (model X.prog X.w) X.A (subscriptTail value slice v u) (EP X pins σ Q) X.xe s
def Ws (X:Cx) (id:String) (r:V->List V->Hp->VK->Prop):Prop:=∀(pins:List (Addr×Obj)) (s:Shared) (σ:St) (H:Hp) (x:V) (xs:List V) (v:Value) (us:List Value) (Q:VK),Inv X pins σ H s->RelV x v->Vals xs us->r x xs H Q->wpAny (model X.prog X.w) X.A (call (.builtin id) (v::us)) (EP X pins σ Q) X.xe s
section
variable{X:Cx} {a b:Expr} {ta tb:TE} {pos:Pos}
theorem IxR.or {r d:R2} (h:IxR X r) (h':IxR X d):IxR X (λx y H Q=>r x y H Q\/d x y H Q):=by
 intro a b c s e H x y v u Q I f i q g;rcases q with q|q;.show h a b c s e H x y v u Q I f i q g
 .show h' a b c s e H x y v u Q I f i q g
theorem sG {r:R2} (f:IxR X r) (g:PE X a ta) (e:PE X b tb) (l:Ir b):PE X (.Subscript a b pos) (aH r ta tb):=by intro c s i H Q I h;show Subscript_ (Mu g e I h λv u m x y H2 d k j q=>f a b c m i H2 x y v u Q d k j q (l _ _))
def fj (K:W.Frag):R2:=λx y H Q=>∃p xs i v,x=.ref p/\y=.int i/\SqL K H p xs/\xV xs i=!v/\Q v H
def aO (K:W.Frag):R2:=λx y H Q=>∃p xs i v,x=.ref p/\y=.int i/\SqT K H p xs/\xV xs i=!v/\Q v H
def Iu:R2:=λx y H Q=>∃z i c,x=.str z/\y=.int i/\z.length<=sizeLine/\xV z.cps.toList i=!c/\Q (.str #[([c].toArray)]) H
theorem xW:IxR X (fj X.K):=by
 intro f g a s k H x y v u Q I B F h m;let#[p,xs,i,z,rfl,rfl,D,G,q]:=h;cases B;let#[t,rfl]:=F;let#[e,r,pl,hz]:=I.list D;let#[j,b,E,L,C,A]:=qm G;let#[w,l,d]:=r.get E;have o:=r.length;have J:=mH;have fin:EP X a k Q w s:=#[z,H,I,d,q];by_cases n:0<=i
 .have c:i.toNat=j:=by rw[seqIndex_of n A]at b;show Ô b
  show item_listR pl.isList n () (by rw[c];simpa using l) fin m
 .have c:(i+(e.toArray.size:Int)).toNat=j:=by rw[seqIndex_neg () C]at b;rw[Î,<-o];show Ô b
  show subscriptTail_builtinR (x:=w) pl.isList.typeIs slot_list_getitem.lookup (wpAny_getItem_list_neg (Q:=λr s'=>r=w/\EP X a k Q r s') pl.isList () (by rw[Î]<;>rfl') () (by rw[c];simpa using l) #[rfl,fin]) m
theorem Bk:IxR X (aO X.K):=by
 intro c d a s e H x y v u Q I k A h l;let#[p,xs,i,z,rfl,rfl,m,C,q]:=h;cases k;let#[t,rfl]:=A;let#[B,r,pl,hz]:=I.tuple m;let#[j,n,o,G,E,D]:=qm C;let#[w,f,b]:=r.get o;have g:=r.length;have F:=mH;have fin:EP X a e Q w s:=#[z,H,I,b,q];show subscriptTail_builtinR (x:=w) pl.typeIs slot_tuple_getitem.lookup (getItem_tuple (j:=j) (Q:=λr s'=>r=w/\EP X a e Q r s') pl () () (by rw[Î,<-g];show n) (by simpa using f) #[rfl,fin]) l
theorem Bo:IxR X Iu:=by
 intro a b d s A H x y v u Q I k r h m;let#[z,i,c,rfl,rfl,hz,w,q]:=h;let#[t,rfl]:=k;let#[t',rfl]:=r;let#[j,e,p,C,n,g]:=qm w;have f:z.cps.toList.length=z.length:=by simp[Str.length]
 rw[f]at e n g;have B:=mH;show tail_any (typeIs_str s z t) slot_str_getitem.lookup (getItem_str (c:=c) (by have o:decide (i< -(2^63:Int))=false:=È ();have l:decide (i>=2^63)=false:=È ();rw[o,l,Bool.or_false]) (by rw[e];simpa using p) #[.str #[([c].toArray)],H,I.tok _,#[_,rfl],q]) m
def T9 (K:W.Frag):R2:=λx y H Q=>fj K x y H Q\/aO K x y H Q\/Iu x y H Q
theorem N6:IxR X (T9 X.K):=xW.or (Bk.or Bo)
theorem qp (lo hi:Option Int) (n:Nat):(sliceBounds lo hi none n).1=((HT.dJ n 0 lo:Nat):Int)/\(sliceBounds lo hi none n).2.1=((HT.dJ n n hi:Nat):Int)/\(sliceBounds lo hi none n).2.2=1:=by
 show#[?_,?_,rfl];.cases lo with|none=>simp[sliceBounds,HT.dJ]|some i=>
   simp only[sliceBounds,HT.dJ,Option.getD_none,show(1:Int)>0 by decide,Ģ];by_cases h:i<0;.simp only[h,Ģ]<;>rfl'
   .simp only[h,ă]<;>rfl'
 .cases hi with
  |none=>simp[sliceBounds,HT.dJ]|some i=>
   simp only[sliceBounds,HT.dJ,Option.getD_none,show(1:Int)>0 by decide,Ģ];by_cases h:i<0;.simp only[h,Ģ]<;>rfl'
   .simp only[h,ă]<;>rfl'
theorem oM (a:List Value) (lo hi:Option Int):slicePick a.toArray lo hi none=((a.drop (HT.dJ a.length 0 lo)).take (HT.dJ a.length a.length hi-HT.dJ a.length 0 lo)).toArray:=by let#[b,c,d]:=qp lo hi a.toArray.size;unfold slicePick;rw[b,c,d];simp only[sliceRange_one,pick_run,Î]<;>rfl
def Bp (K:W.Frag):V->Option Int->Option Int->Hp->VK->Prop:=λx lo hi H Q=>∃a xs,x=.ref a/\SqL K H a xs/\∀p,H p=none->Q (.ref p) (upd H p (.lst (fM xs lo hi)))
theorem Iv:KJ X (Bp X.K):=by
 intro e s l H x v n m lo hi p Q I f g pl j h;let#[a,xs,rfl,i,q]:=h;cases f;let#[k,r,d,hz]:=I.list i;have c:=r.length;show#["list",_,slot_list_getitem.lookup,d.isList.typeIs,?_];show wpAny_getItem_list_slice d.isList g pl j .none (by simp) ?_ (by rw[Î]<;>rfl');rw[oM,<-c];show#[.ref s.heap.objs.size,_,I.laid (t':=s.toks) (o:=.lst (fM xs lo hi)) (λb ob q=>Yf _ q) (Ã _) ?_,rfl,q _ (I.hok.fresh (Ã _))];show#[Nat.le_trans (lG xs lo hi) hz,_,0,(r.drop (HT.dJ xs.length 0 lo)).take (HT.dJ xs.length xs.length hi-HT.dJ xs.length 0 lo),Ë _ rfl]
noncomputable def fG:V->Bool
 |.non=>true|.bl _=>true|.int _=>true
 |.str _=>true|_=>false
noncomputable def Ah:V->V->Bool
 |.non,.non=>true|.bl a,.bl b=>a==b
 |.bl a,.int b=>(if a then 1 else 0)==b|.int a,.bl b=>a==(if b then 1 else 0)|.int a,.int b=>a==b|.str a,.str b=>a==b|_,_=>false
theorem N7 {s:Shared} (e:RelV y u) (c:RelV x v) (f:fG y=true) (d:fG x=true):SeqAt.EqAt A s u v (Ah y x):=by cases y with
 |non=>cases e;cases x with
  |non=>cases c;show SeqAt.EqAt.same _|bl b=>cases c;show SeqAt.EqAt.none_bool b|int b=>let#[t,rfl]:=c;show SeqAt.EqAt.none_int b t|str b=>let#[t,rfl]:=c;show SeqAt.EqAt.none_str b t|_=>show absurd (show false=true from d) Ê
 |bl a=>
  cases e;cases x with|non=>cases c;show SeqAt.EqAt.bool_none a|bl b=>cases c;show SeqAt.EqAt.bool_bool a b|int b=>let#[t,rfl]:=c;show SeqAt.EqAt.bool_int a b t|str b=>let#[t,rfl]:=c;show SeqAt.EqAt.bool_str a b t|_=>show absurd (show false=true from d) Ê
 |int a=>
  let#[t',rfl]:=e;cases x with
  |non=>cases c;show SeqAt.EqAt.int_none a t'|bl b=>cases c;show SeqAt.EqAt.int_bool a t' b|int b=>let#[t,rfl]:=c;show SeqAt.EqAt.int_int a t' b t|str b=>let#[t,rfl]:=c;show SeqAt.EqAt.int_str a t' b t|_=>show absurd (show false=true from d) Ê
 |str a=>
  let#[t',rfl]:=e;cases x with
  |non=>cases c;show SeqAt.EqAt.str_none a t'|bl b=>cases c;show SeqAt.EqAt.str_bool a t' b|int b=>let#[t,rfl]:=c;show SeqAt.EqAt.str_int a t' b t|str b=>let#[t,rfl]:=c;show SeqAt.EqAt.str_str a t' b t|_=>show absurd (show false=true from d) Ê
 |_=>show absurd (show false=true from f) Ê
noncomputable def uV (x:V) (u:Value):Bool:=match u with
 |.none=>Ah .non x|.bool b=>Ah (.bl b) x|.int i _=>Ah (.int i) x|.str z _=>Ah (.str z) x|_=>false
theorem Br (r:RelV y u) (f:fG y=true):uV x u=Ah y x:=by cases y with
 |non=>cases r;rfl|bl b=>cases r;rfl|int i=>let#[t,rfl]:=r;rfl|str z=>let#[t,rfl]:=r;rfl|_=>show absurd (show false=true from f) Ê
theorem jL {x:V}:∀{xs:List V} {us:List Value},Vals xs us->xs.all fG=true->us.any (uV x)=xs.any λy=>Ah y x
 |_,_,.nil,_=>rfl|y::xs,u::us,.cons r t,f=>by rw[List.all_cons,Ą]at f;rw[ţ,ţ,Br r f.1,jL t f.2]
theorem iW {A:Around} {s:Shared} {x:V} {v:Value} (c:RelV x v) (b:fG x=true):∀{xs:List V} {us:List Value},Vals xs us->xs.all fG=true->∀u∈us,SeqAt.EqAt A s u v (uV x u)
 |_,_,.nil,_=>λu a=>by cases a|y::xs,u::us,.cons r t,f=>λd a=>by
  rw[List.all_cons,Ą]at f;rcases Å.mp a with rfl|a;.rw [Br r f.1];show N7 r c f.1 b
  .show iW c b t f.2 d a
noncomputable def inV (x:V) (xs:List V):Bool:=xs.any λy=>Ah y x
def xX (K:W.Frag) (neg:Bool):R2:=λx y H Q=>∃p xs,y=.ref p/\(SqL K H p xs\/SqT K H p xs)/\fG x=true/\xs.all fG=true/\Q (.bl (if neg then not (inV x xs)else inV x xs)) H
theorem zj:gW X (compareOp .In) (xX X.K false):=by
 intro f s i H x y v u Q I e g h;let#[p,xs,rfl,b,d,fs,q]:=h;cases g;rcases b with b|b;.obtain ⟨a,r,pl,hz⟩:=I.list b;show SeqAt.in_listAt (uV x) pl.isList (λw c=>iW e d r fs w (by simpa using c)) #[.bl _,H,I,rfl,?_];rw[show a.toArray.any (uV x)=a.any (uV x)by simp,jL r fs];show q
 .obtain ⟨a,r,pl,hz⟩:=I.tuple b;show SeqAt.in_tupleAt (uV x) pl (λw c=>iW e d r fs w (by simpa using c)) #[.bl _,H,I,rfl,?_];rw[show a.toArray.any (uV x)=a.any (uV x)by simp,jL r fs];show q
theorem qt:gW X (compareOp .NotIn) (xX X.K true):=by
 intro f s i H x y v u Q I e g h;let#[p,xs,rfl,b,d,fs,q]:=h;cases g;rcases b with b|b;.obtain ⟨a,r,pl,hz⟩:=I.list b;show SeqAt.notIn_listAt (uV x) pl.isList (λw c=>iW e d r fs w (by simpa using c)) #[.bl _,H,I,rfl,?_];rw[show a.toArray.any (uV x)=a.any (uV x)by simp,jL r fs];show q
 .obtain ⟨a,r,pl,hz⟩:=I.tuple b;show SeqAt.notIn_tupleAt (uV x) pl (λw c=>iW e d r fs w (by simpa using c)) #[.bl _,H,I,rfl,?_];rw[show a.toArray.any (uV x)=a.any (uV x)by simp,jL r fs];show q
theorem oN:bY X (.type "tuple") (λxs H Q=>∃p ys,xs=[.ref p]/\((SqL X.K H p ys/\∀l,H l=none->Q (.ref l) (upd H l (.tup ys)))\/(SqT X.K H p ys/\Q (.ref p) H))):=by
 intro a s f H xs us Q I r h;let#[p,ys,rfl,h]:=h;let#[u,rfl,j]:=vals1 r;cases j;rcases h with⟨hq,q⟩|⟨hq,q⟩
 .obtain ⟨c,d,pl,hz⟩:=I.list hq;have i:=d.length;show call_tuple_list pl.isList (λh' m=>?_) (by simp only[Î]<;>rfl');have g:Inv X a f H {s with heap:=h'}:=I.kept (t':=s.toks) m;have k:Inv X a f (upd H h'.objs.size (.tup ys)) {s with heap:=h'.push {cls:=.type "tuple",data:=.seq c.toArray}}:=g.laid (t':=s.toks) (λb o e=>Yf _ e) (Ã _) (show ObjOk X.prog X.w _ _ _ (.tup ys)from#[hz,c,d,IsTup.new _ _]);show#[.ref h'.objs.size,_,k,rfl,q _ (g.hok.fresh (Ã _))]
 .obtain ⟨c,d,pl,hz⟩:=I.tuple hq;show call_tuple_same pl #[.ref p,H,I,rfl,q]
def N8 (K:W.Frag) (T:String) (x:V) (H:Hp):Prop:=match x with
 |.str _=>T="str"|.int _=>T="int"|.ref p=>(T="list"/\∃xs,SqL K H p xs)\/(T="tuple"/\∃o,K.lookup p=!o/\o.cls=.type "tuple"/\o.dict=none)\/(T="dict"/\((∃kvs,H p=!(.dK kvs))\/∃kvs,H p=!(.dT kvs)))\/(T="set"/\∃S n,H p=!(.set S n))|_=>False
theorem Bt {h:St} {H:Hp} {s:Shared} {T:String} (I:Inv X pins h H s) (r:RelV x v) (d:N8 X.K T x H):s.TypeIs v T/\∀a,v=.ref a->∃ob,s.heap.get? a=!ob/\ob.dict=none:=by
 cases x with|str z=>
  let#[t,rfl]:=r;cases(show T="str" from d);show#[typeIs_str s z t,λ_ e=>nomatch e]|int i=>
  let#[t,rfl]:=r;cases(show T="int" from d);show#[typeIs_int s i t,λ_ e=>nomatch e]|ref p=>
  cases r;rcases d with⟨rfl,xs,hq⟩|⟨rfl,o,hk,hc,g⟩|⟨rfl,hk⟩|⟨rfl,S,n,hk⟩;.obtain ⟨j,_,pl,_⟩:=I.list hq;show#[pl.isList.typeIs,λa e=>?_];cases e;let#[o,n,e,c,g,_]:=pl;show#[o,e,g]
  .show #[#[o,I.kIn p o hk,hc],λa e=>?_];cases e;show#[o,I.kIn _ o hk,g]
  .have z:∃o,s.heap.get? p=!o/\o.ExactDict:=by
    rcases hk with⟨kvs,hk⟩|⟨kvs,hk⟩;.obtain ⟨_,_,_,_,o,_,_,e,b,_⟩:=I.hok p _ hk;show#[o,e,b]
    .obtain ⟨_,_,_,_,o,_,_,e,b,_⟩:=I.hok p _ hk;show#[o,e,b]
   let#[o,e,b]:=z;show#[#[o,e,b.1],λa f=>?_]
   cases f;show#[o,e,b.2.1]
  .obtain ⟨o,_,_,_,e,b,_⟩:=I.hok p _ hk;show#[#[o,e,b.1],λa f=>?_];cases f;show#[o,e,b.2.1]|_=>show False.elim d
def Iw (K:W.Frag) (T:String) (r:V->List V->Hp->VK->Prop) (to:TE):TE:=λσ H Q=>to σ H λx H1=>N8 K T x H1/\r x [] H1 Q
def oO (K:W.Frag) (T:String) (r:V->List V->Hp->VK->Prop) (to:TE) (t:TA):TE:=λσ H Q=>to σ H λx H1=>N8 K T x H1/\t σ H1 λxs H2=>r x xs H2 Q
variable{o e:Expr} {es:List Expr} {to:TE} {t:TA} {name:Str} {apos cpos:Pos} {T id:String} {r:V->List V->Hp->VK->Prop}
theorem Nb (t:PlainAttrs T) (d:Slot T name id) (e:typeOf (.builtin id)=pure (.type "method_descriptor")) (l:Ws X id r) (q:PE X o to)(b:attributeBase o name X.env (eval o X.env)=eval o X.env:=by rfl) (c:(apos.endLine==cpos.line)=true:=by rfl):PE X (.Call (.Attribute o name apos) [] [] cpos) (Iw X.K T r to):=by intro a s f H Q I h;show wpAny_Call_method0_late b c (bM (q a s f H _ I h) λv p ⟨x,H1,g,i,j,k⟩=>?_);let#[m,n]:=Bt g i j;show#[T,id,t,d,e,m,n,Ĕ rfl (PySem.evalArgs_none (l a p f H1 x [] v [] Q g i .nil k))]
theorem Tc (G:PlainAttrs T) (f:Slot T name id) (j:typeOf (.builtin id)=pure (.type "method_descriptor")) (u:Ws X id r) (F:PE X o to) (q:PA X (e::es) t)(c:attributeBase o name X.env (eval o X.env)=eval o X.env:=by rfl)(g:((backTo cpos (starEach (e::es) X.env)).all (λx=>not x.1)&&(backToKw cpos (keywordEach [] X.env)).all (λx=>x.1.isSome)&&decide ((e::es).length+([]:List Keyword).length+(if([]:List Keyword).isEmpty then 0 else 1)<30))=true:=by rfl)(d:(apos.endLine==cpos.line)=true:=by rfl) (y:starEach (e::es) X.env=(false,eval e X.env)::starEach es X.env:=by rfl) (b:(backTo cpos (starEach es X.env)).any (·.1)=false:=by rfl):PE X (.Call (.Attribute o name apos) (e::es) [] cpos) (oO X.K T r to t):=by intro a s i H Q I h;show wpAny_Call_method_late c g d rfl (bM (F a s i H _ I h) λv E ⟨x,H1,l,m,n,p⟩=>?_);let#[C,D]:=Bt l m n;show#[T,id,G,f,j,C,D,?_];have k:=q cpos a E i H1 _ l p;rw[y]at k⊢;show Ĕ (by change(false||(backTo cpos (starEach es X.env)).any (·.1))=false;rw[b]<;>rfl) (ō ?_);show bM k λus z ⟨vs,H2,B,w,A⟩=>u a z i H2 x vs v us Q B m w A
end
def S8 (X:Cx) (id:String) (r:V->List V->Hp->VK->Prop):Prop:=∀(pins:List (Addr×Obj)) (s:Shared) (σ:St) (H:Hp) (x:V) (xs:List V) (v:Value) (us:List Value) (Q:VK),Inv X pins σ H s->RelV x v->Vals xs us->r x xs H Q->wpAny (model X.prog X.w) X.A (call (.builtin id) (v::us)) (EP X pins σ Q) X.xe s
theorem Vals.one:∀{x:V} {us:List Value},Vals [x] us->∃u,us=[u]/\RelV x u|_,_,.cons r .nil=>#[_,rfl,r]
theorem Vals.two:∀{x y:V} {us:List Value},Vals [x,y] us->∃u v,us=[u,v]/\RelV x u/\RelV y v|_,_,_,.cons r (.cons q .nil)=>#[_,_,rfl,r,q]
theorem Vals.zero:∀{us:List Value},Vals [] us->us=[]|_,.nil=>rfl
theorem Vals.dropLast (h:Vals xs us):Vals xs.dropLast us.dropLast:=by induction h with
 |nil=>show .nil|cons r t ih=>cases t with
  |nil=>show .nil|cons q t'=>show .cons r ih
theorem Vals.eraseIdx:∀{xs:List V} {us:List Value} (i:Nat),Vals xs us->Vals (xs.eraseIdx i) (us.eraseIdx i)
 |_,_,_,.nil=>.nil|_,_,0,.cons _ t=>t|_,_,i+1,.cons r t=>.cons r (Vals.eraseIdx i t)
theorem uW {c:Type} (l:List c):l.eraseIdx (l.length-1)=l.dropLast:=by induction l with
 |nil=>rfl|cons a r ih=>cases r with
  |nil=>rfl|cons b r=>
   have e:(a::b::r).length-1=((b::r).length-1)+1:=by have d:(a::b::r).length=r.length+2:=rfl;have f:(b::r).length=r.length+1:=rfl;rfl'
   rw[e,List.eraseIdx_cons_succ,ih];all_goals rfl
theorem pA {a:Type}:∀(l:List a) (i:Nat),(l.eraseIdx i).length<=l.length
 |[],_=>Ã _|_::_,0=>Ū _|_::r,i+1=>Ŕ (pA r i)
section
variable{X:Cx} {pins:List (Addr×Obj)} {σ:St} {H:Hp} {s:Shared} {l b:Addr} {xs ys zs:List V}
theorem Inv.lset {its':List Value} (I:Inv X pins σ H s) (d:H l=!(.lst xs))(e:s.heap.get? l=!{cls:=.type "list",data:=.seq its.toArray n}) (c:f its.toArray=its'.toArray) (a:Vals ys its') (hz:ys.length<=sizeLine):Inv X pins σ (upd H l (.lst ys)) {s with heap:=s.heap.update l (Obj.mapSeq f),toks:=t'}:=by have q:=PySem.IsL.update e f;rw[c]at q;show I.write (x:=l) (e:=l) (by rw[d];show trivial) (.inl rfl) (λh u b g=>(ś s.heap (Obj.mapSeq f) (Ne.symm b)).trans g) #[_,q] ?_;show#[hz,its',_,a,q]
theorem Inv.lnew (I:Inv X pins σ H s) (a:Vals ys its) (hz:ys.length<=sizeLine):Inv X pins σ (upd H s.heap.objs.size (.lst ys)) {s with heap:=s.heap.push {cls:=.type "list",data:=.seq its.toArray},toks:=t'}:=I.laid (λ_ _ q=>Yf _ q) (Ã _) #[hz,its,0,a,Ë _ rfl]
theorem Inv.fresh (I:Inv X pins σ H s):H s.heap.objs.size=none:=I.hok.fresh (Ã _)
theorem Inv.lstM (I:Inv X pins σ H s) (a:H l=!(.lst xs)):xs.length<=sizeLine/\∃(its:List Value) (n:Nat),Vals xs its/\xs.length=its.length/\s.heap.get? l=!{cls:=.type "list",data:=.seq its.toArray n}:=by let#[z,its,n,r,e]:=I.hok l _ a;show#[z,its,n,r,r.length,e]
theorem sI (h:n<=sizeLine):Builtin.List.listTooLong n=false:=by unfold Builtin.List.listTooLong;show È ()
end
section
variable{X:Cx}
def cA:V->List V->Hp->VK->Prop:=λx vs H Q=>∃l xs y,x=.ref l/\vs=[y]/\H l=!(.lst xs)/\xs.length<sizeLine/\Q .non (upd H l (.lst (xs++[y])))
theorem zm:S8 X "list.append" cA:=by
 intro b s g H x vs v us Q I d rv h;let#[l,xs,y,rfl,rfl,c,hz,q]:=h;cases d;let#[u,rfl,f]:=rv.one;let#[z,a,n,r,i,e]:=I.lstM c;show call_meets F.slot_list_append #[_,e,rfl] F.entry_list_append (F.args_list_append_2 _ _) (PySem.list_append l a.toArray n u (by rw[Î];rfl')) #[e,?_];show#[.non,_,I.lset (its':=a++[u]) c e (by simp) (r.append (.cons f .nil)) ?_,rfl,q];rw[À,Õ];rfl'
def qu:V->List V->Hp->VK->Prop:=λx vs H Q=>∃l b xs zs,x=.ref l/\vs=[.ref b]/\H l=!(.lst xs)/\H b=!(.lst zs)/\xs.length+zs.length<=sizeLine/\Q .non (upd H l (.lst (xs++zs)))
theorem zp:S8 X "list.extend" qu:=by
 intro f s w H x vs v us Q I m rv h;let#[l,b,xs,zs,rfl,rfl,g,t,hz,q]:=h;cases m;let#[u,rfl,p]:=rv.one;cases p;let#[z,c,n,r,y,e]:=I.lstM g;let#[A,a,j,k,i,o]:=I.lstM t;have hsz:c.toArray.size+a.toArray.size<=sizeLine:=by rw[Î,Î];rfl'
 have d:¬(not c.toArray.isEmpty&&Builtin.List.listTooLong (c.toArray.size+a.toArray.size))=true:=by rw[sI hsz,Bool.and_false];show Ê
 show call_meets F.slot_list_extend #[_,e,rfl] F.entry_list_extend (F.args_list_extend_2 _ _)
  (AutoSeq1.list_extend_list_list_0 l c.toArray n b a.toArray j d (by rw[Î];rfl') ()) #[e,o,?_];show#[.non,_,I.lset (its':=c++a) g e (by simp) (r.append k) ?_,rfl,q];rw[À];rfl'
def Nf:V->List V->Hp->VK->Prop:=λx vs H Q=>∃l xs y,x=.ref l/\vs=[]/\H l=!(.lst xs)/\xs[xs.length-1]?=!y/\Q y (upd H l (.lst xs.dropLast))
theorem Ng:S8 X "list.pop" Nf:=by
 intro d s o H x vs v us Q I i rv h;let#[l,xs,y,rfl,rfl,f,k,q]:=h;cases i;have b:=rv.zero;subst b;let#[z,a,n,r,g,e]:=I.lstM f;let#[u,m,j]:=r.get k;have c:a.toArray[a.toArray.size-1]?=!u:=by change a.toArray[a.length-1]?=!u;rw[<-î,<-g];show m
 show call_meets F.slot_list_pop #[_,e,rfl] F.entry_list_pop (F.args_list_pop_1 _) (MeetsSeq.list_pop_last l a.toArray n u c (by rw[Î];rfl')) #[e,?_];show#[y,_,I.lset (its':=a.dropLast) f e ?_ r.dropLast ?_,j,q];.show a.toArray.eraseIdxIfInBounds (a.toArray.size-1)=a.dropLast.toArray;rw[Î,List.eraseIdxIfInBounds_toArray,uW]
 .rw [List.length_dropLast];rfl'
def uX:V->List V->Hp->VK->Prop:=λx vs H Q=>∃l xs i k y,x=.ref l/\vs=[.int i]/\H l=!(.lst xs)/\-(2^63)<=i/\i<2^63/\seqIndex? i xs.length=!k/\xs[k]?=!y/\Q y (upd H l (.lst (xs.eraseIdx k)))
theorem Bu:S8 X "list.pop" uX:=by
 intro c s C H x vs v us Q I j rv h;let#[l,xs,i,k,y,rfl,rfl,d,A,B,o,p,q]:=h;cases j;let#[u,rfl,m]:=rv.one;let#[t,rfl]:=m;let#[z,a,n,r,g,e]:=I.lstM d;let#[w,f,b]:=r.get p;show call_meets F.slot_list_pop #[_,e,rfl] F.entry_list_pop (F.args_list_pop_2 _ _)
  (MeetsSeq.list_pop_at l a.toArray n i t k w (fitsIndex_both A B) (by rw[Î,<-g];show o) (by rw[<-î];show f) (by rw[Î];rfl')) #[e,?_];show#[y,_,I.lset (its':=a.eraseIdx k) d e ?_ (r.eraseIdx k) ?_,b,q];.show a.toArray.eraseIdxIfInBounds k=(a.eraseIdx k).toArray;rw[List.eraseIdxIfInBounds_toArray]
 .have:=pA xs k;rfl'
def Td:R2:=λx y H Q=>∃l b xs zs,x=.ref l/\y=.ref b/\H l=!(.lst xs)/\H b=!(.lst zs)/\xs.length+zs.length<=sizeLine/\∀p,H p=none->Q (.ref p) (upd H p (.lst (xs++zs)))
theorem Nh:gW X (binaryOp .Add) Td:=by
 intro d s t H x y v u Q I j o h;let#[l,b,xs,zs,rfl,rfl,p,m,hz,q]:=h;cases j;cases o;let#[z,c,n,r,w,e]:=I.lstM p;let#[A,a,B,i,g,k]:=I.lstM m;show PySem.P.add_list e k ?_ (by rw[Î,Î];rfl');have f:c.toArray++a.toArray=(c++a).toArray:=by simp
 rw[f];show#[.ref _,_,I.lnew (t':=s.toks) (r.append i) (by rw[À];rfl'),rfl,q _ I.fresh]
end
end L2
namespace Att
open PySem PySem.W PySem.Calls PyProof.Rows
variable{args:List WData} {vals:List Value}
theorem lK {P:Params} {h:Heap}:∀(ns:List Int) (vs:List Value),WellAll P h vs (ns.map WData.int)->IntsAre vs ns:=by intro ns;induction ns with
 |nil=>
  intro vs w;rw[û]at w;cases w;show .nil|cons n ns ih=>intro vs w;rw[Ä]at w;cases w with|cons a b=>cases a;show .cons _ _ (ih _ b)
theorem zq {l:OpenLaw} {n:Nat} (m:l.most=!n) {P:Params} {h:Heap}(b:l.row.toRowW.claim.pre args=true) (i:WellAll P h vals args):∃a vs ns,vals=[Value.ref a]/\args=[WData.list (ns.map WData.int)]/\h.get? a=!{cls:=.type "list",data:=.seq vs.toArray}/\IntsAre vs ns/\ns.length<=n:=by
 have g:WShape.hasAll [] args [.list .int]=true:=(pre_splitW b).1;have j:l.pre.holds [] {args:=args}=true:=(pre_splitW b).2;let#[d,r,rfl,o,p]:=hasAllW_cons g;obtain rfl:=hasAllW_nil p;let#[xs,rfl,s]:=hasW_list o;let#[ns,rfl]:=items_int s;have c:ns.length<=n:=by
  unfold OpenLaw.pre at j;have f:(WTm.not (.lt (.lit (.int (n:Int))) (.len (.arg 0)))).holds [] {args:=[.list (ns.map .int)] }=true:=by have f:=(holds_andW j).1;rw[m]at f;show f
  have e:=condW_of f (w_not (w_lt w_lit (w_len_list (w_arg rfl))));rw[Qb]at e;show Nat.le_of_not_lt λq=>?_
  have k:(n:Int)<((ns.length:Nat):Int):=();first
   |(rw[Ö k]at e;show absurd e (by decide))|(simp at e;rfl')
 cases i with|cons w1 w2=>
  cases w2;cases w1 with|list ho hall=>show#[_,_,ns,rfl,rfl,ho,lK ns _ hall,c]
theorem zr (l:OpenLaw) (args:List WData):l.row.toRowW.claim.post args (.bool true) args=true:=postW_of (r:=l.row.toRowW) (X:=(true==true))
  (show WShape.has [] (.bool true) .bool=true by first|rfl| decide | simp[WShape.has,WShape.arms,WShape.armsAll])
  (show(WTm.eq .res (.lit (.bool true))).value [] {args:=args,res:=!(.bool true),after:=args}=!(.bool (true==true))from w_eq_bool (w_res rfl) w_lit) rfl
section
variable{prog:Program} {w:World} {A:Around} {E:Value->Shared->Prop} {s:Shared} {K:Frag}
noncomputable def ledger (h:Heap) (L d:Addr):List (Addr×Obj):=(List.range h.objs.size).filterMap λa=>if a=L\/a=d then none else(h.get? a).map λo=>(a,o)
end
end Att
namespace L2
open PySem PySem.Spec PyProof.Rows
variable{y:V} {σ:St} {sp:Sp} {H H':Hp} {h':Heap} {pos:Pos} {st:Stmt} {w:World} {A:Around} {id:String} {s₁:Shared} {a b f:Addr} {qual x:Str} {fd:FuncData} {prog:Program} {d' oc u:Value} {an:Option Addr} {trs:List (TE×TE)} {values:List Expr} {pins:List (Addr×Obj)} {kvs:List (List Key×V)} {E Q:Value->Shared->Prop} {osl:Array (Option Value)} {keys ks:List (Option Expr)} {xs:List (List Key×Addr×Value)}
theorem kJ:∀{vs:List Value} {ns:List Int},IntsAre vs ns->Vals (ns.map V.int) vs
 |_,_,.nil=>.nil|_,_,.cons n t h=>.cons #[t,rfl] (kJ h)
def Only (H:Hp):Prop:=∀b,H b=none\/∃o xs,H b=!(.frz o (.lst xs))
theorem Bv {P:Program} {K:W.Frag} {y J:Str->Option Value} {CX:Ag} {k:Nat} {N:Addr} {vs:List Value} {ns:List Int}(T:K.In s₁.heap) (A:s₁.heap.Ns mainGlobals y) (f:s₁.heap.Ns builtinsNs J) (Q:∀x:Str,x≠"__name__"->J x=bootBuiltins x) (t:s₁.heap.NoLimit) (hg:s₁.gens=([].toArray))(I:s₁.heap.get? a=!{cls:=.type "list",data:=.seq vs.toArray}) (hi:IntsAre vs ns) (S:ns.length<=sizeLine) (Z:Room k callerA)(F:∀base:Heap,K.In base->base.Ns mainGlobals y->FnOk P w K y base CX k N fd [x] sp) (j:∀(s:Shared) (u:Value),BindsTo s fd #[[u],[]] [(x,u)])(M:∀H:Hp,Only H->SqL K H a (ns.map V.int)->sp [.ref a] H (λv _=>v=.bl true) λ_ _ _=>False)(L:∀H e s',CX [] H s₁ (λ_ _ _=>False) e s'->False):codeAny (model P w) callerA (.call (.ref N) #[[.ref a],[]]) (λr s'=>r=.ok (.ret (.bool true))/\OldK s₁.heap s'.heap/\s'.os=s₁.os/\AllBare s'.gens) s₁:=by
 have rv:=kJ hi;have G:=hi.length;have i:∀H:Hp,Only H->SqL K H a (ns.map V.int)->HOk P w H s₁.heap-> (∀b,H b ≠ none->b=a)-> (H a ≠ none->K.lookup a=none)->codeAny (model P w) callerA (.call (.ref N) #[[.ref a],[]]) (λr s'=>r=.ok (.ret (.bool true))/\OldK s₁.heap s'.heap/\s'.os=s₁.os/\AllBare s'.gens) s₁:=by
  intro H U hS D Y hK;have c:∀{b:Addr} {o:Obj},s₁.heap.get? b=!o->H b=none->(qi s₁.heap H).get? b=!o:=λe n=>Ak e n;have O:∀{b:Addr} {o:Obj} {es:Array DictEntry} {p:Nat},s₁.heap.get? b=!o->o.data=.dict es p->H b=none:=λ{b o es p} e d=>by cases q:H b with|none=>rfl|some u=>
    have R:b=a:=Y b (by rw[q];simp);subst R;rw[I]at e;cases e;have d':Data.seq vs.toArray _=Data.dict es p:=d;cases d'
  have g:∀{b:Addr} {m:Str->Option Value},s₁.heap.Ns b m->(qi s₁.heap H).Ns b m:=λ{b m} ⟨o,es,p,e,d,r⟩=>#[o,es,p,c e (O e d),d,r];have E:K.In (qi s₁.heap H):=λb o e=>c (T b o e) (by cases q:H b with|none=>rfl|some u=>have R:b=a:=Y b (by rw[q];simp);subst R;rw[hK (by rw[q];simp)]at e;cases e);have hM:Mod K y (qi s₁.heap H):=#[E,g A,#[J,g f,Q],let⟨mc,h1,h2⟩:=t;#[mc,g h1,h2]];have e0:Env0 P w K y (qi s₁.heap H) callerA [] s₁ H:=#[rfl,hM,λb o e=>HY e,Nat.le_of_eq (yW _ _),trivial,λb f=>absurd (show b∈([]:List Addr)from f) (by simp),D,.of_eq hg];show codeAny_mono ((F _ E (g A)).run callerA [] s₁ H #[[.ref a],[]] [.ref a] [.ref a] _ _ Z e0 (j s₁ (.ref a)) (.cons rfl .nil) (M H U hS)) λr s' h=>?_;cases r with
  |error e=>show(L H e s' h).elim|ok fl=>cases fl with|next=>show False.elim h|brk=>show False.elim h|cont=>show False.elim h|ret u=>
    let#[v,H',os,B,un,C,r',q]:=h;have q':v=.bl true:=q;subst q';obtain rfl:u=Value.bool true:=r';show#[rfl,OldK.of_keep λb o e=>?_,os,B];cases q:H b with|none=>show un.keep b o e q (by intro z;show absurd (show b∈([]:List Addr)from z) (by simp)) (by simp)|some u=>
     rcases U b with z|⟨ob,xs,z⟩;.rw [q]at z;cases z
     .have z2:=un.frzs b ob _ z;let#[X,_]:=D b _ z;let#[e2,_]:=C b _ z2;rw[e]at X;cases X;show e2
 cases hk:K.lookup a with|some o=>
  have e:=T a o hk;rw[I]at e;cases e;show i (λ_=>none) (λ_=>.inl rfl) (.inr #[_,vs.toArray,_,hk,rfl,rfl,rfl,by rw[Î,G];show S,by simpa using rv]) (λb u z=>by have l:(none:Option HO)=!u:=z;cases l) (λb z=>absurd rfl z) λz=>absurd rfl z|none=>
  show i (λb=>if b=a then !(.frz {cls:=.type "list",data:=.seq vs.toArray} (.lst (ns.map V.int)))else none) (λb=>?_) (.inl (.inr #[{cls:=.type "list",data:=.seq vs.toArray},if_pos rfl])) (λb u z=>?_) (λb z=>?_) λ_=>hk
  .by_cases f:b=a;.show .inr #[_,_,if_pos f]
   .show .inl (if_neg f)
  .by_cases f:b=a;.have l:=(if_pos f).symm.trans z;cases l;subst f;show#[I,by rw[Qb];show S,vs,_,rv,I]
   .have l:=(if_neg f).symm.trans z;cases l
  .by_cases f:b=a;.show f
   .show absurd (if_neg f) z
abbrev KOf {K:W.Frag} {h:Heap} (_:K.In h):W.Frag:=K
abbrev KN:Ag:=λ_ _ _ _ _ _=>False
abbrev E0:XK:=λ_ _ _=>False
theorem Te {X:Cx}:uQ KN X E0:=λ_ _ _ _ _ _ _ h=>h.elim
structure Fun (K:W.Frag) (x qual:Str) (st:Stmt) (f:Addr) (fd:FuncData):Prop where
 ex:∃(oc:Value) (od:Option Addr) (kV doc pm:Value) (an:Option Addr) (cdv ct:Value) (osl:Array (Option Value)),fd=W.fnOf x qual (fJ st) (eN st) (aC st) .none kV doc pm an cdv ct/\K.lookup f=!#[oc,od,.func fd,osl]/\W.codeIn K cdv qual=true
 kp:W.keepIn K (.ref f)=true
section
variable{P:Program} {w:World} {K:W.Frag} {mg:Str->Option Value} {base:Heap}
theorem Fun.ok {N ps:List Str} {k:Nat} (F:Fun K x qual st f fd) (S:FnScope N ps (aC st)) (c:∀vs H Q E,sp vs H Q E->vs.length=ps.length)(b:∀(a:Value) (A:Around) (outer:List Env) (s:Shared) (H:Hp) (vs:List V) (Q:VK) (E:XK),Room k (A.deeper (envOfC qual (aC st) s.heap.objs.size f a))->sp vs H Q E->∃t,PSs (zf KN P w K mg base N qual (aC st) f a A outer s H E).nox (eN st) t/\t {nx:=λ_ H'=>Q .non H',rt:=Q} (start N vs) H):FnOk P w K mg base KN (k+1) f fd ps sp:=by let#[o,n,kV,i,l,m,a,ct,j,rfl,lk,d]:=F.ex;show T7 lk d S c λA outer s H vs Q E g e=>?_;let#[t,h,q]:=b a A outer s H vs Q E g e;show#[t,h.nox,q]
theorem Fun.binds {ps:List Str} (F:Fun K x qual st f fd)(h:∀(kV a c:Value) (an:Option Addr) (b ct:Value) (us:List Value),us.length=ps.length->bindArgs (W.fnOf x qual (fJ st) (eN st) (aC st) .none kV a c an b ct) #[us,[]]=pure (ps.zip us)):Binds K fd ps []:=by let#[i,g,kV,a,c,an,b,ct,d,rfl,lk,e]:=F.ex;show .all (h kV a c an b ct)
theorem uY {e:Option Addr} {kV b d a ct:Value} (l:K.lookup f=!#[oc,e,.func (W.fnOf x qual (fJ st) (eN st) (aC st) .none kV b d an a ct),osl])(c:W.codeIn K a qual=true) (k:W.keepIn K (.ref f)=true):Fun K x qual st f (W.fnOf x qual (fJ st) (eN st) (aC st) .none kV b d an a ct):=#[#[oc,e,kV,b,d,an,a,ct,osl,rfl,l,c],k]
end
theorem cJ {k:Nat} (a:Room k A):A.units+1<cLine:=Ù (Ų (by decide:1<=64) _) a.units
theorem zu {n:Nat} (h:n<=1000):n<sizeLine:=Ù h (by decide)
section
variable{X:Cx}
theorem pv (i:Nat) {x:Str} {pos:Pos} (b:X.N[i]?=!x:=by rfl) (d:Wr X.env.scope x:=by first|show Or.inl rfl|show Or.inr (Or.inl rfl)|show Or.inr (Or.inr rfl)) (c:(x==("__debug__":Str))=false:=by decide)(a:(x==("__classdict__":Str))=false:=by decide):PE X (.Name x pos) (aa i):=M9 b d c a
end
theorem Bw {A B:Prop} (h:B):if false=true then A else B:=by rw[if_neg Ê];show h
theorem By {A B:Prop} (h:A):if true=true then A else B:=by rw[if_pos rfl];show h
def Same (H H':Hp):Prop:=∀b o,H b=!o->H' b=!o
theorem Same.refl (H:Hp):Same H H:=λ_ _ h=>h
theorem Same.trans {H1 H2:Hp} (a:Same H H1) (b:Same H1 H2):Same H H2:=λc o h=>b c o (a c o h)
theorem Same.free (e:Same H H') {l:Addr} (h:H' l=Option.none):H l=Option.none:=by cases q:H l with|none=>rfl|some o=>
  rw[e l o q]at h;cases h
theorem Same.seq {K:W.Frag} {xs:List V} (e:Same H H') (h:SqL K H a xs):SqL K H' a xs:=by
 rcases h with(h|⟨o,h⟩)|h;.show .inl (.inl (e _ _ h))
 .show .inl (.inr #[o,e _ _ h])
 .show .inr h
section
variable{κ:Type} [DecidableEq κ]
noncomputable def bQ (kvs:List (κ×V)) (k:κ):Option V:=(kvs.find? λkv=>decide (kv.1=k)).map (·.2)
noncomputable def putK (kvs:List (κ×V)) (k:κ) (v:V):List (κ×V):=
 if(kvs.any λkv=>decide (kv.1=k))=true then kvs.map (λkv=>if kv.1=k then(kv.1,v)else kv)else kvs++[(k,v)]
noncomputable def dH (kvs:List (κ×V)) (k:κ):List (κ×V):=kvs.filter λkv=>decide (kv.1≠k)
theorem cP {p:κ×V} {r:List (κ×V)} {k:κ} (e:p.1=k):bQ (p::r) k=!p.2:=by simp[bQ,Ĝ,e]
theorem cB {p:κ×V} {r:List (κ×V)} {k:κ} (e:¬p.1=k):bQ (p::r) k=bQ r k:=by simp[bQ,Ĝ,e]
theorem mO (k:κ):∀kvs:List (κ×V),(kvs.any λa=>decide (a.1=k))=(bQ kvs k).isSome
 |[]=>rfl|p::r=>by
  rw[ţ];by_cases e:p.1=k;.simp only[cP e,Ö e,Bool.true_or,Option.isSome_some]
  .rw [cB e,È e,Bool.false_or];show mO k r
theorem pB (k j:κ) (y:V):∀kvs:List (κ×V),bQ kvs k=none->bQ (kvs++[(k,y)]) j=if j=k then !y else bQ kvs j
 |[],_=>by
  by_cases e:k=j;.rw [if_pos e.symm];show cP (p:=(k,y)) e
  .rw [if_neg (λz=>e z.symm)];show cB (p:=(k,y)) e|p::r,hn=>by
  rw[ŕ];have a:¬p.1=k:=λz=>by rw[cP z]at hn;cases hn
  rw[cB a]at hn;have b:=pB k j y r hn;by_cases e:p.1=j;.rw [cP e,cP e,if_neg (λz=>a (e.trans z))]
  .rw [cB e,cB e,b]
theorem iY (kvs:List (κ×V)) (k:κ) (v:V):(putK kvs k v).length<=kvs.length+1:=by
 unfold putK;split;.rw [Qb];rfl'
 .rw [À,é,ş];rfl'
theorem j0 {kvs:List (κ×V)} {k:κ} (v:V) (h:bQ kvs k=none):putK kvs k v=kvs++[(k,v)]:=by unfold putK;rw[mO,h];show if_neg (by decide)
theorem RelO.isSome_eq {o:Option V} {u:Option Value} (r:RelO o u):o.isSome=u.isSome:=by cases o with
 |none=>cases u with|none=>rfl|some _=>show(show False from r).elim
 |some _=>cases u with
  |none=>show(show False from r).elim|some _=>rfl
theorem RelO.getD {o:Option V} {u:Option Value} {d:V} (r:RelO o u) (a:RelV d d'):RelV (o.getD d) (u.getD d'):=by cases o with
 |none=>cases u with|none=>show a|some _=>show(show False from r).elim
 |some _=>cases u with
  |none=>show(show False from r).elim|some _=>show r
theorem KV.val {kvs:List (κ×V)} {vs:List (κ×Value)} (r:KV kvs vs) (k:κ):RelO (bQ kvs k) (valueAt vs k):=by unfold KV at r;induction r with
 |nil=>show True.intro|@cons p q ps qs h t ih=>
  let#[c,d]:=h;by_cases e:p.1=k
  .have a:q.1=k:=c.symm.trans e;have b:valueAt (q::qs) k=!q.2:=by simp[valueAt,Ĝ,a]
   rw[cP e,b];show d
  .have a:¬q.1=k:=λz=>e (c.trans z);have b:valueAt (q::qs) k=valueAt qs k:=by simp[valueAt,Ĝ,a]
   rw[cB e,b];show ih
theorem KV.any {kvs:List (κ×V)} {vs:List (κ×Value)} (r:KV kvs vs) (k:κ):(kvs.any λa=>decide (a.1=k))=vs.any λa=>decide (a.1=k):=by unfold KV at r;induction r with
 |nil=>rfl|cons h t ih=>rw[ţ,ţ,ih,h.1]
theorem KV.repl {kvs:List (κ×V)} {vs:List (κ×Value)} (r:KV kvs vs) (k:κ) (d:RelV y u):KV (kvs.map λa=>if a.1=k then(a.1,y)else a) (vs.map λa=>if a.1=k then(a.1,u)else a):=by unfold KV at r⊢;induction r with
 |nil=>show .nil|@cons p q ps qs h t ih=>
  rw[Ä,Ä];show .cons ?_ ih;let#[b,c]:=h;by_cases e:p.1=k
  .rw [if_pos e,if_pos (b.symm.trans e)];show#[b,d]
  .rw [if_neg e,if_neg (λz=>e (b.trans z))];show#[b,c]
theorem KV.put {kvs:List (κ×V)} {vs:List (κ×Value)} (r:KV kvs vs) (k:κ) (a:RelV y u):KV (putK kvs k y) (stored vs k u):=by
 unfold putK stored;rw[r.any k];by_cases e:(vs.any λb=>decide (b.1=k))=true;.rw [if_pos e,if_pos e];show r.repl k a
 .rw [if_neg e,if_neg e];show Paired.snoc r #[rfl,a]
theorem KV.length {kvs:List (κ×V)} {vs:List (κ×Value)} (r:KV kvs vs):kvs.length=vs.length:=Ċ r
theorem BJ (kvs:List (κ×V)) (k:κ):(dH kvs k).length<=kvs.length:=List.length_filter_le _ _
end
theorem pC {P:Program} {k:Key} (r:RelV (kV k) u):(bN P w).is k u=true:=by cases k with
 |inl i=>let#[t,e]:=(show∃t,u=Value.int i t from r);subst e;show rR P w i t|inr x=>let#[t,e]:=(show∃t,u=Value.str x t from r);subst e;show rT P w x t
theorem pD {P:Program} {w:World}:∀{ks:List Key} {us:List Value},Vals (ks.map kV) us->ItemsAre (bN P w) ks us
 |[],_,r=>by rw[û]at r;cases r;show .nil|k::ks,_,r=>by
  rw[Ä]at r
  cases r with|cons h t=>show .cons (pC h) (pD t)
abbrev KT (H:Hp):List (List Key×V)->List (List Key×Addr×Value)->Prop:=Paired λp q=>p.1=q.1/\H q.2.1=!(.tup (p.1.map kV))/\RelV p.2 q.2.2
theorem KT.val (r:KT H kvs xs) (k:List Key):RelO (bQ kvs k) ((atKey xs k).map (·.2)):=by induction r with
 |nil=>show True.intro|@cons p q ps qs h t ih=>
  let#[c,_,d]:=h;by_cases e:p.1=k
  .have a:q.1=k:=c.symm.trans e;have b:atKey (q::qs) k=!q.2:=by simp[atKey,Ĝ,a]
   rw[cP e,b];show d
  .have a:¬q.1=k:=λz=>e (c.trans z);have b:atKey (q::qs) k=atKey qs k:=by simp[atKey,Ĝ,a]
   rw[cB e,b];show ih
theorem KT.repl (r:KT H kvs xs) (k:List Key) (f:RelV y u):KT H (kvs.map λb=>if b.1=k then(b.1,y)else b) (xs.map (putAt k u)):=by induction r with
 |nil=>show .nil
 |@cons p q ps qs h t ih=>
  rw[Ä,Ä];show .cons ?_ ih;let#[a,c,d]:=h;unfold putAt;by_cases e:p.1=k;.rw [if_pos e,if_pos (a.symm.trans e)];show#[a,c,f]
  .rw [if_neg e,if_neg (λz=>e (a.trans z))];show#[a,c,d]
theorem KT.put (r:KT H kvs xs) (k:List Key) (d:H b=!(.tup (k.map kV))) (a:RelV y u):KT H (putK kvs k y) (storedH xs k b u):=by
 have e:(kvs.any λc=>decide (c.1=k))=(atKey xs k).isSome:=by rw[mO,(r.val k).isSome_eq,Ŏ]
 unfold putK storedH;rw[e];by_cases q:(atKey xs k).isSome=true;.rw [if_pos q,if_pos q];show r.repl k a
 .rw [if_neg q,if_neg q];show Paired.snoc r #[rfl,d,a]
theorem KT.keeps (r:KT H kvs xs) (a:∀b ys,H b=!(.tup ys)->H' b=!(.tup ys)):KT H' kvs xs:=Paired.mapP r λ_ _ z=>#[z.1,a _ _ z.2.1,z.2.2]
section
variable{P:Program} {w:World} {H:Hp} {h:Heap} {a:Addr}
theorem KQ {u:HO} (b:HOk P w H h) (e:Rd H a u):ObjOk P w H h a u:=e.ok b
theorem pF {kvs:List (Key×V)} (b:HOk P w H h) (e:Rd H a (.dK kvs)):kvs.length<=sizeLine/\(a==sysModules)=false/\∃vs,KV kvs vs/\h.DictOf (bN P w) a vs:=
 show ObjOk P w H h a (.dK kvs)from KQ b e
theorem KR {kvs:List (Key×V)} (b:HOk P w H h) (e:H a=!(.dK kvs)):kvs.length<=sizeLine/\(a==sysModules)=false/\∃vs,KV kvs vs/\h.DictOf (bN P w) a vs:=pF b (.inl e)
theorem j4 {c:List Key} (d:HOk P w H h) (e:H a=!(.tup (c.map kV))):(tupleKind (bN P w)).is h c a:=by let#[_,b,r,o,f,g,n,i]:=(show ObjOk P w H h a (.tup (c.map kV))from d a _ e);show#[o,b.toArray,n,f,g,i,by simpa using pD r]
theorem pG (c:HOk P w H h) (e:Rd H a (.dT kvs)):kvs.length<=sizeLine/\(a==sysModules)=false/\∃xs,KT H kvs xs/\h.DictOfH (tupleKind (bN P w)) a xs:=by
 let#[z,y,xs,r,o,es,d,i,j,k,g,f]:=(show ObjOk P w H h a (.dT kvs)from KQ c e);show#[z,y,xs,r,o,es,d,i,j,k,g,λx b=>?_,f];have all:∀{l:List (List Key×V)} {m:List (List Key×Addr×Value)},KT H l m->∀x∈m,(tupleKind (bN P w)).is h x.1 x.2.1:=by intro l m q;induction q with
  |nil=>intro x b;show nomatch b|@cons p q ps qs hq t ih=>
   intro x b;rcases Å.mp b with e|b;.subst e;show j4 c (by rw[<-hq.1];show hq.2.1)
   .show ih x b
 show all r x b
theorem pH (b:HOk P w H h) (e:H a=!(.dT kvs)):kvs.length<=sizeLine/\(a==sysModules)=false/\∃xs,KT H kvs xs/\h.DictOfH (tupleKind (bN P w)) a xs:=pG b (.inl e)
end
def DGet (H:Hp) (a:Addr) (y:V) (r:Option V):Prop:=(∃kvs k,Rd H a (.dK kvs)/\y=kV k/\r=bQ kvs k)\/∃kvs k b,Rd H a (.dT kvs)/\y=.ref b/\H b=!(.tup (k.map kV))/\r=bQ kvs k
def DPut (H:Hp) (a:Addr) (y v:V) (H':Hp):Prop:=(∃kvs k,H a=!(.dK kvs)/\y=kV k/\kvs.length<sizeLine/\H'=upd H a (.dK (putK kvs k v)))\/∃kvs k b,H a=!(.dT kvs)/\y=.ref b/\H b=!(.tup (k.map kV))/\kvs.length<sizeLine/\H'=upd H a (.dT (putK kvs k v))
theorem DGet.k {H:Hp} {a:Addr} {kvs:List (Key×V)} {k:Key} (e:H a=!(.dK kvs)):DGet H a (kV k) (bQ kvs k):=.inl #[kvs,k,.inl e,rfl,rfl]
theorem DGet.t {k:List Key} (e:H a=!(.dT kvs)) (c:H b=!(.tup (k.map kV))):DGet H a (.ref b) (bQ kvs k):=.inr #[kvs,k,b,.inl e,rfl,c,rfl]
theorem DPut.k {H:Hp} {a:Addr} {kvs:List (Key×V)} {k:Key} {v:V} (e:H a=!(.dK kvs)) (b:kvs.length<sizeLine):DPut H a (kV k) v (upd H a (.dK (putK kvs k v))):=.inl #[kvs,k,e,rfl,b,rfl]
theorem DPut.t {k:List Key} {v:V} (e:H a=!(.dT kvs)) (c:H b=!(.tup (k.map kV))) (d:kvs.length<sizeLine):DPut H a (.ref b) v (upd H a (.dT (putK kvs k v))):=.inr #[kvs,k,b,e,rfl,c,d,rfl]
section
variable{X:Cx} {pins:List (Addr×Obj)} {σ:St} {H:Hp} {s:Shared} {a:Addr} {y v:V} {u r:Value} {o:Option V} {A:Around} {E:Value->Shared->Prop}
theorem Inv.big (I:Inv X pins σ H s):sysModules<s.heap.objs.size:=by have h:mainGlobals<s.heap.objs.size:=(I.mod.glob.keeps I.bk).lt;show Β (by decide) h
theorem zA (r:A.units+1<cLine) (I:Inv X pins σ H s) (g:DGet H a y !v) (n:RelV y u) (h:∀f s',Inv X pins σ H s'->RelV v f->Q f s'):wpAny (model X.prog X.w) A (getItem (.ref a) u) Q E s:=by
 rcases g with⟨kvs,k,e,ey,l⟩|⟨kvs,k,b,e,ey,eb,l⟩;.subst ey;let#[z,t,vs,d,j]:=pF I.hok e;let#[f,i,c]:=RelO.some_of (v:=v) (o:=valueAt vs k) (by rw[l];show d.val k);show wpAny_getItem_of (pC n) j.mapOf i (h f _ (I.tok _) c)
 .subst ey;cases(show u=Value.ref b from n);let#[z,t,xs,d,j]:=pG I.hok e;let#[f,i,c]:=RelO.some_of (v:=v) (o:=(atKey xs k).map (·.2)) (by rw[l];show d.val k);let#[p,q,m]:=á.mp i;show wpAny_getItem_heap (ł r) (j4 I.hok eb) j q ?_;rw[m];show h f _ (I.tok _) c
theorem X7 (j:A.units+1<cLine) (I:Inv X pins σ H s) (g:DGet H a y o) (i:RelV y u) (h:∀s',Inv X pins σ H s'->Q (.bool o.isSome) s'):wpAny (model X.prog X.w) A (compareOp .In u (.ref a)) Q E s:=by
 rcases g with⟨kvs,k,e,ey,l⟩|⟨kvs,k,b,e,ey,eb,l⟩;.subst ey;let#[z,f,vs,c,d]:=pF I.hok e;show wpAny_in_of (pC i) f d.mapOf ?_;rw[<-(c.val k).isSome_eq,<-l];show h _ (I.tok _)
 .subst ey;cases(show u=Value.ref b from i);let#[z,f,xs,c,d]:=pG I.hok e;show wpAny_in_heap (ł j) (j4 I.hok eb) f d ?_;have q:=(c.val k).isSome_eq;rw[Ŏ]at q;rw[<-q,<-l];show h _ (I.tok _)
theorem Iz (j:A.units+1<cLine) (I:Inv X pins σ H s) (g:DGet H a y o) (i:RelV y u) (h:∀s',Inv X pins σ H s'->Q (.bool (not o.isSome)) s'):wpAny (model X.prog X.w) A (compareOp .NotIn u (.ref a)) Q E s:=by
 rcases g with⟨kvs,k,e,ey,l⟩|⟨kvs,k,b,e,ey,eb,l⟩;.subst ey;let#[z,f,vs,c,d]:=pF I.hok e;show wpAny_notIn_of (pC i) f d.mapOf ?_;rw[<-(c.val k).isSome_eq,<-l];show h _ (I.tok _)
 .subst ey;cases(show u=Value.ref b from i);let#[z,f,xs,c,d]:=pG I.hok e;show wpAny_notIn_heap (ł j) (j4 I.hok eb) f d ?_;have q:=(c.val k).isSome_eq;rw[Ŏ]at q;rw[<-q,<-l];show h _ (I.tok _)
theorem il {t':Nat} {ob:HO} (I:Inv X pins σ H s) (f:SN (H a)) (g:Heap.SameBut a s.heap h') (h:∃q,h'.get? a=!q) (c:ObjOk X.prog X.w (upd H a ob) h' a ob):Inv X pins σ (upd H a ob) {s with heap:=h',toks:=t'}:=I.write (x:=a) (e:=a) f (.inl rfl) (λb q d z=>(g.2 b d).trans z) h c
theorem BK {P:Program} {kvs:List (Key×V)} {vs:List (Key×Value)} (z:kvs.length<=sizeLine) (d:(a==sysModules)=false) (b:KV kvs vs) (c:h'.DictOf (bN P w) a vs):ObjOk P w H' h' a (.dK kvs):=#[z,d,vs,b,c]
theorem zB {Q:Unit->Shared->Prop} (F:A.units+1<cLine) (I:Inv X pins σ H s) (g:DPut H a y v H') (p:RelV y u) (rv:RelV v r) (h:∀s',Inv X pins σ H' s'->Q Unit.unit s'):wpAny (model X.prog X.w) A (setItem (.ref a) u r) Q E s:=by
 rcases g with⟨kvs,k,e,ey,l,eH⟩|⟨kvs,k,b,e,ey,eb,l,eH⟩
 .subst ey eH;let#[z,o,vs,d,m]:=KR I.hok e;have hz:vs.length<=sizeLine:=by rw[<-d.length];show z
  have j:(putK kvs k v).length<=sizeLine:=by have:=iY kvs k v;rfl'
  show wpAny_setItem_pairs (hsz:=hz) (pC p) m λh' f n=>h _ ?_;have G:∃q,h'.get? a=!q:=let⟨q,_,_,i,_⟩:=f;#[q,i];show il I (by rw[e];show True.intro) n G (BK j o (d.put k rv) f)
 .subst ey eH;cases(show u=Value.ref b from p);let#[z,o,xs,d,m]:=pH I.hok e;have hz:xs.length<=sizeLine:=by rw[<-Ċ d];show z
  have j:(putK kvs k v).length<=sizeLine:=by have:=iY kvs k v;rfl'
  show wpAny_setItem_heap (hsz:=hz) (ł F) (j4 I.hok eb) m λh' f n=>h _ ?_;let#[q,es,x,i,B,C,J,_,D]:=f;show il I (by rw[e];show True.intro) n ⟨q,i⟩ ⟨j,o,_,(d.put k eb rv).keeps λc K t=>?_,q,es,x,i,B,C,J,D⟩;rw[az (bD t e (λz=>nomatch z))];show t
end
def Ni (i:Expr):Prop:=∀ov iv,subscripted i false ov iv=operate [ov,iv] (getItem ov iv)
theorem xY {s:Shared} {env:Env} {b a:Expr} {T:String}(g:typeLookup (.type T) "__getitem__"=pure !(.builtin id)) (j:Ni a)(h:wpAny (model prog w) A (eval b env) (λo s₁=>wpAny (model prog w) A (eval a env) (λi s₂=>s₂.TypeIs o T/\wpAny (model prog w) A (getItem o i) Q E s₂) E s₁) E s):wpAny (model prog w) A (eval (.Subscript b a pos) env) Q E s:=by
 show Subscript_ (Ď h (λo s₁ h₁=>Ď h₁ (λi s₂ c=>?_) λ_ _ x=>x) λ_ _ x=>x);let#[f,c]:=c;unfold subscriptTail;show Qr ?_;rw[getitemInPython_of_ne f.not_modules];show Qr (Ŷ f g ?_);have fin:wpAny (model prog w) A (subscripted a false o i) (λr d=>wpAny (model prog w) A (letTemporaryGo b o r>>=λ_=>pure r) Q E d) E s₂:=by rw[j o i];show wpAny_operating (Ď c (λr d e=>Qr (wpAny_letTemporaryGo (Zy e))) λ_ _ x=>x)
 first
  |show Zy (Qr fin)|show Qr (Zy (Qr fin))|show Qr fin
theorem sJ {X:Cx} {s:Shared} {o:Option V} (I:Inv X pins σ H s) (g:DGet H a y o):s.TypeIs (.ref a) "dict":=by
 rcases g with⟨kvs,k,e,_,_⟩|⟨kvs,k,b,e,_,_,_⟩;.obtain ⟨_,_,vs,_,c⟩:=pF I.hok e;show c.typeIs
 .obtain ⟨_,_,xs,_,c⟩:=pG I.hok e;show c.typeIs
def gw (td ty:TE):TE:=λσ H Q=>td σ H λx H1=>ty σ H1 λy H2=>∃a v,x=.ref a/\DGet H2 a y !v/\Q v H2
def uZ (ty td:TE):TE:=λσ H Q=>ty σ H λy H1=>td σ H1 λx H2=>∃a o,x=.ref a/\DGet H2 a y o/\Q (.bl o.isSome) H2
def lR (ty td:TE):TE:=λσ H Q=>ty σ H λy H1=>td σ H1 λx H2=>∃a o,x=.ref a/\DGet H2 a y o/\Q (.bl (not o.isSome)) H2
def pI (td ty tv:TE):TS:=λD σ H=>tv σ H λv H1=>td σ H1 λx H2=>ty σ H2 λy H3=>∃a H4,x=.ref a/\DPut H3 a y v H4/\D.nx σ H4
section
variable{X:Cx} {o i e value:Expr} {pos pos' tpos:Pos} {td ty tv:TE}
theorem dF (r:X.A.units+1<cLine) (w:PE X o td) (hi:PE X i ty) (k:Ni i):PE X (.Subscript o i pos) (gw td ty):=by intro b s d H Q I h;show xY PySem.F.slot_dict_getitem.lookup k (bM (w b s d H _ I h) λu t ⟨x,H1,l,j,f⟩=>bM (hi b t d H1 _ l f) λD B ⟨y,H2,e,q,a,v,n,g,m⟩=>?_);subst n;obtain rfl:u=Value.ref a:=j;show#[sJ e g,zA r e g q λC z p c=>#[v,H2,p,c,m]]
theorem mQ (p:X.A.units+1<cLine) (hi:PE X i ty) (r:PE X o td):PC X .In i o (uZ ty td):=by
 intro b s c H Q I h;show bM (hi b s c H _ I h) λw q ⟨y,H1,f,n,d⟩=>bM (r b q c H1 _ f d) λu v ⟨x,H2,k,e,a,ov,l,g,j⟩=>?_;subst l;obtain rfl:u=Value.ref a:=e;show X7 p k g n λt m=>#[.bl ov.isSome,H2,m,rfl,j]
theorem pJ (p:X.A.units+1<cLine) (hi:PE X i ty) (r:PE X o td):PC X .NotIn i o (lR ty td):=by
 intro b s c H Q I h;show bM (hi b s c H _ I h) λw q ⟨y,H1,f,n,d⟩=>bM (r b q c H1 _ f d) λu v ⟨x,H2,k,e,a,ov,l,g,j⟩=>?_;subst l;obtain rfl:u=Value.ref a:=e;show Iz p k g n λt m=>#[.bl (not ov.isSome),H2,m,rfl,j]
theorem lU (m:X.A.units+1<cLine) (n:PE X o td) (hi:PE X i ty) (j:PE X value tv) (w:swapsWith value (!(.Subscript o i pos')) pos.line X.env=pure false):PS X (.Assign [.Subscript o i pos'] value pos) (pI td ty tv):=by
 intro b s c H D I h;show wpAny_Assign_Subscript (bM (j b s c H _ I h) λr l ⟨v,H1,e,rv,p⟩=>bM (n b l c H1 _ e p) λu z ⟨x,H2,B,q,f⟩=>bM (hi b z c H2 _ B f) λJ K ⟨y,H3,k,E,a,t,C,g,F⟩=>?_) w;subst C;obtain rfl:u=Value.ref a:=q;show zB m k g E rv λG d=>#[c,t,d,F]
end
theorem sO {P:Program} (h:Heap) (a:sysModules<h.objs.size):ObjOk P w H (h.push {cls:=.type "dict",data:=.dict ([].toArray)}) h.objs.size (.dK []):=#[Nat.zero_le _,Ė.mpr (Ne.symm (ã a)),[],.nil,Heap.DictOf.new h]
theorem sS {P:Program} (h:Heap) (a:sysModules<h.objs.size):ObjOk P w H (h.push {cls:=.type "dict",data:=.dict ([].toArray)}) h.objs.size (.dT []):=#[Nat.zero_le _,Ė.mpr (Ne.symm (ã a)),[],.nil,_,([].toArray),0,Ë _ rfl,#[rfl,rfl,rfl],rfl,rfl,Γ]
def qw:TE:=λ_ H Q=>∀p,H p=none->Q (.ref p) (upd H p (.dK []))
def vd:TE:=λ_ H Q=>∀p,H p=none->Q (.ref p) (upd H p (.dT []))
section
variable{X:Cx} {pos:Pos}
theorem sU:PE X (.Dict [] [] pos) qw:=λb s c H Q I h=>wpAny_Dict_empty #[.ref s.heap.objs.size,_,I.laid (a:=s.heap.objs.size) (o:=.dK []) (t':=s.toks) (λ_ _ q=>Yf _ q) (Ã _) (sO s.heap I.big),rfl,h _ (I.hok.fresh (Ã _))]
theorem BL:PE X (.Dict [] [] pos) vd:=λb s c H Q I h=>wpAny_Dict_empty #[.ref s.heap.objs.size,_,I.laid (a:=s.heap.objs.size) (o:=.dT []) (t':=s.toks) (λ_ _ q=>Yf _ q) (Ã _) (sS s.heap I.big),rfl,h _ (I.hok.fresh (Ã _))]
end
def vf:List (TE×TE)->St->Hp->(List (V×V)->Hp->Prop)->Prop
 |[],_,H,Q=>Q [] H|(tk,tv)::r,σ,H,Q=>tk σ H λx H1=>tv σ H1 λy H2=>vf r σ H2 λps H3=>Q ((x,y)::ps) H3
abbrev VV:List (V×V)->List (Value×Value)->Prop:=Paired λp q=>RelV p.1 q.1/\RelV p.2 q.2
def Wt (X:Cx) (pos:Pos) (keys:List (Option Expr)) (values:List Expr) (trs:List (TE×TE)):Prop:=∀(pins:List (Addr×Obj)) (s:Shared) (σ:St) (H:Hp) (Q:List (V×V)->Hp->Prop),Inv X pins σ H s->vf trs σ H Q->wpAny (model X.prog X.w) X.A (evalPairs (pairTrees keys values X.env pos)) (λvs s'=>∃ps H',Inv X pins σ H' s'/\VV ps vs/\Q ps H') X.xe s
theorem xZ {X:Cx}:Wt X pos [] [] []:=λa s b H Q I h=>pairTrees_nil_walk #[[],H,I,.nil,h]
theorem sV {X:Cx} {k v:Expr} {vs:List Expr} {d e:TE} (o:PE X k d) (p:PE X v e) (g:Wt X pos ks vs trs):Wt X pos (some k::ks) (v::vs) ((d,e)::trs):=λa s b H Q I h=>pairTrees_cons_walk (bM (o a s b H _ I h) λu t ⟨x,H1,j,i,f⟩=>bM (p a t b H1 _ j f) λB l ⟨y,H2,n,r,m⟩=>bM (g a l b H2 _ n m) λA z ⟨ps,H3,q,c,w⟩=>#[(x,y)::ps,H3,q,.cons #[i,r] c,w])
noncomputable def ir (kvs more:List (Key×V)):List (Key×V):=more.foldl (λacc kv=>putK acc kv.1 kv.2) kvs
theorem KV.merge:∀{more:List (Key×V)} {rs:List (Key×Value)} {kvs:List (Key×V)} {vs:List (Key×Value)},KV more rs->KV kvs vs->KV (ir kvs more) (merged vs rs):=by intro more rs kvs vs r;unfold KV at r;induction r generalizing kvs vs with
 |nil=>intro q;show q|@cons p q ps qs h t ih=>
  intro a;have e:KV (putK kvs p.1 p.2) (stored vs q.1 q.2):=by have:=a.put p.1 h.2;rw[<-h.1];show this
  show ih e
theorem jy:∀(more kvs:List (Key×V)),(ir kvs more).length<=kvs.length+more.length
 |[],kvs=>by change kvs.length<=kvs.length+0;rfl'|p::r,kvs=>by have a:=jy r (putK kvs p.1 p.2);have b:=iY kvs p.1 p.2;change(ir (putK kvs p.1 p.2) r).length<=_;rw[é];rfl'
theorem mR {P:Program} {w:World}:∀{kvs:List (Key×V)} {e:List (Value×Value)},VV (kvs.map λd=>(kV d.1,d.2)) e->∃rs,Carries (bN P w) e rs/\KV kvs rs
 |[],_,r=>by rw[û]at r;cases r;show⟨[],True.intro,.nil⟩|p::kvs,_,r=>by
  rw[Ä]at r
  cases r with|@cons a b as bs h t=>let#[rs,c,q]:=mR (P:=P) (w:=w) t;let#[b1,f]:=b;show#[(p.1,f)::rs,#[pC h.1,rfl,c],.cons #[rfl,h.2] q]
def BP (trs:List (TE×TE)):TE:=λσ H Q=>∀p,H p=none->vf trs σ (upd H p (.dK [])) λps H2=>H2 p=!(.dK [])/\∃kvs:List (Key×V),ps=kvs.map (λkv=>(kV kv.1,kv.2))/\kvs.length<=15/\Q (.ref p) (upd H2 p (.dK (ir [] kvs)))
theorem IK {X:Cx} (h:Wt X pos keys values trs) (d:keys.all (·.isSome)=true) (n:keys.length=values.length) (u:keys≠[])(g:keys.length<=15):PE X (.Dict keys values pos) (BP trs):=by
 intro f s m H Q I q;have t:=I.hok.fresh (Ã s.heap.objs.size);have p:=I.laid (a:=s.heap.objs.size) (o:=.dK []) (h':=s.heap.push {cls:=.type "dict",data:=.dict ([].toArray)}) (t':=s.toks) (λ_ _ q=>Yf _ q) (Ã _) (sO s.heap I.big);show wpAny_Dict_walk (knd:=bN X.prog X.w) d n u g (bM (h f _ m _ _ p (q _ t)) λF G ⟨ps,H2,j,i,e,kvs,k,lk,r⟩=>?_);subst k;let#[x,c,D]:=mR (P:=X.prog) (w:=X.w) i;let#[z,E,v,l,C]:=KR j.hok e;cases l;show#[x,c,C,λh' b A=>#[.ref s.heap.objs.size,_,?_,rfl,r]];have hz:(ir [] kvs).length<=sizeLine:=by have B:=jy kvs [];rw[ş]at B;rw[ę];rfl'
 have y:∃q,h'.get? s.heap.objs.size=!q:=let⟨q,_,_,hq,_⟩:=b;#[q,hq];show il j (by rw[e];show True.intro) A y (BK hz E (D.merge .nil) b)
structure M1 (X:Cx) (o:Expr) (m:Str) (apos:Pos) (e:Expr) (cpos:Pos):Prop where
 base:attributeBase o m X.env (eval o X.env)=eval o X.env
 few:((backTo cpos (starEach [e] X.env)).all (λx=>not x.1)&&(backToKw cpos (keywordEach [] X.env)).all (λx=>x.1.isSome)&&decide (([e]:List Expr).length+([]:List Keyword).length+(if([]:List Keyword).isEmpty then 0 else 1)<30))=true
 line:(apos.endLine==cpos.line)=true
 trees:backTo cpos (starEach [e] X.env)=[(false,eval e X.env)]
structure M2 (X:Cx) (o:Expr) (m:Str) (apos:Pos) (e f:Expr) (cpos:Pos):Prop where
 base:attributeBase o m X.env (eval o X.env)=eval o X.env
 few:((backTo cpos (starEach [e,f] X.env)).all (λx=>not x.1)&&(backToKw cpos (keywordEach [] X.env)).all (λx=>x.1.isSome)&&decide (([e,f]:List Expr).length+([]:List Keyword).length+(if([]:List Keyword).isEmpty then 0 else 1)<30))=true
 line:(apos.endLine==cpos.line)=true
 trees:backTo cpos (starEach [e,f] X.env)=[(false,eval e X.env),(false,eval f X.env)]
def Nm (H:Hp) (a:Addr):Prop:=(∃kvs,Rd H a (.dK kvs))\/∃kvs,Rd H a (.dT kvs)
theorem BR {X:Cx} {s:Shared} (I:Inv X pins σ H s) (d:Nm H a):s.TypeIs (.ref a) "dict"/\(∀b,Value.ref a=.ref b->∃ob,s.heap.get? b=!ob/\ob.dict=none)/\(a==sysModules)=false:=by
 rcases d with⟨kvs,e⟩|⟨kvs,e⟩;.obtain ⟨_,h,vs,_,c⟩:=pF I.hok e;show#[c.typeIs,λb q=>?_,h];cases q;let#[ob,_,_,g,f,_]:=c;show#[ob,g,f.2.1]
 .obtain ⟨_,h,xs,_,c⟩:=pG I.hok e;show#[c.typeIs,λb q=>?_,h];cases q;let#[ob,_,_,g,f,_]:=c;show#[ob,g,f.2.1]
def X8 (td ty:TE):TE:=λσ H Q=>td σ H λx H1=>∃a,x=.ref a/\Nm H1 a/\ty σ H1 λy H2=>∃o,DGet H2 a y o/\Q (o.getD .non) H2
def Xa (td ty tx:TE):TE:=λσ H Q=>td σ H λx H1=>∃a,x=.ref a/\Nm H1 a/\ty σ H1 λy H2=>tx σ H2 λz H3=>∃o,DGet H3 a y o/\Q (o.getD z) H3
end L2
set_option linter.all false
namespace Bm
noncomputable def pop:Nat->Nat
 |0=>0|n+1=>(n+1)%2+pop ((n+1)/2)decreasing_by rfl'
theorem jM:pop 0=0:=by rw[pop]
theorem vg (n:Nat):pop n=n%2+pop (n/2):=by cases n with
 |zero=>simp[jM]|succ n=>rw[pop]
theorem qx (m:Nat):pop (2*m)=pop m:=by rw[vg,show 2*m%2=0 by rfl',show 2*m/2=m by rfl',Δ]
theorem IV (m:Nat):pop (2*m+1)=pop m+1:=by rw[vg,show(2*m+1)%2=1 by rfl',show(2*m+1)/2=m by rfl',Ε]
theorem BV (a b:Nat):(2*a)&&&(2*b+1)=2*(a&&&b):=by
 apply ŏ;intro i;cases i with
 |zero=>simp[ŋ]|succ i=>rw[ŋ,ļ,ļ,ļ,show 2*a/2=a by rfl',show(2*b+1)/2=b by rfl',show 2*(a&&&b)/2=(a&&&b)by rfl',ŋ]
theorem Np (a b:Nat):(2*a+1)&&&(2*b)=2*(a&&&b):=by rw[Nat.and_comm,BV,Nat.and_comm]
theorem IW (n:Nat) (h:0<n):pop (n&&&(n-1))+1=pop n:=by induction n using Nat.strongRecOn with|ind n ih=>
  rcases Nat.mod_two_eq_zero_or_one n with e|e;.obtain ⟨m,rfl⟩:∃m,n=2*m:=#[n/2,()];have q:=ih m () ();rw[show 2*m-1=2*(m-1)+1 by rfl',BV,qx,qx];show q
  .obtain ⟨m,rfl⟩:∃m,n=2*m+1:=#[n/2,()];rw[show 2*m+1-1=2*m by rfl',Np,Nat.and_self,qx,IV]
theorem Nq (n:Nat) (h:0<n):n&&&(n-1)<n:=Ù Nat.and_le_right ()
theorem BW (a b:Nat):(a^^^b)/2=(a/2)^^^(b/2):=by apply ŏ;intro i;simp[<-ļ,Nat.testBit_xor]
theorem gA (x:Nat):x%2=(x.testBit 0).toNat:=by rcases Nat.mod_two_eq_zero_or_one x with h|h<;>simp[Nat.testBit_zero,h]
noncomputable def bits (k n:Nat):List Nat:=(List.range k).filter λi=>n.testBit i
end Bm
set_option linter.all false
namespace Bx
open PySem
theorem jB (m n:Nat):Builtin.bitAnd (m:Int) (n:Int)=((m&&&n:Nat):Int):=by rw[PyProof.Rows.bitAnd_pp () ()];simp
theorem BX (m n:Nat):(m|||n)+(m&&&n)=m+n:=by induction m using Nat.strongRecOn generalizing n with|ind m ih=>
  by_cases hz:m=0;.subst hz;simp
  .have q:=ih (m/2) () (n/2);have a:(m|||n)/2=(m/2)|||(n/2):=by apply ŏ;intro i;simp[<-ļ,Nat.testBit_or]
   have b:(m&&&n)/2=(m/2)&&&(n/2):=by apply ŏ;intro i;simp[<-ļ,ŋ]
   have c:(m|||n)%2+(m&&&n)%2=m%2+n%2:=by
    rw[Bm.gA (m|||n),Bm.gA (m&&&n),Bm.gA m,Bm.gA n,Nat.testBit_or,ŋ];cases m.testBit 0<;>cases n.testBit 0<;>rfl
   rfl'
theorem zE (m n:Nat):Builtin.bitOr (m:Int) (n:Int)=((m|||n:Nat):Int):=by rw[PyProof.Rows.bitOr_and,jB];have:=BX m n;rfl'
theorem J0 (m n:Nat):(m^^^n)+2*(m&&&n)=m+n:=by induction m using Nat.strongRecOn generalizing n with|ind m ih=>
  by_cases hz:m=0;.subst hz;simp
  .have q:=ih (m/2) () (n/2);have a:=Bm.BW m n;have b:(m&&&n)/2=(m/2)&&&(n/2):=by apply ŏ;intro i;simp[<-ļ,ŋ]
   have c:(m^^^n)%2+2*((m&&&n)%2)=m%2+n%2:=by
    rw[Bm.gA (m^^^n),Bm.gA (m&&&n),Bm.gA m,Bm.gA n,Nat.testBit_xor,ŋ];cases m.testBit 0<;>cases n.testBit 0<;>rfl
   rfl'
theorem mU (m n:Nat):Builtin.bitXor (m:Int) (n:Int)=((m^^^n:Nat):Int):=by unfold Builtin.bitXor;rw[zE,jB];have a:=BX m n;have b:=J0 m n;rfl'
theorem BZ (k:Nat):((2^k:Nat):Int)=(2:Int)^k:=by simp
end Bx
section
namespace L2
open PySem PySem.Spec PyProof.Rows
variable{H:Hp} {Q:VK} {n:Nat} {wi:TI} {x:Str} {env:Env} {h':Heap} {pos:Pos} {tg:Expr} {w:World} {xs:List V} {C a p:Addr} {N':List Str} {ms:List Int} {ch:List Addr} {es ifs:List Expr} {esc sc scope:Scope} {κ:List (Option Nat)} {m':Str->Option Value} {pins:List (Addr×Obj)} {E:Value->Shared->Prop} {RR:Value->Addr->Result->Shared->Prop}
abbrev blk (X:Cx) (sc:Scope) (N':List Str) (cl:List (Str×Addr)) (C:Addr) (s:Shared) (H:Hp) (fp:List Addr) (pins:List (Addr×Obj)):Cx where
 prog:=X.prog
 w:=X.w
 K:=X.K
 mg:=X.mg
 base:=X.base
 A:=X.A
 N:=N'
 s₀:=s
 H₀:=H
 env:=compEnvC sc cl C X.env
 outer:=X.stack
 stack:=X.stack
 ex:=fp
 fn:=λ_=>false
 calm:=X.calm
 pn:=X.pn++pins
 xe:=λ_ _=>False
structure CScope (esc sc:Scope):Prop where
 kind:sc.kind=.function
 nocell:∀y∈sc.names,y.2≠.cell
 locs:∀y∈sc.names,y.2=.local->sc.names.lookup y.1=!.local
 frees:∀y∈sc.names,y.2=.free->esc.names.lookup y.1=!.cell\/esc.names.lookup y.1=!.free
theorem mem_lookup {a:Type} {x:Str} {k:a}:∀{l:List (Str×a)},l.lookup x=!k->(x,k)∈l
 |[],h=>by simp at h|(n,k')::r,h=>by rw[ğ]at h;cases e:x==n with
  |true=>
   rw[e]at h;have b:x=n:=Φ e;injection h with h;subst b;subst h;show Ì|false=>
   rw[e]at h;show Í _ (mem_lookup h)
theorem qy {env:Env}:∀(names:List (Str×NameKind)) (cs:List (Str×Addr)),(∀y∈names,y.2=.free->∃c,env.cells.lookup y.1=!c)->(∀x c,cs.lookup x=!c->env.cells.lookup x=!c)->∃cl:List (Str×Addr),(forIn names cs λ(y:Str×NameKind) (r:List (Str×Addr))=>(if(y.2==NameKind.free)=true then(cellOf env y.1>>=λc=>pure (ForInStep.yield ((y.1,c)::r)))else pure (ForInStep.yield r):Sem (ForInStep (List (Str×Addr)))))=pure cl/\(∀x c,cl.lookup x=!c->env.cells.lookup x=!c)/\∀x c,env.cells.lookup x=!c->((x,NameKind.free)∈names\/cs.lookup x=!c)->cl.lookup x=!c
 |[],cs,_,hcs=>#[cs,rfl,hcs,λx c _ h=>h.elim (λz=>nomatch z) id]|(n,k) ::r,cs,hf,hcs=>by
  have g:∀y∈r,y.2=.free->∃c,env.cells.lookup y.1=!c:=λy t=>hf y (Í _ t);by_cases m:k=.free
  .subst m;let#[c,q]:=hf (n,.free) Ì rfl;have s:cellOf env n=pure c:=by have l:env.cells.lookup n=!c:=q;unfold cellOf;rw[l]
   have d:∀x b,((n,c)::cs).lookup x=!b->env.cells.lookup x=!b:=λx b h=>by
    rw[ğ]at h;cases e:x==n with|true=>
     rw[e]at h;injection h with h;have f:x=n:=Φ e;subst f;subst h;show q|false=>rw[e]at h;show hcs x b h
   let#[cl,e,o,p]:=qy r ((n,c)::cs) g d;show#[cl,?_,o,λx b i a=>p x b i ?_];.rw [ï];simp only[beq_self_eq_true,Ģ];rw[s];show e
   .rw [ğ];cases ex:x==n with|true=>
     right;have f:x=n:=Φ ex;subst f;show q.symm.trans i|false=>
     rcases a with a|a
     .rcases Å.mp a with z|z
      .have f:x=n:=ß Prod.fst z;subst f;rw[beq_self_eq_true]at ex;cases ex
      .show .inl z
     .show .inr a
  .obtain ⟨cl,e,o,p⟩:=qy r cs g hcs;have j:(k==NameKind.free)=false:=by cases k<;>first|rfl|show absurd rfl m
   show#[cl,?_,o,λx b i a=>p x b i ?_];.rw [ï];simp only[j,â,ă];show e
   .rcases a with a|a
    .rcases Å.mp a with z|z
     .show absurd (ß Prod.snd z).symm m
     .show .inl z
    .show .inr a
theorem yc (g:∀y∈sc.names,y.2=.free->∃c,env.cells.lookup y.1=!c):∃cl:List (Str×Addr),closureFor sc env=pure cl/\(∀x c,cl.lookup x=!c->env.cells.lookup x=!c)/\∀x c,env.cells.lookup x=!c->(x,NameKind.free)∈sc.names->cl.lookup x=!c:=by
 let#[cl,e,d,f]:=qy (env:=env) sc.names [] g (λx c h=>by simp at h);show#[cl,?_,d,λx c a b=>f x c a (.inl b)];have q:closureFor sc env=((forIn sc.names [] λ(y:Str×NameKind) (r:List (Str×Addr))=>(if(y.2==NameKind.free)=true then(cellOf env y.1>>=λc=>pure (ForInStep.yield ((y.1,c)::r)))else pure (ForInStep.yield r):Sem (ForInStep (List (Str×Addr)))))>>=λcs=>pure cs):=by
  first
   |rfl|(unfold closureFor;congr 1)
 rw[q,e];rfl
theorem iu {env:Env} {x:Str}:∀{names:List (Str×NameKind)},(names.map λ(n,k)=>if(k==NameKind.free&&env.scope.kind==.function&&env.kindOf n==!.cell)then(n,NameKind.cell)else(n,k)).lookup x=(names.lookup x).map λk=>if(k==NameKind.free&&env.scope.kind==.function&&env.kindOf x==!.cell)then NameKind.cell else k
 |[]=>rfl|(n,k) ::r=>by
  have c:=iu (env:=env) (x:=x) (names:=r);change List.lookup x ((if(k==NameKind.free&&env.scope.kind==.function&&env.kindOf n==!.cell)=true then(n,NameKind.cell)else(n,k))::_)=_;rw[ğ (b:=k)];cases hx:x==n with
  |true=>
   have e:x=n:=Φ hx;subst e;by_cases a:(k==NameKind.free&&env.scope.kind==.function&&env.kindOf x==!.cell)=true;.rw [if_pos a,ğ,hx];change some NameKind.cell=!(if(k==NameKind.free&&env.scope.kind==.function&&env.kindOf x==!.cell)=true then NameKind.cell else k);rw[if_pos a]
   .rw [if_neg a,ğ,hx];change some k=!(if(k==NameKind.free&&env.scope.kind==.function&&env.kindOf x==!.cell)=true then NameKind.cell else k);rw[if_neg a]|false=>
   by_cases a:(k==NameKind.free&&env.scope.kind==.function&&env.kindOf n==!.cell)=true
   .rw [if_pos a,ğ,hx];show c
   .rw [if_neg a,ğ,hx];show c
theorem CScope.free_of (S:CScope esc sc) (h:(relabel sc env).names.lookup x=!.cell\/(relabel sc env).names.lookup x=!.free):(x,NameKind.free)∈sc.names:=by
 have q:(relabel sc env).names.lookup x=_:=iu (env:=env) (x:=x) (names:=sc.names);rw[q]at h;cases e:sc.names.lookup x with
 |none=>rw[e]at h;simp at h
 |some k=>
  have a:=mem_lookup e;have b:=S.nocell _ a;cases k with
  |free=>show a|cell=>show absurd rfl b|_=>rw[e]at h;simp at h
theorem CScope.cell_of (S:CScope esc sc) (b:env.scope=esc) (a:env.scope.kind=.function) (h:sc.names.lookup x=!.free):(relabel sc env).names.lookup x=!.cell\/(relabel sc env).names.lookup x=!.free:=by
 have q:(relabel sc env).names.lookup x=_:=iu (env:=env) (x:=x) (names:=sc.names);rw[q,h];simp only[η];split;.show .inl rfl
 .show .inr rfl
noncomputable def cap (κ:List (Option Nat)) (σ:St):St:=κ.map λo=>o.bind λi=>(σ[i]?).join
noncomputable def capOk (κ:List (Option Nat)) (N' N:List Str) (sc:Scope):Bool:=
 decide (κ.length=N'.length)&&(κ.zip N').all λp=>match p.1 with
  |none=>true|some i=>N[i]? ==some p.2&&sc.names.lookup p.2==!.free
theorem capOk.len {N:List Str} (h:capOk κ N' N sc=true):κ.length=N'.length:=by unfold capOk at h;rw[Ą]at h;show ò h.1
theorem capOk.at {b:List (Option Nat)} {c N:List Str} {sc:Scope} (h:capOk b c N sc=true) {j:Nat} {y:Str} {v:V} {d:St} (f:c[j]?=!y) (a:(cap b d)[j]?=!(!v)):∃i:Nat,N[i]?=!y/\d[i]?=!(!v)/\sc.names.lookup y=!.free:=by unfold capOk at h;rw[Ą,Ľ]at h;unfold cap at a;rw[Xs]at a;cases e:b[j]?with
 |none=>rw[e]at a;simp at a|some o=>
  rw[e]at a;simp only[η,Option.some.injEq]at a;cases o with
  |none=>simp at a|some i=>have g:(!i,y)∈b.zip c:=Zs (i:=j) (by rw[List.getElem?_zip_eq_some];show#[e,f]);have q:=h.2 _ g;simp only[Ą,beq_iff_eq]at q;show#[i,q.1,?_,q.2];simp only[Option.bind_some]at a;cases r:d[i]?with
   |none=>rw[r]at a;simp at a|some z=>rw[r]at a;simp at a;rw[a]
def pK (a b:St):Prop:=b.length=a.length/\∀(i:Nat) v,a[i]?=!(!v)->b[i]?=!(!v)
def Ca (X:Cx) (ifs:List Expr) (t:TT):Prop:=∀(pins:List (Addr×Obj)) (s:Shared) (σ:St) (H:Hp) (Q:Bool->Hp->Prop),Inv X pins σ H s->t σ H Q->wpAny (model X.prog X.w) X.A (forIn ifs true λc r=>if r=true then do let ok<-isTrue c X.env (eval c X.env);pure (ForInStep.yield ok)else pure (ForInStep.yield r)) (TP X pins σ Q) X.xe s
def fu:TT:=λ_ H Q=>Q true H
theorem d7 {X:Cx}:Ca X [] fu:=λa s b H Q I h=>wpAny_tests_nil #[H,I,h]
theorem jN {X:Cx} {c:Expr} {t:TT} (h:PT X c t):Ca X [c] t:=λa s b H Q I q=>wpAny_tests_one (h a s b H Q I q)
section
variable{prog:Program} {w:World} {A:Around} {R:Result->Shared->Prop} {s:Shared}
theorem qz {k a g:Expr} {y l:Value} (I:Nat->Shared->Prop)(t:∀n s,I n s->wpAny (model prog w) A (pyNext y) (λr s₁=>match r with|none=>R (.ok .next) s₁|some v=>wpAny (model prog w) A (letOwnedTupleGo a y v) (λ_ d=>wpAny (model prog w) A (assign a env v) (λ_ s₂=>wpAny (model prog w) A (forIn ifs true λc r=>if r=true then do let ok<-isTrue c env (eval c env);pure (ForInStep.yield ok)else pure (ForInStep.yield r)) (λok b=>if ok=true then wpAny (model prog w) A (eval k env) (λx e=>wpAny (model prog w) A (call (.builtin "list.append") [l,x]) (λ_ f=>∃m,m<n/\I m f) (λ_ _=>False) e) (λ_ _=>False) b else ∃m,m<n/\I m b) (λ_ _=>False) s₂) (λ_ _=>False) d) (λ_ _=>False) s₁) (λ_ _=>False) s)(n:Nat) (h:I n s):codeAny (model prog w) A (.compLoop (.ListComp k [#[a,g,ifs,0]] scope pos) 0 y l env) R s:=by
 show codeAny_loop rfl I (λn s B=>?_) n h;change wpAny _ A ((compTurn (.ListComp k [#[a,g,ifs,0]] scope pos) 0 y l env).onRaise (λx=>do noteFrame x env;theTreesLotGoes x)) _ _ s;show wpAny_noted ?_;rw[compTurn_list];show Ď (E:=λ_ _=>False) ?_ (λ_ _ q=>q) (λ_ _ z=>z.elim);show Qr (wpAny_standAt (Qr (Ď (t n s B) (λr s₁ h₁=>?_) λ_ _ h'=>h')));cases r with|none=>show Zy h₁|some v=>
  show Qr (Ď h₁ (λ_ d j=>?_) λ_ _ h'=>h');show Qr (Ď j (λ_ s₂ p=>Qr (Ď p (λok b i=>?_) λ_ _ h'=>h')) λ_ _ h'=>h');cases ok with
  |false=>show Zy #[rfl,i]|true=>show Qr (Qr (Ď i (λx e u=>Qr (Ď u (λ_ f o=>Zy (Zy #[rfl,o])) λ_ _ h'=>h')) λ_ _ h'=>h'))
end
theorem HOk.track {P:Program} {h:Heap} {o:HO} (x:HOk P w H h) (f:H a=none) (d:ObjOk P w (upd H a o) h a o):HOk P w (upd H a o) h:=λb u e=>by
 by_cases g:b=a;.subst g;rw[ao]at e;cases e;show d
 .rw [az g]at e;show(x b u e).stay (λc v _ q=>q) (λc q=>by rw[az (aW q f)];show q) λc xs q=>by rw[az (aW q f)];show q
section
variable{X:Cx} {pins:List (Addr×Obj)} {σ:St} {H2:Hp} {s₂:Shared} {tg iter elt:Expr} {ifs:List Expr} {sc:Scope} {pos:Pos} {N':List Str} {κ:List (Option Nat)} {cl:List (Str×Addr)} {it:Addr} {fp:List Addr} {tn:Nat->Heap->Prop} {J:It} {g:TG} {tc:TT} {te:TE}
theorem Nr (I:Inv X pins σ H2 s₂) (i:∀b∈fp,mD X pins H2 b) (k:∀b∈fp,b<s₂.heap.objs.size) (S:CScope X.env.scope sc)(a:∀x c,cl.lookup x=!c->X.env.cells.lookup x=!c) (f:∀x c,X.env.cells.lookup x=!c->(x,NameKind.free)∈sc.names->cl.lookup x=!c) (j:s₂.heap.objs.size<=C):(blk X sc N' cl C s₂ H2 fp pins).Ok where
 mod:=I.mod
 kind:=S.kind
 glob:=I.ok.glob
 blt:=I.ok.blt
 above:=j
 inj:=λx y c l m=>I.ok.inj x y c (a _ _ l) (a _ _ m)
 has:=λx h=>by have e:=S.free_of (env:=X.env) h;let#[c,n]:=I.ok.has x (S.frees _ e rfl);show#[c,f x c n e]
 cab:=λx c h _=>by cases h
 hd:=I.ok.hd
 frames:=I.ok.frames
 stk:=.inl rfl
 exf:=λb d=>#[Nat.ne_of_lt (Ý (k b d) j),λx c p=>(i b d).2.2.2.2.1 x c (a x c p)]
 bs:=I.bs
 bsz:=Û I.ok.bsz I.sz
 noex:=λb o d e=>by
  let#[_,_,_,g,_]:=i b e;rcases g with g|g;.show I.ok.noex b o d g
  .show absurd (Ç (I.ok.bs b o d).1) (Nat.not_lt.mpr g)
 exfs:=λb d e=>by
  rcases Å.mp (I.stkSub b e)with z|z;.show (i b d).2.1 z
  .show (i b d).2.2.1 z
 funs:=I.stack
 frf:=I.stkFree
theorem J1 (I:Inv X pins σ H2 s₂) (P:∀b∈fp,mD X pins H2 b) (D:∀b∈fp,b<s₂.heap.objs.size) (S:CScope X.env.scope sc) (g:capOk κ N' X.N sc=true)
  (d:∀x c,cl.lookup x=!c->X.env.cells.lookup x=!c) (f:∀x c,X.env.cells.lookup x=!c->(x,NameKind.free)∈sc.names->cl.lookup x=!c) (n:s₂.heap.objs.size<=C)
  {E:Nat} (O:h'.Ns C m') (a:∀b o,s₂.heap.get? b=!o->h'.get? b=!o):
  Inv (blk X sc N' cl C s₂ H2 fp pins) [] (cap κ σ) H2 {s₂ with heap:=h',toks:=E} where
 ok:=Nr I P D S d f n
 os:=rfl
 bare:=I.bare
 base:=Un.kept a
 loc:=⟨m',O,λj y v Q M t=>by
  let#[i,hi,J,B]:=capOk.at g Q M;have w:=mem_lookup B;have h:=S.frees _ w rfl;let#[m,_,F]:=I.loc;let#[u,K,lk]:=F i y v hi J (.inr h);show#[u,K,.inr #[S.cell_of (env:=X.env) rfl I.ok.kind B,?_]];rcases lk with⟨hk,_⟩|⟨_,c,hc,hu⟩;.have k:X.env.scope.names.lookup y=!.local:=hk;rcases h with z|z<;>(have s:X.env.scope.names.lookup y=_:=z;rw[k]at s;cases s)
  .obtain ⟨o,e,r⟩:=hu;show⟨c,f y c hc w,o,a _ _ e,r⟩⟩
 cell:=λx c l=>by let#[v,o,e,r]:=I.cell x c (d x c l);show#[v,o,a _ _ e,r]
 free:=I.hok.fresh n
 freeC:=λx c l=>I.freeC x c (d x c l)
 pin:=λp G=>by
  have q:p∈X.pn++pins:=by simpa using G
  let#[A,R,T,L,H]:=I.pin p q;show#[a _ _ A,R,ã (Ý (Ç A) n),λz=>?_,H];rcases Å.mp (I.stkSub p.1 z)with y|y;.show T y
  .show L y
 hok:=I.hok.kept a
 len:=by change(cap κ σ).length=N'.length;unfold cap;rw[Qb];show capOk.len g
structure Left (X:Cx) (pins:List (Addr×Obj)) (σ:St) (C:Addr) (H:Hp) (s:Shared):Prop where
 inv:Inv X pins σ H s
 ns:∃m,s.heap.Ns C m
 un:H C=none
 nl:C≠X.env.locals
 nf:C∉X.fs
 ab:X.s₀.heap.objs.size<=C
 nc:∀x c,X.env.cells.lookup x=!c->c≠C
 np:∀p∈X.pn++pins,p.1≠C
theorem Left.go {s:Shared} (l:Left X pins σ C H s) (a:Heap.SameBut C s.heap h'):Inv X pins σ H {s with heap:=h'}:=
 l.inv.turned (t':=s.toks) (λb o c e=>a.extBut b o c e) l.un l.nl (.inr l.ab) l.nc l.np
theorem yd (hc:X.calm=true) (I:Inv X pins σ H2 s₂) (T:Turn X.prog X.w X.K tg J fp it tn) (st:tn 0 s₂.heap) (R:∀b∈fp,mD X pins H2 b)(S:CScope X.env.scope sc) (ap:capOk κ N' X.N sc=true) (t:∀x c,cl.lookup x=!c->X.env.cells.lookup x=!c) (aw:∀x c,X.env.cells.lookup x=!c->(x,NameKind.free)∈sc.names->cl.lookup x=!c)(hg:∀C,PG (blk X sc N' cl C s₂ H2 fp pins) tg g) (hi:∀C,Ca (blk X sc N' cl C s₂ H2 fp pins) ifs tc) (he:∀C,PE (blk X sc N' cl C s₂ H2 fp pins) elt te){W:Nat->Nat->List V->Hp->Prop} {m0:Nat} (w0:W 0 m0 [] H2)(as:∀i m ys H,W i m ys H->(J.stop i H/\∀p,H p=none->Q (.ref p) (upd H p (.lst ys)))\/(J.go i H/\ys.length<sizeLine/\∃N:List V->Hp->Prop,(∀a1 H',N a1 H'->∃m',m'<m/\W (i+1) m' a1 H')/\∀x H',J.yld i H x H'->g x (cap κ σ) H' λai H2=>pK (cap κ σ) ai/\tc ai H2 λb H3=>if b=true then te ai H3 λy H4=>N (ys++[y]) H4 else N ys H3))(a7:∀D C H' s1,Left X pins σ C H' s1->Q (.ref D) H'->RR (.ref D) C (.ok .next) s1):wpAny (model X.prog X.w) X.A (newList []) (λa2 l=>wpAny (model X.prog X.w) X.A (newFunctionEnv sc X.env.globals cl [] X.env.qual none .none !X.env) (λad ak=>codeAny (model X.prog X.w) X.A (.compStart (.ListComp elt [#[tg,iter,ifs,0]] sc pos) 0 (.ref it) a2 {ad with scope:=relabel sc X.env}) (RR a2 ad.locals) ak) E l) E s₂:=by
 show õ (wpAny_newFunctionEnv S.nocell (by intro y hy;simp at hy) (λh₁ k h=>?_) S.kind);dsimp only at k h⊢;generalize hH2:s₂.heap.push {cls:=.type "list",dict:=none,data:=.seq ([]:List Value).toArray}=P2 at k h⊢;have G:P2.objs.size=s₂.heap.objs.size+1:=by rw[<-hH2,ģ]
 generalize hCe:P2.objs.size=C at k h G⊢;generalize hDe:s₂.heap.objs.size=D at G⊢;have O:D≠C:=by rw[G];show ã (ľ _)
 have hC:s₂.heap.objs.size<=C:=by rw[hDe,G];show Ū _
 have hD:s₂.heap.objs.size<=D:=by rw[hDe];show Ã _
 have a:∀b,b<s₂.heap.objs.size->b≠C/\b≠D:=λb j=>#[Nat.ne_of_lt (Ý j hC),ã (Ý j hD)];have ar:∀b o,s₂.heap.get? b=!o->h₁.get? b=!o:=λb o e=>h.extBut b o (a b (Ç e)).1 (Yf _ (hH2▸Yf _ e));have av:h₁.get? D=!{cls:=.type "list",data:=.seq ([]:List Value).toArray ([]:List Value).length}:=by have q:P2.get? s₂.heap.objs.size=!{cls:=.type "list",data:=.seq ([]:List Value).toArray 0}:=hH2▸Ë _ rfl;rw[hDe]at q;show h.extBut _ _ O (Yf _ q)
 have fl:∀b∈fp,b<s₂.heap.objs.size:=λb j=>by let#[o,e,_]:=T.obj 0 _ st b j;show Ç e
 have B:tn 0 h₁:=T.keep 0 _ _ st λb _ o e=>ar b o e;have IB:∀tk,Inv (blk X sc N' cl C s₂ H2 fp pins) [] (cap κ σ) H2 {s₂ with heap:=h₁,toks:=tk}:=λtk=>J1 I R fl S ap t aw hC k ar;have ae:∀x c,cl.lookup x=!c->c<s₂.heap.objs.size:=λx c F=>by let#[v,o,e,_]:=I.cell x c (t x c F);show Ç e
 have U:∀p∈X.pn++pins,p.1<s₂.heap.objs.size:=λp s=>Ç (I.pin p s).1;have Y:∀{H':Hp} {pl:List (Addr×Obj)},(∀b∈fp,H' b=none)->(∀p∈pl,p.1=D)->∀b∈fp,mD (blk X sc N' cl C s₂ H2 fp pins) pl H' b:=λ{H' pl} hn bb b j=>by
  show#[hn b j,(a b (fl b j)).1,λz=>?_,.inl j,λx c F=>(R b j).2.2.2.2.1 x c (t x c F),λp s=>?_]
  .rcases Å.mp (I.stkSub b z)with z|z;.show (R b j).2.1 z
   .show (R b j).2.2.1 z
  .rcases Â.mp s with z|z;.show (R b j).2.2.2.2.2 p z
   .rw [bb p z];show Ne.symm (a b (fl b j)).2
 have a3:∀{s':Shared} {ag:St} {H':Hp} {o:Obj},Inv (blk X sc N' cl C s₂ H2 fp pins) [] ag H' s'->s'.heap.get? D=!o->H' D=none->(∀v,o.data≠.cell v)->Inv (blk X sc N' cl C s₂ H2 fp pins) [(D,o)] ag H' s':=λ{s' ag H' o} I' e n d=>I'.pins_of λp s=>by
   rw[Zp.mp s];show#[e,n,O,λz=>?_,d];have z':D<s₂.heap.objs.size:=by
    rcases Å.mp (I.stkSub D z)with y|y;.have y':D=X.env.locals:=y;rw[y'];show I.lt
    .show absurd y (I.nofs hD)
   show absurd z' (Nat.not_lt.mpr hD)
 have Z:∀l:Shared,l= {s₂ with heap:= h₁,toks:= s₂.toks + ([] :List (Str × Value)).length} ->codeAny (model X.prog X.w) X.A (.compLoop (.ListComp elt [#[tg,iter,ifs,0]] sc pos) 0 (.ref it) (.ref D) (compEnvC sc cl C X.env)) (RR (.ref D) C) l:=by
  rintro l rfl;show qz (λn s'=>∃(i:Nat) (ys:List V) (f:List Value) (H':Hp),Inv (blk X sc N' cl C s₂ H2 fp pins) [] (cap κ σ) H' s'/\tn i s'.heap/\(∀b∈fp,H' b=none)/\s'.heap.get? D=!{cls:=.type "list",data:=.seq f.toArray f.length}/\Vals ys f/\H' D=none/\ys.length<=sizeLine/\W i n ys H') ?_ m0 #[0,[],[],H2,IB _,B,λb j=>(R b j).1,av,.nil,I.hok.fresh hD,ñ _,w0];rintro n s3 ⟨i,ys,f,H3,I3,ay,a4,d3,v3,n3,z3,w3⟩;have am:=a3 I3 d3 n3 (by intro v z;cases z);have ff:=Y (pl:=[(D,({cls:=.type "list",data:=.seq f.toArray f.length}:Obj))]) a4 (λp s=>by rw[Zp.mp s]);rcases as i n ys H3 w3 with⟨stop,qn⟩|⟨go,hlt,N,hN,step⟩;.show bM (T.done (blk X sc N' cl C s₂ H2 fp pins) rfl rfl rfl hc i _ s3 (cap κ σ) H3 _ am ff ay stop) λr s4 ⟨hr,I4⟩=>?_;subst hr;change RR (.ref D) C (.ok .next) s4;let#[dD,nD,_]:=I4.pin (D,_) (Ï _ Ì);have nC:H3 C=none:=I4.free;have P:=I4.base;have a8:HOk X.prog X.w (upd H3 D (.lst ys)) s4.heap:=HOk.track I4.hok nD #[z3,f,f.length,v3,dD];have un:Un (frs X.stack) fp H2 (upd H3 D (.lst ys)) s₂.heap s4.heap:=⟨P.keep,P.slot,λb o q n F=>by rw[az (a b (Ç q)).2];show P.free b o q n F,P.there,λb xs q=>by rw[az (aW (P.tups b xs q) nD)];show P.tups b xs q,λb o x q=>by rw[az (aW (P.frzs b o x q) nD)];show P.frzs b o x q,λb ps q=>by let#[m1,e1]:=P.tbls b ps q;show⟨m1,by rw[az (aW e1 nD)];show e1⟩⟩;have IX:Inv X pins σ (upd H3 D (.lst ys)) s4:=I.call' (by show I4.os) un a8 I4.bare λb j=>#[(R b j).2.2.2.1,(R b j).2.1,(R b j).2.2.2.2];let#[m4,be,_]:=I4.loc;show a7 D C _ s4 #[IX,#[m4,be],by rw[az (Ne.symm O)];show nC,Ne.symm (a _ I.lt).1,I.nofs hC,Û I.sz hC,λx c F=>?_,λp s=>(a _ (U p s)).1] (qn D nD);let#[v,o,e,_]:=I.cell x c F;show(a c (Ç e)).1
  .show bM (T.item (blk X sc N' cl C s₂ H2 fp pins) rfl rfl rfl hc i _ s3 (cap κ σ) H3 _ am ff ay go) λr s4 ⟨u,hr,h4⟩=>?_;subst hr;show bM h4 λ_ s5 ⟨x,H5,I5,r5,y5,ah,a9⟩=>?_;have a5:=Y (pl:=[(D,({cls:=.type "list",data:=.seq f.toArray f.length}:Obj))]) a9 (λp s=>by rw[Zp.mp s]);have bd:=I5.pinned a5 (T.obj _ _ ah);show bM (hg C _ s5 (cap κ σ) H5 x u _ bd r5 (step x H5 y5)) λ_ s6 ⟨L,H6,I6,M,q6⟩=>?_;show bM (hi C _ s6 L H6 _ I6 q6) λok s7 ⟨H7,I7,q7⟩=>?_;have keep:∀{ax:St} {H8:Hp} {s8:Shared},Inv (blk X sc N' cl C s₂ H2 fp pins) ([(D,({cls:=.type "list",data:=.seq f.toArray f.length}:Obj))]++mF fp s5.heap) ax H8 s8->tn (i+1) s8.heap/\(∀b∈fp,H8 b=none)/\s8.heap.get? D=!{cls:=.type "list",data:=.seq f.toArray f.length}/\H8 D=none:=λ{ax H8 s8} I8=>by
    show#[T.keep _ _ _ ah λb j o e=>(I8.pin (b,o) (Ï _ (Ï _ (ie j e)))).1,λb j=>?_,?_];.obtain ⟨o,e,d⟩:=T.obj _ _ ah b j;show(I8.pin (b,o) (Ï _ (Ï _ (ie j e)))).2.1
    .obtain ⟨e,n,_⟩:=I8.pin (D,_) (Ï _ (Ü _ Ì));show#[e,n]
   cases ok with
   |false=>
    have af:N ys H7:=by simpa using q7
    let#[m',hm,w7]:=hN _ _ af;let#[t8,f8,d8,n8]:=keep I7;change ∃m,m<n/\_;show#[m',hm,i+1,ys,f,H7,(I7.pins_of (pins':=[]) (λp s=>nomatch s)).weak M.1.symm M.2,t8,f8,d8,v3,n8,z3,w7]|true=>
    have af:te L H7 λy H4=>N (ys++[y]) H4:=by simpa using q7
    change wpAny _ _ (eval elt (compEnvC sc cl C X.env)) _ _ s7;show bM (he C _ s7 L H7 _ I7 af) λv s8 ⟨y,H8,I8,r8,q8⟩=>?_;let#[m',hm,w8]:=hN _ _ q8;let#[t8,f8,d8,n8]:=keep I8;show append_at (hsz:=by rw[Î,<-v3.length];show z3) d8 λh9 al bg=>?_;have I9:Inv (blk X sc N' cl C s₂ H2 fp pins) [] L H8 {s8 with heap:=h9,toks:=s8.toks}:=by
     show(I8.pins_of (pins':=[]) (λp s=>nomatch s)).turned (λb o j e=>al.extBut b o j e) n8 O (.inr hD) (λx c F=>(a c (ae x c F)).2) λp s=>?_;have a6:p∈X.pn++pins:=by simpa using s
     show(a _ (U p a6)).2
    show#[m',hm,i+1,ys++[y],f++[v],H8,I9.weak M.1.symm M.2,T.keep _ _ _ t8 λb j o e=>al.extBut b o (a b (fl b j)).2 e,f8,?_,Vals.append v3 (.cons r8 .nil),n8,?_,w8];.show h9.get? D=_;rw[bg];simp
    .rw [À,Õ];show hlt
 show codeAny_compStart_list (Z _ rfl) (T.self X.A 0 _ _ _ B (Z _ rfl))
def oR (κ:List (Option Nat)) (wi:TI) (g:TG) (tc:TT) (te:TE):TE:=λσ H Q=>wi σ H λJ H1=>∃W:Nat->Nat->List V->Hp->Prop,(∃m,W 0 m [] H1)/\∀i m ys H,W i m ys H->(J.stop i H/\∀p,H p=none->Q (.ref p) (upd H p (.lst ys)))\/(J.go i H/\ys.length<sizeLine/\∃N:List V->Hp->Prop,(∀ys' H',N ys' H'->∃m',m'<m/\W (i+1) m' ys' H')/\∀x H',J.yld i H x H'->g x (cap κ σ) H' λσ2 H2=>pK (cap κ σ) σ2/\tc σ2 H2 λb H3=>if b=true then te σ2 H3 λy H4=>N (ys++[y]) H4 else N ys H3)
theorem Tf (p:List (Option Nat)) (i:List Str) (P:X.calm=true) (k:PI X tg iter wi) (S:CScope X.env.scope sc) (c:capOk p i X.N sc=true)(t:∀cl C s H fp pins,PG (blk X sc i cl C s H fp pins) tg g) (hi:∀cl C s H fp pins,Ca (blk X sc i cl C s H fp pins) ifs tc) (R:∀cl C s H fp pins,PE (blk X sc i cl C s H fp pins) elt te)(u:∀x,foldedSetIterable iter X.env x=pure x:=by intro _;rfl):PE X (.ListComp elt [#[tg,iter,ifs,0]] sc pos) (oR p wi g tc te):=by
 intro pins s r H Q I h;let#[cl,a,f,b]:=yc (sc:=sc) (env:=X.env) λy F M=>I.ok.has y.1 (S.frees y F M);rw[eval_ListComp];show wpAny_comprehension_free (use:=none) rfl u a S.kind S.locs (bM (k pins s r H _ I h) λv O G=>bM G λB n K=>?_);let#[U,fp,Y,J,H2,e,z,T,j,A,W,#[Z,w],d]:=K;subst e;show yd P z T j A S c f b (λC=>t cl C n H2 fp pins) (λC=>hi cl C n H2 fp pins) (λC=>R cl C n H2 fp pins) w d λD C L O l q=>?_;let#[m,E]:=l.ns;show#[m,E,λh' o=>#[V.ref D,L,l.go o,rfl,q]]
theorem sW {i:Nat} {n c:Pos} (P:List (Option Nat)) (t:List Str) (hc:X.calm=true) (hN:X.N.Nodup) (G:X.N[i]?=!x) (f:X.env.scope.names.lookup x=!.local)(M:PI X tg iter wi) (S:CScope X.env.scope sc) (j:capOk P t X.N sc=true)(hg:∀cl C s H fp pins,PG (blk X sc t cl C s H fp pins) tg g) (hi:∀cl C s H fp pins,Ca (blk X sc t cl C s H fp pins) ifs tc) (he:∀cl C s H fp pins,PE (blk X sc t cl C s H fp pins) elt te)(B:swapsWith (.ListComp elt [#[tg,iter,ifs,0]] sc pos) (!(.Name x n)) c.line X.env=pure true:=by rfl)
  (hs:∀x,foldedSetIterable iter X.env x=pure x:=by intro _;rfl):PS X (.Assign [.Name x n] (.ListComp elt [#[tg,iter,ifs,0]] sc pos) c) (aP (oR P wi g tc te) (au i)):=by
 intro pins s w H D I h;let#[cl,d,p,r]:=yc (sc:=sc) (env:=X.env) λy hy hf=>I.ok.has y.1 (S.frees y hy hf);rw[exec_Assign_Name_used _ _ _ _ B];show Qr (wpAny_standAt (Qr ?_));change wpAny _ X.A (do let _<-comprehension (.ListComp elt [⟨tg,iter,ifs,0⟩] sc pos) sc X.env _ (newList []) false (eval iter X.env) !(assign (.Name x n) X.env)) _ _ s;show Qr (Ď (wpAny_comprehension_free (use:=!(assign (.Name x n) X.env)) (Q:=λ_ s'=>SP X pins D .next s') rfl hs d S.kind S.locs (bM (M pins s w H _ I h) λv s1 h1=>bM h1 λad O h2=>?_)) (λ_ s' hq=>Zy (Zy hq)) λ_ _ e=>e);let#[it,fp,tn,J,H2,e,I2,T,K,f2,W,#[m0,w0],k]:=h2;subst e;show yd (Q:=λy H1=>au i y w H1 D.nx) hc I2 T K f2 S j p r (λC=>hg cl C O H2 fp pins) (λC=>hi cl C O H2 fp pins) (λC=>he cl C O H2 fp pins) w0 k λu C H' s1 l q=>?_;change wpAny _ X.A (assign (.Name x n) X.env (.ref u)) _ _ _;show wpAny_assign_Name (oW l.inv hN G (.inl f) (v:=.ref u) rfl (λR I3 ⟨a,L,Z⟩=>?_) (.inr f));let#[m,hn]:=l.ns;have E:C≠a:=by
  rcases Z with z|z;.rw [z];show l.nl
  .show Ne.symm (l.nc x a z)
 show#[m,hn.sameBut L E,λh' F=>?_];have U:Inv X pins (w.set i !(.ref u)) H' {R with heap:=h'}:=I3.turned (t':=R.toks) (λb o Y e=>F.extBut b o Y e) l.un l.nl (.inr l.ab) l.nc l.np;show#[_,_,U,q]
end
section
variable{κ:List (Option Nat)} {g:TG} {tc:TT} {te:TE} {σ:St} {H:Hp} {Q:VK}
theorem Cd {lo:Int} (d:Nat->List V->Hp->Prop) (k:d 0 [] H) (j:n<=sizeLine) (hz:∀i ys H,d i ys H->ys.length<=i)(o:∀i ys H,i<n->d i ys H->g (.int (lo+i)) (cap κ σ) H λa H2=>pK (cap κ σ) a/\tc a H2 λb H3=>if b=true then te a H3 λy h=>d (i+1) (ys++[y]) h else d (i+1) ys H3)(q:∀ys H,d n ys H->∀p,H p=none->Q (.ref p) (upd H p (.lst ys))):∃W:Nat->Nat->List V->Hp->Prop,(∃m,W 0 m [] H)/\∀i m ys H,W i m ys H->((yX lo n).stop i H/\∀p,H p=none->Q (.ref p) (upd H p (.lst ys)))\/((yX lo n).go i H/\ys.length<sizeLine/\∃N:List V->Hp->Prop,(∀f H',N f H'->∃m',m'<m/\W (i+1) m' f H')/\∀x H',(yX lo n).yld i H x H'->g x (cap κ σ) H' λa H2=>pK (cap κ σ) a/\tc a H2 λb H3=>if b=true then te a H3 λy h=>N (ys++[y]) h else N ys H3):=by
 show#[λi m ys H=>m=n-i/\i<=n/\d i ys H,#[n,by simp,ñ _,k],?_];rintro i m ys H ⟨rfl,hi,p⟩;by_cases c:i<n;.show .inr #[c,Ý (Ù (hz _ _ _ p) c) j,d (i+1),λf H' l=>#[n-(i+1),(),rfl,c,l],λx H' y=>?_];let#[e,y]:=y;subst e y;show o i ys _ c p
 .have e:i=n:=();subst e;show .inl #[Nat.le_refl _,q ys H p]
theorem J2 {K:W.Frag} (d:Nat->List V->Hp->Prop) (r:d 0 [] H) (o:xs.length<=sizeLine) (k:∀i ys H,i<=xs.length->d i ys H->SqL K H a xs) (hz:∀i ys H,d i ys H->ys.length<=i)(n:∀i x ys H,xs[i]?=!x->d i ys H->g x (cap κ σ) H λc H2=>pK (cap κ σ) c/\tc c H2 λb H3=>if b=true then te c H3 λy j=>d (i+1) (ys++[y]) j else d (i+1) ys H3)(s:∀ys H,d xs.length ys H->∀p,H p=none->Q (.ref p) (upd H p (.lst ys))):∃W:Nat->Nat->List V->Hp->Prop,(∃m,W 0 m [] H)/\∀i m ys H,W i m ys H->((Ie K a).stop i H/\∀p,H p=none->Q (.ref p) (upd H p (.lst ys)))\/((Ie K a).go i H/\ys.length<sizeLine/\∃N:List V->Hp->Prop,(∀h H',N h H'->∃m',m'<m/\W (i+1) m' h H')/\∀x H',(Ie K a).yld i H x H'->g x (cap κ σ) H' λc H2=>pK (cap κ σ) c/\tc c H2 λb H3=>if b=true then te c H3 λy j=>N (ys++[y]) j else N ys H3):=by
 show#[λi m ys H=>m=xs.length-i/\i<=xs.length/\d i ys H,#[xs.length,by simp,ñ _,r],?_];rintro i m ys H ⟨rfl,hi,p⟩;have q:=k i ys H hi p;by_cases f:i<xs.length;.show .inr #[#[xs,xs[i],q,by simp[f]],Ý (Ù (hz _ _ _ p) f) o,d (i+1),λh H' l=>#[xs.length-(i+1),(),rfl,f,l],λx H' y=>?_];let#[e,y]:=y;subst e;show n i x ys _ (y xs q) p
 .have e:i=xs.length:=();subst e;show .inl #[#[xs,q,Ã _],s ys H p]
end
mutual inductive Dp (K:W.Frag) (H:Hp):V->PyData->Prop where|non:Dp K H .non .none|bl (b:Bool):Dp K H (.bl b) (.bool b)|int (i:Int):Dp K H (.int i) (.int i)|str (x:Str):Dp K H (.str x) (.str x)|lst {a:Addr} {xs:List V} {ds:List PyData}:SqL K H a xs->DpAll K H xs ds->Dp K H (.ref a) (.list ds)|tup {a:Addr} {xs:List V} {ds:List PyData}:SqT K H a xs->DpAll K H xs ds->Dp K H (.ref a) (.tuple ds)inductive DpAll (K:W.Frag) (H:Hp):List V->List PyData->Prop where|nil:DpAll K H [] []|cons {x:V} {xs:List V} {d:PyData} {ds:List PyData}:Dp K H x d->DpAll K H xs ds->DpAll K H (x::xs) (d::ds)end
theorem DpAll.ints {K:W.Frag}:∀ns:List Int,DpAll K H (ns.map V.int) (ns.map PyData.int)
 |[]=>.nil|n::r=>.cons (.int n) (DpAll.ints r)
theorem Dp.ints {K:W.Frag} {ns:List Int} (h:SqL K H a (ns.map V.int)):Dp K H (.ref a) (.list (ns.map PyData.int)):=.lst h (DpAll.ints ns)
section
variable{X:Cx} {pins:List (Addr×Obj)} {σ:St} {H:Hp} {s:Shared}
mutual theorem Dp.reads (I:Inv X pins σ H s):∀{x:V} {d:PyData} {u:Value},Dp X.K H x d->RelV x u->∃as,Reads s.heap u d as|_,_,_,.non,r=>by cases(show _=Value.none from r);show#[_,.none]|_,_,_,.bl b,r=>by cases(show _=Value.bool b from r);show#[_,.bool b]|_,_,_,.int i,r=>by let#[t,rfl]:=r;show#[_,.int i t]|_,_,_,.str x,r=>by let#[t,rfl]:=r;show#[_,.str x t]|_,_,_,.lst (a:=a) h hs,r=>by cases(show _=Value.ref a from r);let#[c,rv,p,_]:=I.list h;let#[as,q]:=DpAll.reads I hs rv;let#[o,n,e,f,_,g]:=p;show#[_,.list e f g (by simpa using q)]|_,_,_,.tup (a:=a) h hs,r=>by cases(show _=Value.ref a from r);let#[c,rv,p,_]:=I.tuple h;let#[as,q]:=DpAll.reads I hs rv;let#[o,e,f,n,g]:=p;show#[_,.tuple e f g (by simpa using q)]theorem DpAll.reads (I:Inv X pins σ H s):∀{xs:List V} {ds:List PyData} {us:List Value},DpAll X.K H xs ds->Vals xs us->∃as,ReadsAll s.heap us ds as|_,_,_,.nil,r=>by cases r;show#[_,.nil]|_,_,_,.cons h hs,r=>by cases r with|cons r rr=>let#[as,q]:=Dp.reads I h r;let#[bs,p]:=DpAll.reads I hs rr;show#[_,.cons q p]end
def rEqD (K:W.Frag):R2:=λx y H Q=>∃d e,Dp K H x d/\Dp K H y e/\SeqAt.shaped d=true/\SeqAt.shaped e=true/\Q (.bl (PyData.eqv d e)) H
def rNeD (K:W.Frag):R2:=λx y H Q=>∃d e,Dp K H x d/\Dp K H y e/\SeqAt.shaped d=true/\SeqAt.shaped e=true/\Q (.bl (not (PyData.eqv d e))) H
theorem Nt (l:X.A.units+64<cLine):gW X (compareOp .Eq) (rEqD X.K):=by intro a s n H x y v u Q I c k h;let#[d,e,g,i,j,f,q]:=h;let#[as,m]:=g.reads I c;let#[bs,b]:=i.reads I k;show eq_dataH m b j f l #[.bl _,H,I,rfl,q]
theorem Nu (l:X.A.units+64<cLine):gW X (compareOp .NotEq) (rNeD X.K):=by intro a s n H x y v u Q I c k h;let#[d,e,g,i,j,f,q]:=h;let#[as,m]:=g.reads I c;let#[bs,b]:=i.reads I k;show ne_dataH m b j f l #[.bl _,H,I,rfl,q]
end
theorem gB:∀ns ms:List Int,PyData.eqvAll (ns.map PyData.int) (ms.map PyData.int)=decide (ns=ms)
 |[],[]=>by simp[PyData.eqvAll]|[],_::_=>by simp[PyData.eqvAll]|_::_,[]=>by simp[PyData.eqvAll]|n::r,m::q=>by simp only[Ä,PyData.eqvAll,PyData.eqv,gB r q];by_cases h:n=m<;>simp[h]
theorem Ce (ns ms:List Int):PyData.eqv (.list (ns.map PyData.int)) (.list (ms.map PyData.int))=decide (ns=ms):=by simp only[PyData.eqv];show gB ns ms
theorem rEqD.ints {K:W.Frag} {b:Addr} {ns:List Int} (c:SqL K H a (ns.map V.int)) (d:SqL K H b (ms.map V.int)) (q:Q (.bl (decide (ns=ms))) H):rEqD K (.ref a) (.ref b) H Q:=#[_,_,Dp.ints c,Dp.ints d,PySem.W.shaped_ints ns,PySem.W.shaped_ints ms,by rw[Ce];show q]
section
variable{X:Cx}
theorem sX:bY X (.builtin "isinstance") (λxs H Q=>∃T x t b,xs=[x,.ty T]/\TyOf X.K H x t/\PySem.W.kitOne X.K t (.type T)=!b/\Q (.bl b) H):=by
 intro c s i H xs us Q I rv h;let#[T,x,t,b,rfl,ty,e,q]:=h;let#[u,f,rfl,g,a]:=rv.two;cases(show f=Value.type T from a);show zc I g ty e λd=>#[.bl b,H,I.tok d,rfl,q]
theorem Cg (j:X.calm=true):bY X (.builtin "sum") (λxs H Q=>∃(a:Addr) (ns:List Int),xs=[.ref a]/\SqL X.K H a (ns.map V.int)/\Q (.int ns.sum) H):=by
 intro d s k H xs us Q I rv h;let#[a,ns,rfl,f,q]:=h;let#[u,rfl,g]:=rv.one;cases(show u=Value.ref a from g);let#[b,r,c,hz]:=I.list f;have hi:=intsAre_of r;let#[xs,e]:=hi.allInts.items;rw[e]at c;show sum_intListG (I.ok.hd j) c.isList λh' l t' i=>?_;have es:preSum (numAt xs) xs.size=ns.sum:=by rw[preSum_eq,è (by simp),<-nums_intItems,<-e];change(numsOf b.toArray.toList).sum=_;rw[show b.toArray.toList=b from rfl,hi.numsOf]
 rw[es];show#[.int _,H,I.kept i,#[_,rfl],q]
end
section
variable{X:Cx} {tg:Expr}
noncomputable def Xb (x:Str):It:=#[λi _=>i<x.cps.size,λi H v H'=>H'=H/\∃c,x.cps[i]?=!c/\v=.str #[([c].toArray)],λi _=>i=x.cps.size]
theorem Ci {P:Program} {K:W.Frag} (x:Str) (t:Tok) (m:String) (a:Addr) (L:["enumerate","zip","dict_itemiterator","dict_reverseitemiterator","odict_iterator","itertools.zip_longest","itertools.pairwise"].contains m=false)(W:∀A:Around,A.handled=none->Walks P w A a [a] [a] x.cps.size (SignAt x) (λi h=>h.IsStrIter a m x t i))(S:∀(A:Around) (i:Nat) (s:Shared) (Q:Value->Shared->Prop) (E:Value->Shared->Prop),s.heap.IsStrIter a m x t i->Q (.ref a) s->wpAny (model P w) A (pyIter (.ref a)) Q E s):Turn P w K tg (Xb x) [a] a (λi h=>h.IsStrIter a m x t i)where
 mem:=by simp
 obj:=λi h st b g=>by
  have e:b=a:=by simpa using g
  subst e;let#[o,e,c,d]:=st;show#[o,e,λv z=>by rw[d]at z;cases z]
 keep:=λi h h' st k=>by let#[o,e,r]:=st;show#[o,k a (by simp) o e,r]
 item:=by
  intro X B p J M i f s O H E I l st C;subst B p J;let#[y,N,Y,D,G,f5]:=l a (by simp);show(W X.A (I.ok.hd M)).item i s _ _ C st λv h' n U j q=>?_;let#[c,u,R,rfl]:=U;have T:Inv X f O H {s with heap:=h',toks:=n}:=I.turned (λb o g e=>q b o (by simpa using g) e) y N D G f5;let#[o,e,F,d]:=id j;show⟨_,rfl,oX (s:={s with heap:=h',toks:=n}) e F d L ⟨.str ⟨([c].toArray)⟩,H,T,⟨u,rfl⟩,⟨rfl,c,R,rfl⟩,j,λb g=>(l b g).1⟩⟩
 done:=by intro X B p J M i f s O H E I l st C;subst B p J;let#[y,N,Y,D,G,f5]:=l a (by simp);have e:i=x.cps.size:=C;subst e;show(W X.A (I.ok.hd M)).done s _ _ st λh' n q=>#[rfl,I.turned (λb o g e=>q b o (by simpa using g) e) y N D G f5]
 self:=λA i s Q E st h=>S A i s Q E st h
def Nv (tl:TE):TI:=λσ H R=>tl σ H λx H1=>∃z,x=.str z/\R (Xb z) H1
theorem Ny {l:Expr} {k:TE} (p:PE X l k):PI X tg l (Nv k):=by
 intro c s j H R I h;show bM (p c s j H _ I h) λv a ⟨x,H1,g,u,m⟩=>?_;let#[z,e,q]:=m;subst e;let#[t,rfl]:=u;have fin:∀(d:String) (o:Obj),(["enumerate","zip","dict_itemiterator","dict_reverseitemiterator","odict_iterator","itertools.zip_longest","itertools.pairwise"].contains d=false)->(∀A:Around,A.handled=none->Walks X.prog X.w A a.heap.objs.size [a.heap.objs.size] [a.heap.objs.size] z.cps.size (SignAt z) (λi h=>h.IsStrIter a.heap.objs.size d z t i))->(∀(A:Around) (i:Nat) (s:Shared) (Q:Value->Shared->Prop) (E:Value->Shared->Prop),s.heap.IsStrIter a.heap.objs.size d z t i->Q (.ref a.heap.objs.size) s->wpAny (model X.prog X.w) A (pyIter (.ref a.heap.objs.size)) Q E s)->(a.heap.push o).IsStrIter a.heap.objs.size d z t 0->PIE X c j tg R (.ref a.heap.objs.size) {a with heap:=a.heap.push o}:=λd o r W S st=>by
  show#[a.heap.objs.size,[a.heap.objs.size],_,_,H1,rfl,g.kept (t':=a.toks) λb o e=>Yf _ e,Ci z t d _ r W S,st,λb n=>?_,q];have e:b=a.heap.objs.size:=by simpa using n
  subst e;show g.fpOk (Ã _) (g.hok.fresh (Ã _))
 cases ha:z.cps.all (· <128);.show wpAny_pyIter_wide ha (fin "str_iterator" _ (by decide) (λA f=>Walks.strWide f _ z t) (λA i s Q E st h=>wpAny_pyIter_striter_wide st h) #[_,Ë _ rfl,rfl,rfl])
 .show wpAny_pyIter_ascii ha (fin "str_ascii_iterator" _ (by decide) (λA f=>Walks.strAscii f _ z t) (λA i s Q E st h=>wpAny_pyIter_striter_ascii st h) #[_,Ë _ rfl,rfl,rfl])
noncomputable def Tg (lo c:Int) (n:Nat):It:=#[λi _=>i<n,λi H x H'=>H'=H/\x=.int (lo+i*c),λi _=>n<=i]
def Yi (ta:TA):TI:=λσ H R=>ta σ H λvs H1=>∃(i j c:Int) (n:Nat),vs=[.int i,.int j,.int c]/\c≠0/\Builtin.Range.small i j c=true/\Builtin.divisionGoesByPylong (j-i) c=false/\Builtin.Range.rangeSize i j c=(n:Int)/\R (Tg i c n) H1
end
noncomputable def Yj (K:W.Frag) (a b:Addr):It:=⟨λi H=>∃xs ys x y,SqL K H a xs/\SqL K H b ys/\xs[i]?=!x/\ys[i]?=!y,λi H v H'=>∃p x y,H p=none/\v=.ref p/\H'=upd H p (.tup [x,y])/\(∀xs,SqL K H a xs->xs[i]?=!x)/\∀ys,SqL K H b ys->ys[i]?=!y,λi H=>∃xs ys,SqL K H a xs/\SqL K H b ys/\(xs.length<=i\/ys.length<=i)⟩
structure ZipSt (z TI TO i1 i2 a b:Addr) (i:Nat) (h:Heap):Prop where
 hz:IsZip h z TI TO .none
 hTI:IsPair h TI (.ref i1) (.ref i2)hTO:∃u v,IsPair h TO u v
 h1:h.IsListIter i1 a i
 h2:h.IsListIter i2 b i
structure ZipNe (z TI TO i1 i2:Addr):Prop where
 TIz:TI≠z
 TOz:TO≠z
 i1z:i1≠z
 i2z:i2≠z
 TITO:TI≠TO
 TIi1:TI≠i1
 TIi2:TI≠i2
 TOi1:TO≠i1
 TOi2:TO≠i2
 i12:i1≠i2
theorem Inv.turnedAll {X:Cx} {h:St} {s:Shared} {t':Nat} (I:Inv X pins h H s) (k:∀b o,b∉ch->s.heap.get? b=!o->h'.get? b=!o)
  (d:∀b∈ch,mD X pins H b):Inv X pins h H {s with heap:=h',toks:=t'}:=by
 have f:∀b u,H b=!u->b∉ch:=λb u e z=>by rw[(d b z).1]at e;cases e
 show I.step (g':=s.gens) (d':=s.drawn) (ch:=ch) (λb g=>?_) (λb o _ _ a e _=>k b o a e) (λb o _ _ a e _=>#[o.slots,k b o a e]) (λ_ _ _ _ n=>n)
  (λb o a e=>#[o,k b o a e]) (λ_ _ e=>e) (λ_ _ _ e=>e) (λb ps e=>#[([].toArray),by rw[e];simp]) (λm j=>?_) (λb u e=>?_) I.bare
 .show #[(d b g).2.2.2.1,(d b g).2.1,(d b g).2.2.2.2.1,(d b g).2.2.2.2.2]
 .obtain ⟨o,es,i,l,r⟩:=j;show#[o,es,i,k _ o (λz=>(d _ z).2.1 rfl) l,r]
 .show (I.hok b u e).stay (λc v a q=>k c v ?_ q) (λ_ q=>q) λ_ _ q=>q
  rcases a with z|z
  .rw [z];show f b u e
  .show f c _ z
def YL (K:W.Frag) (ta:TA):TI:=λσ H R=>ta σ H λvs H1=>∃a b xs ys,vs=[.ref a,.ref b]/\SqL K H1 a xs/\SqL K H1 b ys/\R (Yj K a b) H1
structure Cal (P:Program) (w:World) (K:W.Frag) (mg:Str->Option Value) (base:Heap) (n:Nat) (x:Str) (ps:List Str) (sp:Sp):Prop where ex:∃(f:Addr) (fd:FuncData),FnOk P w K mg base KN n f fd ps sp/\Binds K fd ps []/\W.keepIn K (.ref f)=true/\mg x=!(.ref f)
section
variable{X:Cx} {n k:Nat} {x:Str} {ps:List Str} {sp:Sp} {p pos:Pos} {e:Expr} {es:List Expr} {t:TA}
theorem Nz (c:Cal X.prog X.w X.K X.mg X.base n x ps sp) (i:Room k X.A) (d:n<=k) (g:Gl X x) (j:PA X (e::es) t) (a:(x==("__debug__":Str))=false:=by decide)(l:starEach (e::es) X.env=(false,eval e X.env)::starEach es X.env:=by rfl) (b:(backTo pos (starEach es X.env)).any (·.1)=false:=by rfl):PE X (.Call (.Name x p) (e::es) [] pos) (aR sp [] E0 t):=by let#[f,q,F,h,m,o]:=c.ex;show Il F (i.mono d) g o m h .nil Te j a l b
end
theorem small (h:n<=1000):n<=sizeLine:=ć (zu h)
theorem aB (h:H p=none) (o:HO):Same H (upd H p o):=λb u q=>by rw[az (aW q h)];show q
theorem Same.get {b:Hp} (e:Same H b) {o:HO} (h:H a=!o):b a=!o:=e a o h
theorem aD {o b:HO} (h:H p=none) (q:H a=!o):upd H p b a=!o:=aB h b a o q
section
variable{X:Cx} (K:W.Frag) (hK:X.K=K)
include hK
theorem Cj:IxR X (fj K):=hK▸xW
theorem J3:IxR X (aO K):=hK▸Bk
theorem sY:KJ X (Bp K):=hK▸Iv
theorem J4:KJ X (MP K):=hK▸Bj
theorem fZ:gW X (compareOp .In) (xX K false):=hK▸zj
theorem gH:gW X (compareOp .NotIn) (xX K true):=hK▸qt
theorem qC (a:X.A.units+64<cLine):gW X (compareOp .Eq) (rEqD K):=hK▸Nt a
theorem ye (a:X.A.units+64<cLine):gW X (compareOp .NotEq) (rNeD K):=hK▸Nu a
theorem J5 (a:X.A.units<cLine):gW X (compareOp .Lt) (MT K):=hK▸N5 a
def cg (K:W.Frag):List V->Hp->VK->Prop:=λxs H Q=>∃x n,xs=[x]/\T6 K x H n/\Q (.int n) H
theorem aK:bY X (.builtin "len") (cg K):=by subst hK;show Bc
def dM (K:W.Frag):List V->Hp->VK->Prop:=λxs H Q=>∃p ys,xs=[.ref p]/\((SqL K H p ys/\∀l,H l=none->Q (.ref l) (upd H l (.tup ys)))\/(SqT K H p ys/\Q (.ref p) H))
theorem c7:bY X (.type "tuple") (dM K):=by subst hK;show oN
def dN (K:W.Frag):List V->Hp->VK->Prop:=λxs H Q=>∃T x t b,xs=[x,.ty T]/\TyOf K H x t/\PySem.W.kitOne K t (.type T)=!b/\Q (.bl b) H
theorem bR:bY X (.builtin "isinstance") (dN K):=by subst hK;show sX
def NB (K:W.Frag):List V->Hp->VK->Prop:=λxs H Q=>∃(a:Addr) (ns:List Int),xs=[.ref a]/\SqL K H a (ns.map V.int)/\Q (.int ns.sum) H
theorem zF (a:X.calm=true):bY X (.builtin "sum") (NB K):=by subst hK;show Cg a
theorem b8 {l:Expr} {a:TE} (b:PE X l a):PI X tg l (cO K a):=hK▸Ig b
theorem fO {l:Expr} {a:TE} (b:PE X l a):PI X tg l (lJ K a):=hK▸Ms b
def jw (K:W.Frag) (ta:TE):TT:=λσ H Q=>ta σ H λx H'=>∃k,Ba K x H' k/\Q k H'
theorem bJ {a:Expr} {c:TE} (d:PE X a c) (e:∀b,isTrue a X.env b=(do let v<-b;standAt a.pos;holding [v] (truthy v))):PT X a (jw K c):=by subst hK;show Bb d e
theorem cH {k:Nat} {t:HR} (c:X.calm=true) (h:SQ X es t)(b:(assignEach es X.env).length=n:=by rfl) (a:(assignEach es X.env).findIdx? (·.1)=none:=by rfl):PG X (.Tuple es k pos) (gZ K n t):=by subst hK;show Mi c h b a
end
section
variable{X:Cx} (K:W.Frag) (hK:X.K=K) {o e:Expr} {es:List Expr} {to:TE} {t:TA} {name:Str} {apos cpos:Pos} {T id:String} {r:V->List V->Hp->VK->Prop}
include hK
theorem J6 (g:PlainAttrs T) (c:Slot T name id) (d:typeOf (.builtin id)=pure (.type "method_descriptor")) (f:Ws X id r) (e:PE X o to) (a:attributeBase o name X.env (eval o X.env)=eval o X.env:=by rfl)(b:(apos.endLine==cpos.line)=true:=by rfl):PE X (.Call (.Attribute o name apos) [] [] cpos) (Iw K T r to):=by subst hK;show Nb g c d f e a b
theorem qD (l:PlainAttrs T) (f:Slot T name id) (g:typeOf (.builtin id)=pure (.type "method_descriptor")) (k:Ws X id r) (i:PE X o to) (j:PA X (e::es) t) (b:attributeBase o name X.env (eval o X.env)=eval o X.env:=by rfl)(d:((backTo cpos (starEach (e::es) X.env)).all (λx=>not x.1)&&(backToKw cpos (keywordEach [] X.env)).all (λx=>x.1.isSome)&&decide ((e::es).length+([]:List Keyword).length+(if([]:List Keyword).isEmpty then 0 else 1)<30))=true:=by rfl)(c:(apos.endLine==cpos.line)=true:=by rfl) (h:starEach (e::es) X.env=(false,eval e X.env)::starEach es X.env:=by rfl) (a:(backTo cpos (starEach es X.env)).any (·.1)=false:=by rfl):PE X (.Call (.Attribute o name apos) (e::es) [] cpos) (oO K T r to t):=by subst hK;show Tc l f g k i j b d c h a
end
abbrev cD:R2:=rO λi j=>.int (i+j)
abbrev jO:R2:=rO λi j=>.int (i-j)
abbrev pL:R2:=rI CMul λi j=>.int (i*j)
abbrev cC:R2:=rI T5 λi j=>.int (i/j)
abbrev cL:R2:=rI (λ_ j=>0<j) λi j=>.int (i%j)
abbrev KY:R2:=rI Ij λi j=>.int (i^j.toNat)
abbrev yf:R2:=rI Ij λi j=>.int (i*2^j.toNat)
abbrev Th:R2:=rO λi j=>.int (Builtin.bitAnd i j)
abbrev KZ:R2:=rO λi j=>.int (Builtin.bitXor i j)
abbrev J7:R2:=rO λi j=>.bl (decide (i<j))
abbrev NK:R2:=rO λi j=>.bl (decide (i<=j))
abbrev kO:R2:=rO λi j=>.bl (decide (j<i))
abbrev fV:R2:=λx y H Q=>∃i j,x=.str i/\y=.str j/\i.length+j.length<=sizeLine/\Q (.str (i++j)) H
abbrev Cm:R2:=λx y H Q=>∃i j,x=.str i/\y=.str j/\Q (.bl (decide (i.cps.toList<j.cps.toList))) H
abbrev Ti:R2:=λx y H Q=>∃i j,x=.str i/\y=.str j/\Q (.bl (not (decide (j.cps.toList<i.cps.toList)))) H
abbrev iK:R2:=λx y H Q=>y=.non/\Q (.bl (decide (x=.non))) H
abbrev vh:R2:=λx y H Q=>y=.non/\Q (.bl (not (decide (x=.non)))) H
abbrev Tj:V->List V->Hp->VK->Prop:=λx xs H Q=>∃i,x=.int i/\xs=[]/\Q (.int (Builtin.Int.intBits i)) H
abbrev kW:List V->Hp->VK->Prop:=λxs H Q=>∃i j,xs=[.int i,.int j]/\Q (.int (if j<i then j else i)) H
abbrev Xc:List V->Hp->VK->Prop:=λxs H Q=>∃i j,xs=[.int i,.int j]/\Q (.int (if j>i then j else i)) H
abbrev J8:Mf:=X4 λi j=>i+j
def Cf (v:Value) (o:Obj):Prop:=∃vs,o.data=.fields vs/\vs[2]?=!v
def F2 (h:Heap) (x:Addr) (v:Value):Prop:=∃o,h.get? x=!o/\Cf v o
def Ch (h:Heap):List Addr->Prop
 |[]=>False|[x]=>F2 h x .none|x::y::l=>F2 h x (.ref y)/\Ch h (y::l)
def Cn (x:Addr) (h:Heap):Prop:=∃l,(x::l).Nodup/\Ch h (x::l)
def Cp {α:Type}:Sem α->Prop
 |.pure _=>True|.raise _=>True|.unsupported _=>True|.finish _=>True|.rule _ k=>Cp (k Unit.unit)|.at _ k=>Cp (k Unit.unit)|.load _ _ k=>∀o,Cp (k o)|.update _ _ f k=>(∀o v,Cf v o->Cf v (f o))/\Cp (k Unit.unit)|.alloc _ k=>∀a,Cp (k a)|.loadIfAlive _ k=>∀o,Cp (k o)|.point _ k=>Cp (k Unit.unit)|.fresh k=>∀t,Cp (k t)|.ask k=>∀t,Cp (k t)|.handled _ k=>∀t,Cp (k t)|.stack k=>∀l,Cp (k l)|.register _ _=>True|_=>False
def YM (P:Program) (w:World) (outer:List Env) (H:Hp) (s:Shared) (E:XK) (x:Addr) (s':Shared):Prop:=∃(C a0:Value) (B:Heap) (H':Hp),s'.os=s.os/\AllBare s'.gens/\Un (frs outer) [] H H' s.heap s'.heap/\HOk P w H' s'.heap/\H' x=none/\Heap.FlyingW B outer x C a0 s'.heap/\s.heap.get? x=none/\(∀b o,s.heap.get? b=!o->b∉frs outer->∃u,B.get? b=!u)/\(∀b o,H' b=!o->∃u,B.get? b=!u)/\E C none H'
def Yk (P:Program) (w:World):Ag:=λouter H s E e s'=>∃x:Addr,e=.ref x/\YM P w outer H s E x s'/\Cn x s'.heap
structure CalX (P:Program) (w:World) (K:W.Frag) (mg:Str->Option Value) (base:Heap) (n:Nat) (x:Str) (ps:List Str) (sp:Sp):Prop where ex:∃(f:Addr) (fd:FuncData),FnOk P w K mg base (Yk P w) n f fd ps sp/\Binds K fd ps []/\W.keepIn K (.ref f)=true/\mg x=!(.ref f)
section
variable{X:Cx} {x:Str} {np cpos pos:Pos} {e:Expr} {es:List Expr} {t:TA} {E:XK} {C:Addr} {bm:List Value} {B newId initId:String}
def Xd (E:XK) (C:Addr) (t:TA):TS:=λ_ σ H=>t σ H λvs H1=>vs.length<=sizeLine/\E (.ref C) none H1
end
def ExcAt (x:Addr) (C:Value) (h:Heap):Prop:=∃o vs,h.get? x=!o/\o.cls=C/\o.data=.fields vs
abbrev YQ (x:Addr) (C:Value):HO:=.ext (ExcAt x C)
section
variable{X:Cx} {body:List Stmt} {b₀:Stmt} {suite:List Stmt} {c n:Str} {np hpos pos:Pos} {tb th:TS} {Cc:Addr} {i:Nat}
noncomputable def behind (i:Nat) (D:Ends):Ends where
 nx:=λσ H=>D.nx (σ.set i none) H
 rt:=D.rt
 bk:=λσ H=>D.bk (σ.set i none) H
 ct:=λσ H=>D.ct (σ.set i none) H
end
end L2
end
section
namespace L2
open PySem PySem.Spec PySem.Calls PyProof.Rows PySem.W PySem.Builtin PySem.Builtin.ObjectAttr PySem.Builtin.Getset_descriptor
structure ExcK (K:W.Frag) (C:Addr):Prop where
 ex:PySem.W.excIn K C [.type "ValueError",.type "Exception",.type "BaseException",.type "object"] "ValueError.__new__"=true
 ga:findIn K (.ref C) "__getattribute__"=!(!(.builtin "BaseException.__getattribute__"))gt:findIn K (.ref C) "__getattr__"=!none
 cl:findIn K (.ref C) "__class__"=!(!(.builtin "object.__class__"))ge:specialIn K (.builtin "object.__class__") "__get__"=!(!(.builtin "getset_descriptor.__get__"))tk:takesIn K (.builtin "object.__class__")=!true
 mo:mroIn K C (.type "object")=!true
 mb:subIn K (.ref C) (.type "BaseException")=!true
def Tp (K:W.Frag):List V->Hp->VK->Prop:=λxs H Q=>∃(x C:Addr) (y:V) (b:Bool),xs=[.ref x,y]/\H x=!(YQ x (.ref C))/\ExcK K C/\
 ((∃T,y=.ty T/\kitOne K (.ref C) (.type T)=!b)\/(∃D,y=.ref D/\kitOne K (.ref C) (.ref D)=!b)\/∃(p:Addr) (ds:List Addr),y=.ref p/\H p=!(.tup (ds.map V.ref))/\kitAny K (.ref C) (ds.map Value.ref)=!b)/\Q (.bl b) H
end L2
end
section
namespace L2
open PySem PySem.Spec PyProof.Rows
variable{k:Nat} {ta:TA} {a:Expr} {w:World} {elts:List Expr} {p pos tpos:Pos} {R:Value->Shared->Prop}
def J9:V->Option Int->Option Int->Hp->VK->Prop:=λx lo hi H Q=>∃s:Str,x=.str s/\s.length<=sizeLine/\Q (.str (Txt.slice s lo hi)) H
section
variable{X:Cx}
theorem Cq:KJ X J9:=by
 intro a s e H x v p o lo hi c Q I f b pl d h;let#[z,rfl,hz,q]:=h;let#[t,rfl]:=f;have fin:∀(l u:Option (Int×Tok)),l.map (·.1)=lo->u.map (·.1)=hi->s.heap.IsSlice c l u none->wpAny (model X.prog X.w) X.A (getItem (.str z t) (.ref c)) (EP X a e Q) X.xe s:=by intro l u n g m;show wpAny_getItem_str_slice (l:=l) (u:=u) (st:=none) m rfl ?_;subst n g;show post_val_or_str #[Nat.le_trans (Txt.slice_le z _ _) hz,λt' k=>#[.str _,H,I.tok k,#[t',rfl],q]]
 show#["str",_,F.slot_str_getitem.lookup,typeIs_str _ _ _,?_];cases pl with
 |none=>cases d with
  |none=>show fin none none rfl rfl b|int j u=>show fin none (!(j,u)) rfl rfl b
 |int i u=>cases d with
  |none=>show fin (!(i,u)) none rfl rfl b|int j u'=>show fin (!(i,u)) (!(j,u')) rfl rfl b
end
noncomputable def Xe (K:W.Frag) (a:Addr):It:=⟨λi H=>∃xs x,SqL K H a xs/\xs[i]?=!x,λi H v H'=>∃p x,H p=none/\v=.ref p/\H'=upd H p (.tup [.int (i:Int),x])/\∀xs,SqL K H a xs->xs[i]?=!x,λi H=>∃xs,SqL K H a xs/\xs.length<=i⟩
structure EnSt (e it a:Addr) (i:Nat) (h:Heap):Prop where
 he:∃old,IsEnum h e it (i:Int) old
 h1:h.IsListIter it a i
theorem zG {P:Program} {K:W.Frag} {e B:Addr} (a:Addr) (D:e≠B):Turn P w K (.Tuple elts k tpos) (Xe K a) [e,B] e (EnSt e B a)where
 mem:=by simp
 obj:=λi h st c F=>by
  let#[#[j,l],#[Y,M,c1,d1]]:=st;simp only[Å,æ,ď]at F;rcases F with rfl|rfl;.show #[_,l,λv z=>by cases z]
  .show #[Y,M,λv z=>by rw[d1]at z;cases z]
 keep:=λi h h' st t=>by let#[#[j,l],C]:=st;show#[#[j,t e (by simp) _ l],C.at λo e=>t B (by simp) o e]
 item:=by
  intro X J Q U F i m s G H E I A st L;subst J Q U;let#[xs,x,r,y]:=L;let#[N,rv,p,O]:=I.list r;let#[u,hu,ru]:=rv.get y;let#[#[j,l],C]:=id st;show wpAny_pyNext_enum_item (x:=u) l C p.isList (by simpa using hu) D λh' a1 a2 a3 a4 a5=>?_;show#[_,rfl,wpAny_letOwnedTupleGo_enum a1 λg b1 R=>?_];have hT:s.heap.objs.size≠e:=ı (Ç l);have t:∀c o,c∉[e,B]->s.heap.get? c=!o->g.get? c=!o:=λc o d q=>by simp only[Å,æ,ď,not_or]at d;show R.extBut _ _ d.1 (a5 c o d.1 d.2 q)
  have I1:Inv X m G H {s with heap:=g,toks:=s.toks+1}:=I.turnedAll t A;have f:H s.heap.objs.size=none:=I.hok.fresh (Ã _);have e5:g.get? s.heap.objs.size=!{cls:=.type "tuple",data:=.seq ([.int i s.toks,u].toArray)}:=R.extBut _ _ hT a3;have un:Un (frs X.stack) [e,B] H (upd H s.heap.objs.size (.tup [.int (i:Int),x])) s.heap g:=⟨λb o q _ _ y=>t b o y q,λb o q _ _ y=>⟨o.slots,t b o y q⟩,λb o q n _=>by rw[az (ã (Ç q))];show n,λb o q y=>⟨o,t b o y q⟩,
    λb xs q=>by rw[az (aW q f)];show q,λb o x q=>by rw[az (aW q f)];show q,λb ps q=>⟨([].toArray),by rw[az (aW q f),q];simp⟩⟩;have T:HOk X.prog X.w (upd H s.heap.objs.size (.tup [.int (i:Int),x])) g:=HOk.track I1.hok f #[by change 2<=sizeLine;decide,[.int i s.toks,u],.cons #[_,rfl] (.cons ru .nil),_,e5,rfl,_,rfl];have I2:Inv X m G (upd H s.heap.objs.size (.tup [.int (i:Int),x])) {s with heap:=g,toks:=s.toks+1}:=I.call' (s':={s with heap:=g,toks:=s.toks+1}) rfl un T I.bare λc d=>⟨(A c d).2.2.2.1,(A c d).2.1,(A c d).2.2.2.2⟩;show#[.ref s.heap.objs.size,_,I2,rfl,#[_,x,f,rfl,rfl,λad h=>by rw[I.list_inj h r];show y],#[#[u,by have:=b1;rwa[show((i:Int)+1)=((i+1:Nat):Int)by rfl']at this],a2.extBut R.extBut (Ne.symm D)],λc d=>?_];have S:c<s.heap.objs.size:=by
   let#[Y,M,_]:=C;simp only[Å,æ,ď]at d;rcases d with rfl|rfl;.show Ç l
   .show Ç M
  rw[az (ã S)];show(A c d).1
 done:=by
  intro X J Q U F i m s G H E I A st L;subst J Q U;let#[xs,r,Z]:=L;let#[N,rv,p,O]:=I.list r;let#[#[j,l],C]:=id st;have ae:=rv.length;show wpAny_pyNext_enum_end (I.ok.hd F) l C p.isList (by simp;rfl') λh' t=>?_;show#[rfl,I.turnedAll (t':=s.toks) (λc o d q=>?_) A];simp only[Å,æ,ď,not_or]at d;show t c o d.2 q
 self:=λ_ _ _ _ _ st h=>by let#[j,l]:=st.he;show wpAny_pyIter_enum l h
def yg (K:W.Frag) (ta:TA):TI:=λσ H R=>ta σ H λvs H1=>∃a xs,vs=[.ref a]/\SqL K H1 a xs/\R (Xe K a) H1
theorem Ja {X:Cx} (x:Gl X "enumerate") (D:X.calm=true) (t:X.mg "enumerate"=none) (n:PA X [a] ta) (z:starEach [a] X.env=[(false,eval a X.env)]:=by rfl):PI X (.Tuple elts k tpos) (.Call (.Name "enumerate" p) [a] [] pos) (yg X.K ta):=by
 intro d s o H R I h;show Call_ (km I x t (show bootBuiltins "enumerate"=!(.type "enumerate")by ac_nf) (Ļ (bM (n pos d s o H _ I h) λus f ⟨vs,H1,i,B,m⟩=>?_) (by rw[z];rfl) (by rfl)));let#[la,xs,e,j,q]:=m;subst e;cases B with|cons r rr=>
  cases rr;cases r;let#[y,rv,u,A]:=i.list j;show call_enumerate_list u.isList λh' l v C w=>?_;show wpAny_pyIter_enum l ?_;show#[f.heap.objs.size+1,[f.heap.objs.size+1,f.heap.objs.size],_,_,H1,rfl,i.kept (t':=f.toks) w,zG la (by change(_:Nat)≠_;rfl'),#[#[_,l],v],λc b=>?_,q];have g:f.heap.objs.size<=c:=by simp only[Å,æ,ď]at b;rcases b with rfl|rfl<;>(change(_:Nat)<=_;rfl')
  show i.fpOk g (i.hok.fresh g)
theorem Cr {X:Cx} (K:W.Frag) (b:X.K=K) (c:Gl X "enumerate") (e:X.calm=true) (g:X.mg "enumerate"=none) (f:PA X [a] ta) (d:starEach [a] X.env=[(false,eval a X.env)]:=by rfl):PI X (.Tuple elts k tpos) (.Call (.Name "enumerate" p) [a] [] pos) (yg K ta):=by subst b;show Ja c e g f d
section
variable{prog:Program} {w:World} {A:Around} {E:Value->Shared->Prop} {s:Shared} {it d:Addr} {i ep:Nat} {od:Obj} {es:Array DictEntry} {Q:Option Value->Shared->Prop}
theorem jP (f:s.heap.IsKeyIter it d i es.size ep) (e:s.heap.get? d=!od) (g:od.data=.dict es ep) (hi:i<es.size)(m:∀h',h'.IsKeyIter it d (i+1) es.size ep->Heap.SameBut it s.heap h'->Q (some es[i].key) {s with heap:=h'}):wpAny (model prog w) A (pyNext (.ref it)) Q E s:=by
 let#[o,j,q,h]:=id f;have T:=f.typeIs (s:=s);unfold pyNext;show Qr (Œ (wpAny_callSpecial?_slot (name:=Str.ofString "__next__") T ĸ (ê ĸ T F.entry_dict_keyiterator_next ?_ (F.args_dict_keyiterator_next_1 _))));have p:Builtin.Dict_items.ownsTuple "dict_keyiterator"=false:=by decide
 have t:¬(Value.ref d==Value.none)=true:=Ê;have u:¬((i:Int)<0):=();have k:∀{s':Shared} {l:Around} {n:Value->Shared->Prop} {R:String->Shared->Prop},s'.TypeIs (.ref it) "dict_keyiterator"->R "dict_keyiterator" s'->wpAny (model prog w) l (typeNameOfWhole (.ref it)) R n s':=λa b=>wpAny_typeNameOfWhole_keyiter a b;repeat(first|(show k T ?_)|(show wpAny_fieldsOf j h ?_)|(show č e g ?_)|(show Š e g ?_)|(show Ŧ T ?_)|(show Zy ?_)|(show Qr ?_)|(simp only[p,â,ă])|(rw[if_neg t])|(rw[if_neg (by simp)]))
 rw[Ó,ö hi];have c:(s.heap.update it (Obj.mapFields (·.setIfInBounds 1 (rawInt ((i:Int)+1))))).IsKeyIter it d (i+1) es.size ep:=#[_,Ĭ _ j (Obj.isFreed_of_fields (ź h _)),(Obj.cls_mapFields ..).trans q,by rw[ź h];simp[rawInt]];have r:=c.typeIs (s:={s with heap:=s.heap.update it (Obj.mapFields (·.setIfInBounds 1 (rawInt ((i:Int)+1))))});dsimp only;show Qr (Qr (k T (Zy (Qr (Ŧ T ?_)))));change wpAny (model prog w) A.in1 (do setField (.ref it) 1 (rawInt ((i:Int)+1));_) _ _ s;show Qr (Ζ j h (by simp) (Qr (ą (Qr (Ŧ r (Zy ?_))))));show Zy #[_,rfl,Zy (m _ c (Ă ..))]
theorem lV (k:A.handled=none) (f:s.heap.IsKeyIter it d i es.size ep) (c:s.heap.get? d=!od) (e:od.data=.dict es ep) (hi:es.size<=i)(p:∀h',Heap.ExtBut it s.heap h'->Q none {s with heap:=h'}):wpAny (model prog w) A (pyNext (.ref it)) Q E s:=by
 let#[o,h,y,j]:=id f;have T:=f.typeIs (s:=s);unfold pyNext;show Qr (Œ (wpAny_callSpecial?_slot (name:=Str.ofString "__next__") T ĸ (ê ĸ T F.entry_dict_keyiterator_next ?_ (F.args_dict_keyiterator_next_1 _))));have r:Builtin.Dict_items.ownsTuple "dict_keyiterator"=false:=by decide
 have v:¬(Value.ref d==Value.none)=true:=Ê;have z:¬((i:Int)<0):=();have g:∀{s':Shared} {l:Around} {q:Value->Shared->Prop} {R:String->Shared->Prop},s'.TypeIs (.ref it) "dict_keyiterator"->R "dict_keyiterator" s'->wpAny (model prog w) l (typeNameOfWhole (.ref it)) R q s':=λa b=>wpAny_typeNameOfWhole_keyiter a b;repeat(first
  |(show g T ?_)|(show wpAny_fieldsOf h j ?_)
  |(show č c e ?_)|(show Š c e ?_)|(show Ŧ T ?_)|(show Zy ?_)|(show Qr ?_)|(simp only[r,â,ă])|(rw[if_neg v])|(rw[if_neg (by simp)]))
 rw[Ó,Ŝ hi];dsimp only;show Qr (Qr (g T (Zy ?_)));change wpAny (model prog w) A.in1 (do setField (.ref it) 0 .none;_) _ _ s;show Qr (Ζ h j (by simp) (Qr ?_));have fin:∀h' x,Heap.ExtBut it s.heap h'->(∃ob,h'.get? x=!ob/\ob.cls=.type "StopIteration")->wpAny (model prog w) A (do let b<-isInstance (.ref x) (.type "StopIteration");if b=true then pure none else throw (.ref x)) Q E {s with heap:=h'}:=λh' x u ⟨ob,n,t⟩=>Qr (Ŀ (T:="StopIteration") (b:=true) ⟨ob,n,t⟩ isSubtype_stop (Zy (p h' u)));simp only[newExc,newTuple,raiseNew];repeat(first
  |show fin _ _ (((Ă ..).extBut.push _).push _) #[_,Ë _ rfl,rfl]|(show õ ?_ (by size_fits))|(show wpAny_handled ?_)|(show wpAny_throw ?_)|(show Zy ?_)|(rw[show A.in1.handled=none from k])|(show Qr (m:=firstArgMember _ _) (wpAny_of_eq (a:=Value.none) (by first|rfl|(simp only[firstArgMember];rfl)) ?_))|(show Qr ?_))
theorem j5 (c:(d==sysModules)=false) (T:s.TypeIs (.ref d) "dict") (b:s.heap.get? d=!od) (a:od.data=.dict es ep)(f:R (.ref s.heap.objs.size) {s with heap:=s.heap.push {cls:=.type "dict_keyiterator",data:=.fields ([.ref d,.int 0 0,.int es.size 0,.int ep 0].toArray)}}):wpAny (model prog w) A (pyIter (.ref d)) R E s:=by
 show wpAny_pyIter_slot T F.slot_dict_iter (ê F.slot_dict_iter T F.entry_dict_iter ?_ (F.args_dict_iter_1 _));unfold Builtin.«dict.__iter__» Builtin.Dict.dictSlotNone Builtin.Dict.showsAll;have e:¬((d==sysModules)=true):=by rw[c];show Ê
 show Qr (Qr (ĭ T ?_));change wpAny _ _ (pure (Value.ref d)) _ _ s;show Zy ?_;change wpAny _ _ ((if(d==sysModules)=true then _ else _)>>=_) _ _ s;rw[if_neg e];show Qr (Zy (Qr (č b a (Qr (Š b a ?_)))));show Qr (õ (Zy #[_,rfl,"dict_keyiterator",_,#[_,Ë _ rfl,rfl],F.slot_dict_keyiterator_next.lookup,by simpa[rawInt]using f]))
end
theorem gP {d c:Type} {F:d->c->Prop}:∀{l₁:List d} {l₂:List c} (i:Nat),Paired F l₁ l₂->i<l₁.length->∃a b,l₁[i]?=!a/\l₂[i]?=!b/\F a b|_,_,_,.nil,h=>by simp at h|_,_,0,.cons r _,_=>#[_,_,rfl,rfl,r]|_,_,i+1,.cons _ t,h=>by let#[a,b,e,f,g]:=gP i t (by simpa using h);show#[a,b,by simpa using e,by simpa using f,g]
noncomputable def Yl (od:Obj) (a:Addr):It:=⟨λi H=>∃kvs,H a=!(.frz od (.dT kvs))/\i<kvs.length,λi H v H'=>H'=H/\∀kvs,H a=!(.frz od (.dT kvs))->∃k x b,kvs[i]?=!(k,x)/\v=.ref b/\H b=!(.tup (k.map kV)),λi H=>∃kvs,H a=!(.frz od (.dT kvs))/\kvs.length<=i⟩
def Ym (tl:TE):TI:=λσ H R=>tl σ H λx H1=>∃a kvs,x=.ref a/\H1 a=!(.dT kvs)/\∀od,R (Yl od a) (upd H1 a (.frz od (.dT kvs)))
def qF (K:W.Frag):List V->Hp->VK->Prop:=λxs H Q=>∃(a:Addr) (ns:List Int),xs=[.ref a]/\SqL K H a (ns.map V.int)/\ns.length<64/\∀r (ns':List Int),ns'.Perm ns->ns'.Pairwise (· <= ·)->H r=none->Q (.ref r) (upd H r (.lst (ns'.map V.int)))
theorem vm {X:Cx}:bY X (.builtin "sorted") (qF X.K):=by
 intro j s y H xs us Q I rv h;let#[a,ns,rfl,t,g,q]:=h;let#[u,rfl,v]:=rv.one;cases(show u=Value.ref a from v);let#[d,r,n,hz]:=I.list t;have hi:=intsAre_of r;have z:=hi.length;show sorted_ints (vs:=d) n.isList hi () λc f p i m=>?_;let#[e,x]:=sortedAll_at s.heap d c;have l:H (s.heap.objs.size+1)=none:=I.hok.fresh (Ū _);show#[.ref _,_,I.laid (t':=s.toks) (a:=s.heap.objs.size+1) (o:=.lst (f.map V.int)) (λb o k=>sortedAll_old k) (Ū _) (show ObjOk X.prog X.w _ _ _ (.lst _)from#[?_,c.toList,e,kJ p,?_]),rfl,q _ f i m l];.rw [Qb,i.length_eq];show ć (Β g (by decide))
 .rw [x]
theorem sZ {X:Cx} (K:W.Frag) (a:X.K=K):bY X (.builtin "sorted") (qF K):=a▸vm
end L2
end
section
namespace Sx
open PySem PyProof.Rows
variable{v:Value} {s':Shared}
structure Wk (B:Keyed->Keyed->Bool):Prop where
 rf:∀p,B p p=false
 tr:∀{p q r},B q p=false->B r q=false->B r p=false
 an:∀{p q},B p q=true->B q p=false
noncomputable def gt (xs:Array Keyed) (i:Nat):Keyed:=xs[i]?.getD (.none,.none)
def Up (B:Keyed->Keyed->Bool) (xs:Array Keyed) (k:Nat):Prop:=∀i j,i<=j->j<k->B (gt xs j) (gt xs i)=false
def Dn (B:Keyed->Keyed->Bool) (xs:Array Keyed) (k:Nat):Prop:=∀i j,i<=j->j<k->B (gt xs i) (gt xs j)=false
def Eb (B:Keyed->Keyed->Bool) (xs:Array Keyed) (l k:Nat):Prop:=∀i j,l<=i->i<k->l<=j->j<k->B (gt xs i) (gt xs j)=false
structure Bs (kd:SortKind) (a0:Array Keyed) (st:SortSt):Prop where
 pm:(arrOf st).Perm a0
 kn:kindOf st=kd
 fl:failedOf st=none
 pe:pendingOf st=([].toArray)
section
variable{kd:SortKind} {a0 xs:Array Keyed} {st:SortSt} {B:Keyed->Keyed->Bool} {k l m:Nat}
theorem NP {a d:Nat} (c:a<xs.size) (b:d<=a):gt (bubble xs a d) k=if k=a-d then gt xs a else if a-d<k/\k<=a then gt xs (k-1)else gt xs k:=by
 unfold gt;rw[getElem?_bubble c d b k];split;.rfl
 .split<;>rfl
theorem NQ (a:m<=xs.size):gt (mirror xs l m ((m-l)/2)) k=if l<=k/\k<m then gt xs (l+m-1-k)else gt xs k:=by unfold gt;rw[getElem?_mirror_all a k];split<;>rfl
end
section
variable{prog:Program} {w:World} {A:Around} {E:Value->Shared->Prop} {s:Shared} {kd:SortKind} {a0:Array Keyed} {B:Keyed->Keyed->Bool} {st:SortSt} {n k:Nat}
def Dd (B:Keyed->Keyed->Bool) (a0:Array Keyed) (st:SortSt):Prop:=(arrOf st).Perm a0/\failedOf st=none/\pendingOf st=([(0,a0.size,0)].toArray)/\Up B (arrOf st) a0.size
def Kp (s s':Shared):Prop:=(∀b o,s.heap.get? b=!o->s'.heap.get? b=!o)/\s'={s with heap:=s'.heap}
noncomputable def mid (h:Heap) (a:Addr) (vs:List Value):Heap:=((h.update a (Obj.mapSeq λ_=>([].toArray))).push (seqObj "tuple" vs.toArray 0)).push (seqObj "list" ([].toArray) 0)
end
theorem jQ (b:Bool) (x y:Value):keyLt' (tuples' b) x y=(do
  let xs<-Builtin.List.listItems x;let ys<-Builtin.List.listItems y
  for ((p,q),i) in (xs.toList.zip ys.toList).zipIdx do if not (<-eqBool p q)then return <-oneLt' (b&&i==0) p q
  return xs.size<ys.size):=rfl
theorem t6 (v:Value):firstOfTuple' v=(do
  if(<-typeOf v)!= .type "tuple" then return none
  return(<-Builtin.List.listItems v)[0]?):=rfl
def Fs (h:Heap) (f:Value->Str) (v:Value):Prop:=∃b ob its tk n rest,v=.ref b/\h.get? b=!ob/\ob.cls=.type "tuple"/\ob.data=.seq its n/\its.toList=.str (f v) tk::rest
section
variable{prog:Program} {w:World} {A:Around} {E:Value->Shared->Prop} {s:Shared} {f:Value->Str}
theorem mV {b a:Type} {g:b->Sem a} {r:b->a}:∀{vs:List b} {Q:List a->Shared->Prop},(∀v∈vs,∀R:a->Shared->Prop,R (r v) s->wpAny (model prog w) A (g v) R E s)->Q (vs.map r) s->wpAny (model prog w) A (vs.mapM g) Q E s
 |[],Q,_,q=>by rw[List.mapM_nil];show Zy q|v::vs,Q,h,q=>by rw[List.mapM_cons];show Qr (h v Ì _ (Qr (mV (λu c=>h u (Í _ c)) (Zy q))))
theorem Fs.keep (k:Kp s s') (h:Fs s.heap f v):Fs s'.heap f v:=by let#[b,ob,a,e,n,rest,g,c,d]:=h;show#[b,ob,a,e,n,rest,g,k.1 _ _ c,d]
theorem tu {vs:List Value} (y:vs≠[]) (t:∀v∈vs,Fs s.heap f v):wpAny (model prog w) A (keyKind' vs.toArray) (λk s'=>s'=s/\k=tuples' true) E s:=by
 rw[keyKind'_eq,Η];have e:∀v∈vs,∃a,∀R:Option Value->Shared->Prop,R (!(.str (f v) a)) s->wpAny (model prog w) A (firstOfTuple' v) R E s:=by
  intro v c;let#[b,ob,h,a,n,rest,rfl,i,l,z,q]:=t v c;show#[a,λR r=>?_];rw[t6];show Qr (wpAny_typeOf_ref i ?_);rw[l];show Qr (ŭ i z (Zy ?_));have:h[0]?=!(.str (f (.ref b)) a):=by rw[<-î,q];rfl
  rw[this];show r
 let a:Value->Tok:=λv=>if c:v∈vs then(e v c).choose else 0;have g:∀v∈vs,∀R:Option Value->Shared->Prop,R (!(.str (f v) (a v))) s->wpAny (model prog w) A (firstOfTuple' v) R E s:=by intro v c R r;show(e v c).choose_spec R ?_;have:a v=(e v c).choose:=Ů c;rwa[<-this]
 have m:∀us:List Value,StrsAre (us.map λv=>.str (f v) (a v)) (us.map f):=by intro us;induction us with
  |nil=>show .nil|cons u us ih=>show .cons _ _ ih
 rw[map_eq_pure_bind,bind_assoc];show Qr (mV (r:=λv=>!(.str (f v) (a v))) g ?_);rw[pure_bind];have a1:((vs.map λv=>!(Value.str (f v) (a v))).toArray.all (·.isSome))=true:=by rw[Χ,Θ,Ľ];intro _ _;rfl
 have p:(vs.map λv=>!(Value.str (f v) (a v))).toArray.filterMap id=(vs.map λv=>Value.str (f v) (a v)).toArray:=by rw[List.filterMap_toArray,List.filterMap_map];congr 1;change vs.filterMap (λv=>!(Value.str (f v) (a v)))=_;rw[List.filterMap_eq_map']
 rw[if_pos a1,p,oneTypeOnly'_eq,Η,mapM_typeOf_strs (m vs)];simp only[map_pure,pure_bind];show Qr (ė ?_);let#[v,d,rfl]:=List.exists_cons_of_ne_nil y;have j:((List.map (λ_=>Value.type "str") ((v::d).map λv=>Value.str (f v) (a v))).toArray.all λx=>x==Value.type "str")=true:=by rw[Χ,Θ,Ľ];intro _ _;rfl
 have o:(List.map (λ_=>Value.type "str") ((v::d).map λv=>Value.str (f v) (a v))).toArray[0]?=!(Value.type "str"):=by simp
 rw[o];simp only[j,Ģ,pure_bind];show Zy #[rfl,rfl]
noncomputable def Bf (f:Value->Str) (p q:Keyed):Bool:=strKind.blt (f p.1).cps.toList (f q.1).cps.toList
theorem Xf:Wk (Bf f):=#[λp=>strKind.irrefl _,λ{p q r} a b=>KeyOrd.kle_trans (O:=strKind.toKeyOrd) a b,λ{p q} h=>KeyOrd.klt_asymm (O:=strKind.toKeyOrd) h]
end
end Sx
namespace L2
open PySem PySem.Spec PyProof.Rows
theorem yh {c d:Type} {g:c->d} {l b:List d} (h:l.Perm b):∀{zs:List c},l=zs.map g->∃a:List c,a.Perm zs/\b=a.map g:=by induction h with
 |nil=>intro zs e;show#[zs,.refl _,e]|cons x _ ih=>intro zs e;cases zs with
  |nil=>cases e|cons z zs=>
   rw[Ä]at e;injection e with e1 e2;let#[a,p,q]:=ih e2;show#[z::a,p.cons z,by rw[Ä,q,e1]]
 |swap x y l=>
  intro zs e;match zs,e with
  |z1::z2::r,e=>
   rw[Ä,Ä]at e;injection e with e1 e2;injection e2 with e2 e3;show#[z2::z1::r,.swap _ _ _,by rw[Ä,Ä,e1,e2,e3]]
 |trans _ _ ih1 ih2=>intro zs e;let#[a,p,q]:=ih1 e;let#[us,i,f]:=ih2 q;show#[us,i.trans p,f]
noncomputable def mW (h:Heap):Value->Str
 |.ref b=>match h.get? b with
  |some ob=>match ob.data with
   |.seq its _=>match(its[0]? :Option Value)with
    |some (Value.str x _)=>x|_=>#[([].toArray)]
   |_=>#[([].toArray)]
  |none=>#[([].toArray)]
 |_=>#[([].toArray)]
theorem mX {a:Type} {g:a->Addr}:∀{zs:List a} {us:List Value},Vals (zs.map λz=>V.ref (g z)) us->us=zs.map λz=>Value.ref (g z)
 |[],_,r=>by cases r;rfl|z::zs,_,r=>by cases r with|cons r rr=>rw[mX rr,Ä];congr 1
theorem kY {a:Type} {g:a->Addr}:∀zs:List a,Vals (zs.map λz=>V.ref (g z)) (zs.map λz=>Value.ref (g z))
 |[]=>.nil|_::zs=>.cons rfl (kY zs)
abbrev NT (a b:Str):Prop:=a.cps.toList<b.cps.toList
def Wu (td:TE):TE:=λσ H Q=>td σ H λx H1=>∃(a:Addr) (kvs:List (Str×V)),x=.ref a/\H1 a=!(.dK (kvs.map λp=>(Sum.inr p.1,p.2)))/\kvs.length<64/\∀r (zs:List (Addr×Str×V)) (H2:Hp),(zs.map (·.2)).Perm kvs->(zs.map (·.2.1)).Pairwise NT->H1 r=none->Same H1 H2->H2 r=!(.lst (zs.map λz=>V.ref z.1))->(∀z∈zs,H2 z.1=!(.tup [.str z.2.1,z.2.2]))->Q (.ref r) H2
def Cu (K:W.Frag):List V->Hp->VK->Prop:=λxs H Q=>∃(a:Addr) (bs:List Bool),xs=[.ref a]/\SqL K H a (bs.map V.bl)/\Q (.bl (bs.all id)) H
def Yn (te:TE):TE:=λσ H Q=>te σ H λx H1=>∃cs:List Nat,x=.str #[cs.toArray]/\cs.length<=1000000/\Q (.str #[cs.reverse.toArray]) H1
theorem Tq (h:Heap) (vs:List Value) (a:Array Value):∃e,(sortedHeap (h.push (seqObj "list" vs.toArray 0)) h.objs.size vs a).get? h.objs.size=!(seqObj "list" a e):=sortedHeap_at (n:=0) (Ë _ rfl)
theorem NZ {h:Heap} {vs:List Value} {c:Array Value} {b:Addr} {o:Obj} (d:h.get? b=!o):(sortedHeap (h.push (seqObj "list" vs.toArray 0)) h.objs.size vs c).get? b=!o:=by have a:b<h.objs.size:=Ç d;rw[sortedHeap_old (ã a) (by rw[size_push'];show Ę a)];show Yf _ d
theorem Cv {X:Cx} (D:X.calm=true):bY X (.builtin "all") (Cu X.K):=by
 intro n s G H xs us Q I rv h;let#[a,bs,rfl,k,q]:=h;let#[u,rfl,z]:=rv.one;cases(show u=Value.ref a from z);let#[c,r,g,hz]:=I.list k;have j:a<s.heap.objs.size:=by let#[o,F,_]:=g.isList;show Ç F
 have f:c=bs.map Value.bool:=by clear q k g hz;induction bs generalizing c with
  |nil=>cases r;rfl|cons b bs ih=>cases r with|cons h t=>rw[ih _ t,Ä];congr 1
 have d:∀i v,c.toArray[i]?=!v->v=Value.bool ((bs[i]?).getD true):=λi v l=>by rw[f,Ā,Xs]at l;let#[b,C,y]:=á.mp l;rw[C,<-y];rfl
 show call_all_walk (wpAny_pyIter_list g.isList ?_);show#[_,_,_,_,_,_,λi=>(bs[i]?).getD true,rfl,Walks.list (A:=X.A.in1) (I.ok.hd D) s.heap.objs.size a (ã j) c.toArray,#[#[_,Ë _ rfl,rfl,rfl],g.isList.push _],λi v s Q E x w=>by rw[d i v x];show Č w,λh' p B=>?_];have e:(List.range c.toArray.size).all (λi=>(bs[i]?).getD true)=bs.all id:=by
  rw[f,Î,Qb];rw[ŵ,Ľ,Ľ];constructor;.intro h b d;let#[i,hi,e]:=ó.mp d;have:=h i (í.mpr hi);rw[Zz hi,e]at this;show this
  .intro h i hi;have hi:=í.mp hi;rw[Zz hi];show h _ (ì hi)
 rw[e];show#[.bl _,H,I.kept (t':=p) λb o d=>B b o (λm=>by rw[Zp.mp m]at d;show absurd (Ç d) (ü _)) (Yf _ d),rfl,q]
theorem pM {X:Cx} (K:W.Frag) (a:X.K=K) (b:X.calm=true):bY X (.builtin "all") (Cu K):=a▸Cv b
end L2
end
section
namespace Sy
open PySem PyProof.Rows
variable{n:Nat} {a:Addr} {h₀:Heap} {v:Value} {its:Array Value} {R:Result->Shared->Prop} {Q:Option Value->Shared->Prop}
theorem pN:entryFor table "dict.update.loop"=some Builtin.«dict.update.loop»:=entryFor_of_tree (by kernel_rfl)
theorem ji:plainId "dict.update.loop"=true:=by ac_nf
theorem Cw:typeLookup (.type "tuple") "keys"=pure none:=am_miss_of_fast (by ac_nf)
theorem O1:typeLookup (.type "tuple") "__getattr__"=pure none:=by rw[typeLookup_type,builtinLookup_eq_fast];kernel_rfl
theorem stored_new {K:Type} [DecidableEq K] {kvs:List (K×Value)} {k:K} (h:k∉kvs.map (·.1)):stored kvs k v=kvs++[(k,v)]:=by unfold stored;rw[if_neg];intro z;let#[p,m,e]:=List.any_eq_true.mp z;show h (Zl.mpr #[p,m,ò e])
section
variable{prog:Program} {w:World} {A:Around} {E:Value->Shared->Prop} {s:Shared}
theorem Cy (a:Addr) (o:Obj) (f:Array Value) (n:Nat) (h:o.cls=.type "tuple") (i:o.dict=none) (b:o.data=.seq f n) (u:Tok):Meets (Builtin.«object.__getattribute__» #[[.ref a,.str "keys" u],[]]) (λA R s=>s.heap.get? a=!o/\raisesAttr (.ref a) "keys" A R s):=Meets.of_wp λprog w A R s c=>by
  let#[k,g,d,j,l]:=s;let#[e,c]:=c;dsimp only at e;let#[cls,dict,data,slots]:=o;simp only at h i b;subst h i b;have p:(⟨k,g,d,j,l⟩:Shared).TypeIs (.ref a) "tuple":=#[_,e,rfl];have m:=Cw;unfold Builtin.«object.__getattribute__»;repeat(any_goals(first|assumption|wp_step|(show PySem.AutoSeq1.wpAny_loadPart' e ?_)))
  show wpAny_raiseAttrError c.1 c.2 (attrMsg_fits (by ac_nf) (by rw[ę];decide+kernel))
theorem Jb {o:Obj} (k:A.handled=none) (f:s.heap.get? a=!o) (h:o.cls=.type "tuple") (i:o.dict=none) (c:o.data=.seq its n)(l:∀h' tk,(∀b ob,s.heap.get? b=!ob->h'.get? b=!ob)->Q none {s with heap:=h',toks:=tk}):wpAny (model prog w) A (getAttr? (.ref a) "keys") Q E s:=by
 let#[m,g,d,tk,q]:=s;dsimp only at f;have M:=λu=>Cy a o its n h i c u;let#[cls,dict,data,slots]:=o;simp only at h i c;subst h i c;have j:∀tk,(⟨m,g,d,tk,q⟩:Shared).TypeIs (.ref a) "tuple":=λ_=>#[_,f,rfl];have r:=sub_AttributeError;have x:=F.slot_tuple_getattribute.lookup;have v:=F.slot_tuple_getattribute.bind (.ref a);have f5:=O1;unfold getAttr? getAttrBy? getAttrBy;repeat(any_goals(first|assumption|show j _|((with_reducible change wpAny _ _ (call (Value.builtin "tuple.__getattribute__") _ _) _ _ _);show call_meets F.slot_tuple_getattribute (j _) F.entry_tuple_ga (F.args_tuple_getattribute_2 _ _) (M _) ⟨f,k,λh' p e f=>?_⟩)|wp_step))
 let#[t',t,y]:=f.there;change wpAny _ _ (getattributeRaised _ _ _ _ _ _ _) _ _ _;unfold getattributeRaised;repeat(any_goals(first|assumption|wp_step))
 show l _ _ f.keeps
theorem Cz {K:Type} [DecidableEq K] {knd:PySem.KeyKind prog w K} {I D:Addr} {Q u:List Addr} {zs:List (Addr×Value×K×Value)} {St:Nat->Heap->Prop}(W:Walks prog w A.in1 I Q u zs.length (λi v=>∃z,zs[i]?=!z/\v=.ref z.1) St) (F:D∉Q)(hz:∀z∈zs,z.1∉D::u/\knd.is z.2.2.1 z.2.1=true/\∃o n,h₀.get? z.1=!o/\o.cls=.type "tuple"/\o.data=.seq ([z.2.1,z.2.2.2].toArray) n) (L:(zs.map (·.2.2.1)).Nodup) (hsz:zs.length<=sizeLine) (res:Value)(hR:∀h' d,h'.DictOf knd D (zs.map λz=>(z.2.2.1,z.2.2.2))->(∀b o,b∉D::u->h₀.get? b=!o->h'.get? b=!o)->R (.ok (.ret res)) {s with heap:=h',toks:=d}):∀(k i:Nat) (h:Heap) (tk:Nat) (j:Int),zs.length-i=k->i<=zs.length->St i h->h.DictOf knd D ((zs.take i).map λz=>(z.2.2.1,z.2.2.2))->(∀b o,b∉D::u->h₀.get? b=!o->h.get? b=!o)->codeAny (model prog w) A (.builtin "dict.update.loop" #[[.ref D,.ref I,.int j 0,res],[]]) R {s with heap:=h,toks:=tk}:=by
 have G:D∉u:=λm=>F (W.sub _ m);have sub:∀{b},b∉D::u->b∉u:=λ{b} n m=>n (Í _ m);intro k;induction k with
 |zero=>
  intro i h tk j hk hi t H a;have N:i=zs.length:=();subst N;rw[ä]at H;show Ō pN ?_;rw[Ġ ji _];change wpAny _ A.in1 (pyNext (.ref I)>>=_) _ _ _;show Qr (W.done {s with heap:=h,toks:=tk} _ _ t λh' d c=>?_);change wpAny _ A.in1 (Builtin.Dict.addKeywords D []>>=_) _ _ _;show Qr (Zy (Zy (hR h' d ?_ λb o f e=>c b o (sub f) (a b o f e))));let#[o,es,J,O,r]:=H;show#[o,es,J,c D o G O,r]|succ k ih=>
  intro i h tk j hk hi t H a;have C:i<zs.length:=();show Ō pN ?_;rw[Ġ ji _];change wpAny _ A.in1 (pyNext (.ref I)>>=_) _ _ _;show Qr (W.item i {s with heap:=h,toks:=tk} _ _ C t λv h' d hP E c=>?_);let#[z,S,rfl]:=hP;have Z:=Zs S;let#[U,Y,o,n,g1,g2,g3]:=hz z Z;have B:h'.get? z.1=!o:=c _ _ (sub U) (a _ _ U g1);have M:h'.DictOf knd D ((zs.take i).map λz=>(z.2.2.1,z.2.2.2)):=by let#[o,es,J,O,r]:=H;show#[o,es,J,c D o G O,r]
  show Qr (ą ?_);show Qr (Ι ?_);unfold Builtin.Dict.pairItems;show Qr (ς (T:="tuple") #[o,B,g2] ?_);rw[if_pos (by decide)];show Qr ?_;unfold seqItems?;show Qr (wpAny_load B ?_);rw[g3];show Zy (Zy ?_);change wpAny _ _ (holding [z.2.1,z.2.2.2] (dictSet D z.2.1 z.2.2.2)) _ _ _;show ą (wpAny_dictSet_pairs Y M (λP p l=>?_) (by rw[Qb,Ñ];rfl'));have X:zs.take (i+1)=zs.take i++[z]:=by rw[Ø,S];rfl
  have x:z.2.2.1∉((zs.take i).map λz=>(z.2.2.1,z.2.2.2)).map (·.1):=by intro m;rw[Á]at m;let#[y,my,ey]:=Zl.mp m;have g:((zs.take (i+1)).map (·.2.2.1)).Nodup:=Đ ((Ě _ _).map _) L;rw[X,Wp,ð]at g;show g.2.2 _ (Zl.mpr #[y,my,rfl]) z.2.2.1 (by simp) ey
  rw[stored_new x]at p;show Zy #[plainId_quiet ji _,ih (i+1) P _ (j+1) () C (W.frame _ _ _ E λb f o e=>?_) (by rw[X,Wp];show p) λb o f e=>?_];.rw [l.2 b (λq=>F (by rw[<-q];show f))];show e
  .rw [l.2 b (λq=>f (by rw[q];show Ì))];show c b o (sub f) (a b o f e)
theorem lM {K:Type} [DecidableEq K] {knd:PySem.KeyKind prog w K} {o:Obj} {zs:List (Addr×Value×K×Value)} {Q:Value->Shared->Prop} (R:A.handled=none) (O:s.heap.get? a=!o) (L:o.cls=.type "tuple") (hd:o.dict=none) (y:o.data=.seq (zs.map λz=>Value.ref z.1).toArray n)
  (hz:∀z∈zs,knd.is z.2.2.1 z.2.1=true/\∃o n,s.heap.get? z.1=!o/\o.cls=.type "tuple"/\o.data=.seq ([z.2.1,z.2.2.2].toArray) n) (H:(zs.map (·.2.2.1)).Nodup) (hsz:zs.length<=sizeLine)(q:∀h' tk,h'.DictOf knd s.heap.objs.size (zs.map λz=>(z.2.2.1,z.2.2.2))->(∀b o,s.heap.get? b=!o->h'.get? b=!o)->Q (.ref s.heap.objs.size) { s with heap:=h',toks:=tk}):wpAny (model prog w) A (call (.type "dict") [.ref a]) Q E s:=by
 show callType_codes (Q₁:=λG g=>G=.ref s.heap.objs.size/\g={ s with heap:=s.heap.push { cls:=.type "dict",data:=.dict ([].toArray)}}) F.kt_called_dict (F.kt_typeCall_dict_1 _) F.entry_dict_init (kt_code_dict_new _ ⟨rfl,rfl⟩) ?_;rintro G g ⟨rfl,rfl⟩;have C:a<s.heap.objs.size:=Ç O;have c:(s.heap.push { cls:=.type "dict",data:=.dict ([].toArray)}).DictOf knd s.heap.objs.size []:=Heap.DictOf.new s.heap;have j:(s.heap.push { cls:=.type "dict",data:=.dict ([].toArray)}).get? a=!o:=Yf _ O;show#[c.typeIs,F.args_dict_init_2 _ _,?_];unfold Builtin.«dict.__init__»;show Qr ?_;unfold Builtin.Dict.selfAndRest;show Qr (ĭ c.typeIs ?_);change wpAny _ _ (pure (s.heap.objs.size,[Value.ref a])) _ _ _;show Zy ?_;change wpAny _ _ (Builtin.Dict.updateFrom "dict.__init__" s.heap.objs.size (.ref a) [] .none) _ _ _;unfold Builtin.Dict.updateFrom;show Qr (ς (T:="tuple") #[o,j,L] ?_);rw[if_pos (by decide)];show Qr (Jb R j L hd y λd X f=>?_);rw[if_pos (show(none:Option Value).isNone=true from rfl)];show Qr (ė ?_);have x:d.IsTuple a (zs.map λz=>Value.ref z.1).toArray:=#[o,f _ _ j,L,n,y];show Qr (Ł x ?_);have k:s.heap.objs.size<d.objs.size:=Ç (f s.heap.objs.size _ (Ë _ rfl));have I:a≠d.objs.size:=ã (Β C k);have l:(zs.map λz=>Value.ref z.1).toArray.size=zs.length:=by simp
 have B:=Walks.tuple (prog:=prog) (w:=w) (A:=A.in1.in1) R d.objs.size a I (zs.map λz=>Value.ref z.1).toArray;have W:Walks prog w A.in1.in1 d.objs.size [d.objs.size,a] [d.objs.size] zs.length (λi v=>∃ z,zs[i]?= !z /\ v=.ref z.1) (λi h=>h.IsTupleIter d.objs.size a i /\ h.IsTuple a (zs.map λz=>Value.ref z.1).toArray) :=
  { sub:=B.sub,frame:=B.frame,self:=B.self
    item:=λi s Q E hi st q=>B.item i s Q E (by rw[l];show hi) st λv h' tk N=>q v h' tk (by rw[Ā,Xs]at N;let#[z,e1,Y]:=á.mp N;show#[z,e1,Y.symm])
    done:=λs Q E st q=>B.done s Q E (by rw[l];show st) q};have t:∀b ob,s.heap.get? b=!ob->(d.push { cls:=.type "tuple_iterator",data:=.fields ([.ref a,.int 0 0].toArray)}).get? b=!ob:=λb ob e=>Yf _ (f b ob (Yf _ e));have u:∀b ob,s.heap.get? b=!ob->b∉[s.heap.objs.size,d.objs.size]:=λb ob e m=>by
  have:=Ç e;simp only[Å,æ,ď]at m;rcases m with rfl|rfl;.show ü _ this
  .show ü _ (Β this k)
 show Zy #[plainId_quiet ji _,Cz (s:=s) (A:=A.in1) (knd:=knd) (D:=s.heap.objs.size) (h₀:=d.push { cls:=.type "tuple_iterator",data:=.fields ([.ref a,.int 0 0].toArray)}) W ?_ (λz m=>?_) H hsz .none (λh' J hD Z=>#[rfl,q h' J hD λb ob e=>Z b ob (u b ob e) (t b ob e)]) zs.length 0 _ _ 0 rfl (ñ _) #[#[_,Ë _ rfl,rfl,rfl],?_] ?_ λ_ _ _ e=>e];.simp only[Å,æ,ď,not_or];show#[Nat.ne_of_lt k,ı C]
 .obtain ⟨n1,p,U,P,g2,g3⟩:=hz z m;show#[u _ _ P,n1,p,U,t _ _ P,g2,g3]
 .obtain ⟨p,M,r⟩:=x;show#[p,Yf _ M,r]
 .obtain ⟨p,es,S,M,r⟩:=c;show#[p,es,S,Yf _ (f _ _ M),r]
end
end Sy
namespace L2
open PySem PySem.Spec PyProof.Rows
def yj (K:W.Frag):List V->Hp->VK->Prop:=λxs H Q=>∃p ys,xs=[.ref p]/\SqL K H p ys/\∀l (ob:Obj),ob.dict=none->H l=none->Q (.ref l) (upd H l (.frz ob (.tup ys)))
theorem zH {X:Cx}:bY X (.type "tuple") (yj X.K):=by intro a s f H xs us Q I r h;let#[p,g,rfl,m,q]:=h;let#[u,rfl,k]:=vals1 r;cases k;let#[c,d,pl,hz]:=I.list m;have j:=d.length;show call_tuple_list pl.isList (λh' n=>?_) (by simp only[Î]<;>rfl');have i:Inv X a f H {s with heap:=h'}:=I.kept (t':=s.toks) n;have l:Inv X a f (upd H h'.objs.size (.frz {cls:=.type "tuple",data:=.seq c.toArray} (.tup g))) {s with heap:=h'.push {cls:=.type "tuple",data:=.seq c.toArray}}:=i.laid (t':=s.toks) (λb o e=>Yf _ e) (Ã _) (show ObjOk X.prog X.w _ _ _ (.frz _ (.tup g))from#[Heap.get?_push_size _ rfl,hz,c,d,IsTup.new _ _]);show#[.ref h'.objs.size,_,l,rfl,q _ _ rfl (i.hok.fresh (Ã _))]
theorem vo {X:Cx} (K:W.Frag) (a:X.K=K):bY X (.type "tuple") (yj K):=a▸zH
def gC (K:W.Frag):List V->Hp->VK->Prop:=λxs H Q=>∃(a:Addr) (ob:Obj) (zs:List (Addr×Str×V)),xs=[.ref a]/\ob.dict=none/\H a=!(.frz ob (.tup (zs.map λz=>V.ref z.1)))/\(∀z∈zs,SqT K H z.1 [.str z.2.1,z.2.2])/\(zs.map (·.2.1)).Nodup/\zs.length<=1000/\∀r,H r=none->Q (.ref r) (upd H r (.dK (zs.map λz=>(Sum.inr z.2.1,z.2.2))))
theorem tD {X:Cx} (D:X.calm=true):bY X (.type "dict") (gC X.K):=by
 intro M s σ H xs us Q I r h;let#[a,ob,zs,rfl,A,G,hz,f,T,q]:=h;let#[u,rfl,P]:=vals1 r;cases P;let#[L,g,Z,rv,o',i,v,n,d]:=I.hok a _ G;rw[L]at i;cases i;have Y:=mX rv;subst Y;have J:∀z∈zs,∃t j,RelV z.2.2 j/\∃o n,s.heap.get? z.1=!o/\o.cls=.type "tuple"/\o.data=.seq ([.str z.2.1 t,j].toArray) n:=λz m=>by
  let#[is,F,N,_]:=I.tuple (hz z m);let#[o,ho,D,n,hd]:=N;cases F with|cons r2 rr=>
   let#[t,rfl]:=r2;cases rr with|cons r3 r4=>cases r4;show#[t,_,r3,o,n,ho,D,hd]
 have B:∃c:List (Addr×Value×Key×Value),c.map (λw=>Value.ref w.1)=zs.map (λz=>Value.ref z.1)/\c.map (·.2.2.1)=zs.map (λz=>(Sum.inr z.2.1:Key))/\KV (zs.map λz=>((Sum.inr z.2.1:Key),z.2.2)) (c.map λw=>(w.2.2.1,w.2.2.2))/\∀w∈c,jG w.2.2.1 w.2.1=true/\∃o n,s.heap.get? w.1=!o/\o.cls=.type "tuple"/\o.data=.seq ([w.2.1,w.2.2.2].toArray) n:=by clear G f T q rv d hz g;induction zs with|nil=>show#[[],rfl,rfl,.nil,by simp]|cons z zs ih=>
   let#[c,k,l,p,E]:=ih λy U=>J y (Í _ U);let#[t,j,F,o,n,R,g2,g3]:=J z Ì;show#[(z.1,.str z.2.1 t,Sum.inr z.2.1,j)::c,by rw[Ä,Ä,k],by rw[Ä,Ä,l],.cons #[rfl,F] p,λw x=>?_];rcases Å.mp x with rfl|x;.show #[oV _ _,o,n,R,g2,g3]
   .show E w x
 let#[c,k,l,p,E]:=B;rw[<-k]at d;have C:c.length=zs.length:=by have:=ß List.length k;rw[Qb,Qb]at this;show this
 show Sy.lM (knd:=bN X.prog X.w) (I.ok.hd D) L v A d E (by rw[l,show(zs.map λz=>(Sum.inr z.2.1:Key))=(zs.map (·.2.1)).map Sum.inr by rw[Á];rfl];show Ő.mpr (List.Pairwise.imp (λ{a b} h e=>h (ř e)) f)) (by rw[C,ę];rfl') λh' O W S=>?_;show#[.ref _,_,I.laid (t':=O) (o:=.dK (zs.map λz=>((Sum.inr z.2.1:Key),z.2.2))) S (Ã _) (show ObjOk X.prog X.w _ _ _ (.dK _)from#[by rw[Qb,ę];rfl',?_,_,p,W]),rfl,q _ (I.hok.fresh (Ã _))];show Ė.mpr (ı I.big)
theorem dO {X:Cx} (K:W.Frag) (a:X.K=K) (b:X.calm=true):bY X (.type "dict") (gC K):=a▸tD b
end L2
end
section
namespace L2
open PySem PySem.Spec PyProof.Rows PySem.SeqAt
noncomputable def Yo:V->Bool
 |.non=>true|.bl _=>true|.int _=>true|.str _=>true|.ref _=>true|_=>false
def Sm (K:W.Frag) (H:Hp):Nat->V->V->Prop
 |0,x,y=>x=y/\Yo x=true|n+1,x,y=>(x=y/\Yo x=true)\/∃a b xs ys,x=.ref a/\y=.ref b/\((SqL K H a xs/\SqL K H b ys)\/(SqT K H a xs/\SqT K H b ys))/\xs.length=ys.length/\∀(i:Nat) u v,xs[i]?=!u->ys[i]?=!v->Sm K H n u v
end L2
end
section
namespace L2
open PySem PySem.Spec PyProof.Rows
variable{i:Addr} {w:World} {a b:Value} {prog:Program} {xs:Array Value} {Q:Option Value->Shared->Prop}
structure Drw (prog:Program) (w:World) (i l:Addr) (xs:Array Value) (St:Nat->Heap->Prop):Prop where
 keep:∀k h h',St k h->(∀c,c=i\/c=l->∀o,h.get? c=!o->h'.get? c=!o)->St k h'
 item:∀(A:Around) (s:Shared) k x (Q:Value->Shared->Prop) (E:Value->Shared->Prop),St k s.heap->xs[k]?=!x->(∀h',St (k+1) h'->Heap.SameBut i s.heap h'->Q x {s with heap:=h'})->wpAny (model prog w) A (Builtin.SmallTypes.nextOf (.ref i)) Q E s
 stop:∀(A:Around) (s:Shared) k (Q:Value->Shared->Prop) (E:Value->Shared->Prop),A.handled=none->St k s.heap->xs[k]?=none->(∀h' e,Heap.ExtBut i s.heap h'->(∃o,h'.get? e=!o/\o.cls=.type "StopIteration")->E (.ref e) {s with heap:=h'})->wpAny (model prog w) A (Builtin.SmallTypes.nextOf (.ref i)) Q E s
theorem Drw.but {l b:Addr} {St:Nat->Heap->Prop} (D:Drw prog w i l xs St) {k:Nat} {h h':Heap} (st:St k h) (e:Heap.ExtBut b h h') (hi:i≠b) (d:l≠b):St k h':=D.keep k h h' st λc a o q=>e c o (by rcases a with rfl|rfl;show hi;show d) q
theorem lW {l:Addr} (n:l≠i):Drw prog w i l xs λk h=>h.IsTupleIter i l k/\h.IsTuple l xs where
 keep:=λk h h' st r=>#[st.1.at λo e=>r i (.inl rfl) o e,by let#[o,e,q]:=st.2;show#[o,r l (.inr rfl) o e,q]]
 item:=λA s k x Q E st p v=>by let#[b,j]:=st;let#[o,d,u,c]:=id b;let#[B,g,_,y,f]:=id j;unfold Builtin.SmallTypes.nextOf;show Qr (wpAny_callSpecial?_slot (name:=Str.ofString "__next__") b.typeIs Ń (ê Ń b.typeIs F.entry_tuple_iterator_next ?_ (F.args_tuple_iterator_next_1 _)));show Qr (m:=field (.ref i) 0) (ÿ d c (x:=.ref l) rfl ?_);change wpAny _ _ (if(Value.ref l==Value.none)=true then _ else _) _ _ s;rw[if_neg (by intro z;cases z)];show Qr (m:=field (.ref i) 1) (ÿ d c (x:=.int k 0) rfl ?_);show Qr (m:=seqItems? (.ref l)) (ĉ g f ?_);simp only[Ó,p];show Qr (Ζ d c (by simp) (Zy #[x,rfl,Zy (v _ #[?_,j.extBut (Ă ..).extBut n] (Ă ..))]));show#[_,Ĭ _ d (Obj.isFreed_of_fields (ź c _)),(Obj.cls_mapFields ..).trans u,by rw[ź c];simp[rawInt]]
 stop:=λA s k Q E t st p C=>by
  let#[b,j]:=st;let#[o,d,u,c]:=id b;let#[B,g,_,y,f]:=id j;unfold Builtin.SmallTypes.nextOf;show Qr (wpAny_callSpecial?_slot (name:=Str.ofString "__next__") b.typeIs Ń (ê Ń b.typeIs F.entry_tuple_iterator_next ?_ (F.args_tuple_iterator_next_1 _)));show Qr (m:=field (.ref i) 0) (ÿ d c (x:=.ref l) rfl ?_);change wpAny _ _ (if(Value.ref l==Value.none)=true then _ else _) _ _ s;rw[if_neg (by intro z;cases z)];show Qr (m:=field (.ref i) 1) (ÿ d c (x:=.int k 0) rfl ?_);show Qr (m:=seqItems? (.ref l)) (ĉ g f ?_);simp only[Ó,p];show Qr (ė (Qr (Ζ d c (by simp) ?_)));show Qr (m:=newExc (.type "StopIteration") []) ?_;simp only[newExc,newTuple];show Qr (õ ?_ (by size_fits));show Qr (m:=firstArgMember _ _) (wpAny_of_eq (a:=Value.none) (by first|rfl|(simp only[firstArgMember];rfl)) ?_);show õ ?_ (by size_fits);simp only[raiseNew];show Qr (wpAny_handled ?_);first| rw[show A.in1.handled=none from t]| rw[t]
  show Qr (Zy (wpAny_throw (C _ _ (((Ă ..).extBut.push _).push _) #[_,Ë _ rfl,rfl])))
section
variable{prog:Program} {w:World} {A:Around} {E:Value->Shared->Prop} {s:Shared} {z TI TO i1 i2 l1 l2:Addr} {k:Nat} {xs ys:Array Value} {S1 S2:Nat->Heap->Prop}
theorem zJ {x y:Value} (D:ZipApart z TI TO i1 i2 l1 l2) (d:Drw prog w i1 l1 xs S1) (f:Drw prog w i2 l2 ys S2)(hz:IsZip s.heap z TI TO .none) (G:IsPair s.heap TI (.ref i1) (.ref i2)) (I:IsPair s.heap TO a b) (h1:S1 k s.heap) (h2:S2 k s.heap) (hx:xs[k]?=!x) (hy:ys[k]?=!y)(U:∀h',IsZip h' z TI TO (rawInt s.heap.objs.size)->IsPair h' TO x y->S1 (k+1) h'->S2 (k+1) h'->IsPair h' s.heap.objs.size x y->(∀c o,c≠z->c≠TO->c≠i1->c≠i2->s.heap.get? c=!o->h'.get? c=!o)->Q (!(.ref s.heap.objs.size)) {s with heap:=h'}):wpAny (model prog w) A (pyNext (.ref z)) Q E s:=by
 have O:s.TypeIs (.ref z) "zip":=#[_,hz,rfl];unfold pyNext;show Qr (Œ (wpAny_callSpecial?_slot (name:=Str.ofString "__next__") O ι (ê ι O F.entry_zip_next ?_ (F.args_zip_next_1 _))));show Qr (m:=field (.ref z) 2) (ÿ hz rfl (x:=.bool false) rfl ?_);show Qr (m:=field (.ref z) 3) (ÿ hz rfl (x:=.ref TI) rfl ?_);show Qr (ĉ G rfl ?_);show Qr (m:=Builtin.SmallTypes.ownedTupleIsFree (.ref z)) ?_;unfold Builtin.SmallTypes.ownedTupleIsFree;show Qr (ÿ hz rfl (x:=.none) rfl (Zy ?_));simp only[Ģ];show Qr (ė ?_);show Qr (ÿ hz rfl (x:=.ref TO) rfl ?_);show Qr (þ hz (by simp) λg1 y1 j=>?_);show Qr ?_;simp only[Ψ,List.zipIdx_nil,ï,ĳ];show Qr (Qr (wpAny_onRaise ?_));show Qr (m:=Builtin.SmallTypes.nextOf (.ref i1)) (d.item _ _ k x _ _ (d.but h1 j.extBut D.i1z D.l1z) hx λS W p=>Zy ?_);have T:IsPair S TO a b:=p.extBut _ _ D.TOi1 (j.extBut _ _ D.TOz I);have q2:S2 k S:=f.but (f.but h2 j.extBut D.i2z D.l2z) p.extBut D.i12.symm D.l2i1;show Qr (ĉ T rfl ?_);show Qr (ε T λg3 B i=>?_);replace B:IsPair g3 TO x b:=B;show Qr (ő (Zy ?_));show Qr (Qr (wpAny_onRaise ?_));show Qr (m:=Builtin.SmallTypes.nextOf (.ref i2)) (f.item _ _ k y _ _ (f.but q2 i.extBut D.TOi2.symm D.l2TO) hy λZ r4 h=>Zy ?_);have L:IsPair Z TO x b:=h.extBut _ _ D.TOi2 B;show Qr (ĉ L rfl ?_);show Qr (ε L λg5 q l=>?_);replace q:IsPair g5 TO x y:=q;show Qr (ő (Zy (Zy ?_)));show Qr (ĉ q rfl ?_);show Qr (wpAny_newTuple ?_);have sz:g5.objs.size=s.heap.objs.size:=by rw[l.1,h.1,i.1,p.1,j.1]
 have M:IsZip g5 z TI TO .ellipsis:=l.extBut _ _ D.TOz.symm (h.extBut _ _ D.i2z.symm (i.extBut _ _ D.TOz.symm (p.extBut _ _ D.i1z.symm y1)));have Y:∀c o,c≠z->c≠TO->c≠i1->c≠i2->s.heap.get? c=!o->g5.get? c=!o:=λc o v r C J e=>l.extBut _ _ r (h.extBut _ _ J (i.extBut _ _ r (p.extBut _ _ C (j.extBut _ _ v e))));have r5:S1 (k+1) g5:=d.but (d.but (d.but W i.extBut D.TOi1.symm D.l1TO) h.extBut D.i12 D.l1i2) l.extBut D.TOi1.symm D.l1TO;have p5:S2 (k+1) g5:=f.but r4 l.extBut D.TOi2.symm D.l2TO;have g:z<g5.objs.size:=Ç M;show Qr (m:=Builtin.SmallTypes.ownedTupleHandOut (.ref z) (.ref g5.objs.size)) ?_;unfold Builtin.SmallTypes.ownedTupleHandOut;show Qr (þ (show IsZip (g5.push {cls:=.type "tuple",data:=.seq ([x,y].toArray)}) z TI TO .ellipsis from Yf _ M) (by simp) λX H R=>?_);replace H:IsZip X z TI TO (rawInt g5.objs.size):=H;show þ H (by simp) λt u P=>?_;replace u:IsZip t z TI TO (rawInt g5.objs.size):=u;have up:∀c o,c≠z->g5.get? c=!o->t.get? c=!o:=λc o n e=>P.extBut _ _ n (R.extBut _ _ n (Yf _ e));have N:IsPair t g5.objs.size x y:=P.extBut _ _ (ı g) (R.extBut _ _ (ı g) (Ë _ rfl));rw[sz]at u N;show Zy #[_,rfl,Zy ?_];change Q (!(.ref g5.objs.size)) _;rw[sz];show U t u (up _ _ D.TOz q) (d.keep _ _ _ r5 λc K o e=>up c o (by rcases K with rfl|rfl;show D.i1z;show D.l1z) e) (f.keep _ _ _ p5 λc K o e=>up c o (by rcases K with rfl|rfl;show D.i2z;show D.l2z) e) N λc o v r C J e=>up c o v (Y c o v r C J e)
theorem CG (N:A.handled=none) (D:ZipApart z TI TO i1 i2 l1 l2) (v:Drw prog w i1 l1 xs S1) (r:Drw prog w i2 l2 ys S2)
  (hz:IsZip s.heap z TI TO .none) (C:IsPair s.heap TI (.ref i1) (.ref i2)) (G:IsPair s.heap TO a b) (h1:S1 k s.heap) (h2:S2 k s.heap) (j:xs[k]?=none\/ys[k]?=none)(U:∀h',(∀c o,c≠z->c≠TO->c≠i1->c≠i2->s.heap.get? c=!o->h'.get? c=!o)->Q none {s with heap:=h'}):wpAny (model prog w) A (pyNext (.ref z)) Q E s:=by
 have I:s.TypeIs (.ref z) "zip":=#[_,hz,rfl];have fin:∀h' e,(∀c o,c≠z->c≠TO->c≠i1->c≠i2->s.heap.get? c=!o->h'.get? c=!o)->(∃o,h'.get? e=!o/\o.cls=.type "StopIteration")->wpAny (model prog w) A (do if <-isInstance (.ref e) (.type "StopIteration")then pure none else throw (.ref e):Sem (Option Value)) Q E {s with heap:=h'}:=λh' e W p=>by let#[o,ho,hc]:=p;show Qr (Ŀ (T:="StopIteration") (b:=true) #[o,ho,hc] isSubtype_stop (Zy (U _ W)))
 unfold pyNext;show Qr (Œ (wpAny_callSpecial?_slot (name:=Str.ofString "__next__") I ι (ê ι I F.entry_zip_next ?_ (F.args_zip_next_1 _))));show Qr (m:=field (.ref z) 2) (ÿ hz rfl (x:=.bool false) rfl ?_);show Qr (m:=field (.ref z) 3) (ÿ hz rfl (x:=.ref TI) rfl ?_);show Qr (ĉ C rfl ?_);show Qr (m:=Builtin.SmallTypes.ownedTupleIsFree (.ref z)) ?_;unfold Builtin.SmallTypes.ownedTupleIsFree;show Qr (ÿ hz rfl (x:=.none) rfl (Zy ?_));simp only[Ģ];show Qr (ė ?_);show Qr (ÿ hz rfl (x:=.ref TO) rfl ?_);show Qr (þ hz (by simp) λL t n=>?_);show Qr ?_;simp only[Ψ,List.zipIdx_nil,ï,ĳ];show Qr (Qr (wpAny_onRaise ?_));replace t:IsZip L z TI TO .ellipsis:=t;have K:S1 k L:=v.but h1 n.extBut D.i1z D.l1z;cases hx:xs[k]?with
 |none=>
  show Qr (m:=Builtin.SmallTypes.nextOf (.ref i1)) (v.stop _ _ k _ _ N K hx λu e g p=>?_);let#[y,d,f]:=p;have H:IsZip u z TI TO .ellipsis:=g _ _ D.i1z.symm t;have h:e≠z:=λq=>by subst q;rw[H]at d;cases d;simp at f
  show þ H (by simp) λR _ i=>fin R e (λc o l _ B _ q=>i.extBut _ _ l (g _ _ B (n.extBut _ _ l q))) #[y,i.extBut _ _ h d,f]|some x=>
  have Z:ys[k]?=none:=by rcases j with q|q;rw[hx]at q;cases q;show q
  show Qr (m:=Builtin.SmallTypes.nextOf (.ref i1)) (v.item _ _ k x _ _ K hx λu r2 g=>Zy ?_);have P:IsPair u TO a b:=g.extBut _ _ D.TOi1 (n.extBut _ _ D.TOz G);have Y:S2 k u:=r.but (r.but h2 n.extBut D.i2z D.l2z) g.extBut D.i12.symm D.l2i1;show Qr (ĉ P rfl ?_);show Qr (ε P λR o3 i=>?_);show Qr (ő (Zy ?_));show Qr (Qr (wpAny_onRaise ?_));show Qr (m:=Builtin.SmallTypes.nextOf (.ref i2)) (r.stop _ _ k _ _ N (r.but Y i.extBut D.TOi2.symm D.l2TO) Z λX e J p=>?_);let#[y,d,f]:=p;have M:IsZip X z TI TO .ellipsis:=J _ _ D.i2z.symm (i.extBut _ _ D.TOz.symm (g.extBut _ _ D.i1z.symm t));have h:e≠z:=λq=>by subst q;rw[M]at d;cases d;simp at f
  show þ M (by simp) λg5 _ O=>fin g5 e (λc o l S B n4 q=>O.extBut _ _ l (J _ _ n4 (i.extBut _ _ S (g.extBut _ _ B (n.extBut _ _ l q))))) #[y,O.extBut _ _ h d,f]
end
abbrev Wv (h:Heap) (j1:Obj):Heap:=h.push j1
abbrev Ww (h:Heap) (j1 j2:Obj):Heap:=(Wv h j1).push j2
abbrev Wx (h:Heap) (j1 j2:Obj):Heap:=(Ww h j1 j2).push {cls:=.type "tuple",data:=.seq ([.ref h.objs.size,.ref (Wv h j1).objs.size].toArray)}
abbrev Wy (h:Heap) (j1 j2:Obj):Heap:=(Wx h j1 j2).push {cls:=.type "tuple",data:=.seq ([.none,.none].toArray)}
abbrev S9 (h:Heap) (j1 j2:Obj):Heap:=(Wy h j1 j2).push {cls:=.type "zip",data:=.fields ([.none,.bool false,.bool false,.ref (Ww h j1 j2).objs.size,.ref (Wx h j1 j2).objs.size].toArray)}
abbrev mY (l:Addr):Obj:={cls:=.type "tuple_iterator",data:=.fields ([.ref l,.int 0 0].toArray)}
noncomputable def Tr (K:W.Frag) (a b:Addr):It:=⟨λi H=>∃xs ys x y,SqT K H a xs/\SqL K H b ys/\xs[i]?=!x/\ys[i]?=!y,λi H v H'=>∃p x y,H p=none/\v=.ref p/\H'=upd H p (.tup [x,y])/\(∀xs,SqT K H a xs->xs[i]?=!x)/\∀ys,SqL K H b ys->ys[i]?=!y,λi H=>∃xs ys,SqT K H a xs/\SqL K H b ys/\(xs.length<=i\/ys.length<=i)⟩
structure ZipStT (z TI TO i1 i2 a b:Addr) (i:Nat) (h:Heap):Prop where
 hz:IsZip h z TI TO .none
 hTI:IsPair h TI (.ref i1) (.ref i2)hTO:∃u v,IsPair h TO u v
 h1:h.IsTupleIter i1 a i
 h2:h.IsListIter i2 b i
 aTO:a≠TO
theorem kZ {h:Heap} {a c:Addr} {o d:Obj} (e:h.get? a=!o) (b:h.get? c=!d) (n:o.cls≠d.cls):a≠c:=λq=>by
 subst q;rw[e]at b;cases b;show n rfl
def Yp (K:W.Frag) (ta:TA):TI:=λσ H R=>ta σ H λvs H1=>∃a b xs ys,vs=[.ref a,.ref b]/\SqT K H1 a xs/\SqL K H1 b ys/\R (Tr K a b) H1
noncomputable def Tt (lo:Int) (n:Nat):It:=#[λi _=>i<n,λi H x H'=>H'=H/\x=.int (lo-i),λi _=>n<=i]
def Yq (ta:TA):TI:=λσ H R=>ta σ H λvs H1=>∃i j:Int,vs=[.int i,.int j,.int (-1)]/\(-(2^62)<=i/\i<2^62/\-(2^62)<=j/\j<2^62)/\R (Tt i (i-j).toNat) H1
theorem lq (l:Addr) (c:Array Value) (n:Nat) (b:Addr) (a:Array Value) (q:Nat) (o:Option Addr) (p:Array (Option Value)) (m:¬(not c.isEmpty&&Builtin.List.listTooLong (c.size+a.size))=true) (e:c.size<=sizeLine) (i:c.size+a.size<=sizeLine+1):Meets (Builtin.«list.extend» #[[.ref l,.ref b],[]]) (λ_ R s=>s.heap.get? l=!{cls:=.type "list",data:=.seq c n}/\s.heap.get? b=!{cls:=.type "tuple",dict:=o,data:=.seq a q,slots:=p}/\R (.ok (.ret Value.none)) {s with heap:=s.heap.update l (Obj.mapSeq λx=>x++a),toks:=s.toks}):=
 .of_wp λprog w A R s h=>by
  let#[t,g,d,r,y]:=s;let#[j,k,h]:=h;have z:=sub_tuple_tuple;have u:=sub_list_list;have v:=sub_tuple_list;have f5:=sub_list_tuple;have f:(c++a).size<=sizeLine+1:=by rw[Array.size_append];show i
  wp_walk using(ν j rfl (hz:=e) (_hz':=f)),wpAny_loadPart' j,wpAny_loadPart' k;show#[_,rfl,h]
def jR (K:W.Frag):V->List V->Hp->VK->Prop:=λx vs H Q=>∃l b xs zs,x=.ref l/\vs=[.ref b]/\H l=!(.lst xs)/\SqT K H b zs/\xs.length+zs.length<=sizeLine/\Q .non (upd H l (.lst (xs++zs)))
theorem vp {X:Cx}:S8 X "list.extend" (jR X.K):=by
 intro g s B H x vs v us Q I t rv h;let#[l,b,xs,zs,rfl,rfl,i,A,hz,q]:=h;cases t;let#[u,rfl,y]:=rv.one;cases y;let#[z,c,n,r,C,e]:=I.lstM i;let#[a,f,#[o,w,m,k,p],G]:=I.tuple A;have j:=f.length;let#[E,D,J,L]:=o;cases m;cases p;have hsz:c.toArray.size+a.toArray.size<=sizeLine:=by rw[Î,Î];rfl'
 have d:¬(not c.toArray.isEmpty&&Builtin.List.listTooLong (c.toArray.size+a.toArray.size))=true:=by rw[sI hsz,Bool.and_false];show Ê
 show call_meets F.slot_list_extend #[_,e,rfl] F.entry_list_extend (F.args_list_extend_2 _ _)
  (lq l c.toArray n b a.toArray k _ _ d (by rw[Î];rfl') ()) #[e,w,?_];show#[.non,_,I.lset (its':=c++a) i e (by simp) (r.append f) ?_,rfl,q];rw[À];rfl'
theorem tE {X:Cx} (K:W.Frag) (a:X.K=K):S8 X "list.extend" (jR K):=a▸vp
end L2
namespace L2
open PySem
abbrev La:List V->Hp->VK->Prop:=λxs H Q=>(∃i,xs=[.int i]/\Q (.int i) H)\/∃k,xs=[.bl k]/\Q (.int (if k then 1 else 0)) H
end L2
namespace L2
open PySem PySem.Spec PyProof.Rows
variable{tg:Expr} {v:Value} {w:World} {kvs:List (Key×V)} {es:Array DictEntry} {pins:List (Addr×Obj)}
abbrev Tu:R2:=λx y H Q=>∃i j,x=.str i/\y=.str j/\Q (.bl (decide (j.cps.toList<i.cps.toList))) H
abbrev Tv:R2:=λx y H Q=>∃i j,x=.str i/\y=.str j/\Q (.bl (not (decide (i.cps.toList<j.cps.toList)))) H
noncomputable def Tz (K:W.Frag) (a:Addr) (n:Nat):It where
 go:=λi H=>∃xs x,SqL K H a xs/\xs.length=n/\i<n/\xs[n-1-i]?=!x
 yld:=λi H x H'=>H'=H/\∀ys,SqL K H a ys->ys[n-1-i]?=!x
 stop:=λi _=>i=n
def Yr (K:W.Frag) (ta:TA):TI:=λσ H R=>ta σ H λvs H1=>∃a xs,vs=[.ref a]/\SqL K H1 a xs/\R (Tz K a xs.length) H1
section
variable{P:Program} {w:World} {H:Hp} {h:Heap} {a:Addr} {kvs:List (Key×V)} {od:Obj}
theorem HOk.freezeK (x:HOk P w H h) (g:H a=!(.dK kvs)) (j:h.get? a=!od):HOk P w (upd H a (.frz od (.dK kvs))) h:=by
 have f:∀c y,H c=!(.own y)->upd H a (.frz od (.dK kvs)) c=!(.own y):=λc y q=>by rw[az (bD q g (by intro z;cases z))];show q
 have d:∀c xs,H c=!(.tup xs)->upd H a (.frz od (.dK kvs)) c=!(.tup xs):=λc xs q=>by rw[az (bD q g (by intro z;cases z))];show q
 intro b u e;by_cases i:b=a;.rw [i]at e⊢;rw[ao]at e;cases e;show#[j,(x a _ g).stay (λc v _ q=>q) (λc q=>f c _ q) λc xs q=>d c xs q]
 .rw [az i]at e;show(x b u e).stay (λc v _ q=>q) (λc q=>f c _ q) λc xs q=>d c xs q
theorem pairs_at {knd:PySem.KeyKind P w Key}:∀{es:List DictEntry} {us:List (Key×Value)} (i:Nat) (e:DictEntry),Pairs knd es us->es[i]?=!e->∃u,us[i]?=!u/\knd.is u.1 e.key=true|_,_,0,e,.cons r _ _,h=>by simp only[List.getElem?_cons_zero,Option.some.injEq]at h;subst h;show#[_,rfl,r]|_,_,i+1,e,.cons _ _ t,h=>by simp only[List.getElem?_cons_succ]at h;let#[u,a,b]:=pairs_at i e t h;show#[u,by simpa using a,b]
theorem pairs_len {knd:PySem.KeyKind P w Key}:∀{es:List DictEntry} {us:List (Key×Value)},Pairs knd es us->es.length=us.length
 |_,_,.nil=>rfl|_,_,.cons _ _ t=>by simp only[é,pairs_len t]
end
theorem Jc {k:Key} (h:jG k v=true):RelV (kV k) v:=by
 rcases bU h with⟨i,t,rfl,rfl⟩|⟨x,t,rfl,rfl⟩;.show #[t,rfl]
 .show #[t,rfl]
theorem Inv.freezeK {X:Cx} {d:St} {H:Hp} {s:Shared} {a:Addr} {e:Obj} (I:Inv X pins d H s) (c:H a=!(.dK kvs)) (g:s.heap.get? a=!e):Inv X pins d (upd H a (.frz e (.dK kvs))) s:=by
 show I.call' (ch:=[]) rfl #[λb o q _ _ _=>q,λb o q _ _ _=>#[o.slots,q],λb o q n _=>?_,λb o q _=>#[o,q],λb xs q=>?_,λb o u q=>?_,λb ps q=>#[([].toArray),?_]] (I.hok.freezeK c g) I.bare λb f=>nomatch f;.rw [az (λz=>by rw[z,c]at n;cases n)];show n
 .rw [az (bD q c (by intro z;cases z))];show q
 .rw [az (bD q c (by intro z;cases z))];show q
 .rw [az (bD q c (by intro z;cases z)),q];simp
noncomputable def zK (od:Obj) (a:Addr):It where
 go:=λi H=>∃kvs,H a=!(.frz od (.dK kvs))/\i<kvs.length
 yld:=λi H v H'=>H'=H/\∀kvs,H a=!(.frz od (.dK kvs))->∃k x,kvs[i]?=!(k,x)/\v=kV k
 stop:=λi H=>∃kvs,H a=!(.frz od (.dK kvs))/\kvs.length<=i
theorem mZ {P:Program} {K:W.Frag} (m a:Addr) {C:Obj} {Z:Nat} (g:C.data=.dict es Z):Turn P w K tg (zK C a) [m] m (λi h=>h.IsKeyIter m a i es.size Z)where
 mem:=by simp
 obj:=λi h st b l=>by
  let#[o,e,c,d]:=st;have e':b=m:=by simpa using l
  rw[e'];show#[o,e,λv z=>by rw[d]at z;cases z]
 keep:=λi h h' st k=>by let#[o,e,r]:=st;show#[o,k m (by simp) o e,r]
 item:=by
  intro X G L U hc i j s σ H E I D st J;subst G L U;let#[kvs,B,hi]:=J;let#[p,_,_,us,f,o,N,R,n,_,t,_,F,_]:=(show ObjOk X.prog X.w H s.heap a (.frz C (.dK kvs))from I.hok a _ B);rw[p]at n;cases n;rw[g]at t;cases t;have hsz:es.size=us.length:=by rw[<-ø];show pairs_len F
  have hl:kvs.length=us.length:=Ċ f;let#[M,Y,f2,O,S,f5]:=D m (by simp);show jP st p g () λh' A hs=>?_;have I1:Inv X j σ H {s with heap:=h',toks:=s.toks}:=I.turned (λb o l e=>hs.extBut b o l e) M Y O S f5;let#[o,e,Q,d]:=id A;let#[#[k,x],#[k',y],hk,hx,r1,_]:=gP i f hi;have T:RelV (kV k) (es[i]'(by rfl')).key:=by
   let#[u,h1,h2]:=pairs_at i (es[i]'(by rfl')) F (by rw[î,ö]);rw[hx]at h1
   cases h1;rw[uL]at h2;rw[show k=k' from r1];show Jc h2
  show⟨_,rfl,oX (s:={s with heap:=h'}) e Q d (by decide) ⟨kV k,H,I1,T,⟨rfl,λad q=>?_⟩,A,λb l=>(D b l).1⟩⟩;rw[B]at q;cases q;show#[k,x,hk,rfl]
 done:=by
  intro X G L U hc i j s σ H E I D st J;subst G L U;let#[kvs,B,hi]:=J;let#[p,_,_,us,f,o,N,R,n,_,t,_,F,_]:=(show ObjOk X.prog X.w H s.heap a (.frz C (.dK kvs))from I.hok a _ B);rw[p]at n;cases n;rw[g]at t;cases t;have hsz:es.size=us.length:=by rw[<-ø];show pairs_len F
  have hl:kvs.length=us.length:=Ċ f;let#[M,Y,f2,O,S,f5]:=D m (by simp);show lV (I.ok.hd hc) st p g () λh' kk=>#[rfl,I.turned (t':=s.toks) (λb o l e=>kk b o l e) M Y O S f5]
 self:=λ_ _ _ _ _ st h=>ū st h
def vq (tl:TE):TI:=λσ H R=>tl σ H λx H1=>∃a kvs,x=.ref a/\((H1 a=!(.dK kvs)/\∀od,R (zK od a) (upd H1 a (.frz od (.dK kvs))))\/∃od,H1 a=!(.frz od (.dK kvs))/\R (zK od a) H1)
theorem CJ {X:Cx} {l:Expr} {t:TE} (A:PE X l t):PI X tg l (vq t):=by
 intro j s z H R I h;show bM (A j s z H _ I h) λv c ⟨x,H1,f,C,y⟩=>?_;let#[a,kvs,rfl,q]:=y;cases C;rcases q with⟨ea,q⟩|⟨od,ea,q⟩;.obtain ⟨_,d,us,p,o,es,u,g,n,i,_,B,_⟩:=(show ObjOk X.prog X.w H1 c.heap a (.dK kvs)from f.hok a _ ea);show j5 d #[o,g,n.1] g i ?_;have m:=f.freezeK ea g;show#[c.heap.objs.size,[c.heap.objs.size],_,_,_,rfl,m.kept (t':=c.toks) λb o e=>Yf _ e,mZ _ a i,#[_,Ë _ rfl,rfl,rfl],λb k=>?_,q o];rw[Zp.mp k];show m.fpOk (Ã _) (m.hok.fresh (Ã _))
 .obtain ⟨r,_,d,us,p,o,es,u,g,n,i,_,B,_⟩:=(show ObjOk X.prog X.w H1 c.heap a (.frz od (.dK kvs))from f.hok a _ ea);rw[r]at g;cases g;show j5 d #[od,r,n.1] r i ?_;show#[c.heap.objs.size,[c.heap.objs.size],_,_,_,rfl,f.kept (t':=c.toks) λb o e=>Yf _ e,mZ _ a i,#[_,Ë _ rfl,rfl,rfl],λb k=>?_,q];rw[Zp.mp k];show f.fpOk (Ã _) (f.hok.fresh (Ã _))
def O2 (K:W.Frag):V->List V->Hp->VK->Prop:=λx vs H Q=>∃(s:Str) (a:Addr) (ys:List Str),x=.str s/\vs=[.ref a]/\SqL K H a (ys.map V.str)/\(ys.map (·.length)).sum+ys.length*s.length<=16777216/\Q (.str (Txt.join s ys.reverse)) H
section
variable{X:Cx}
def Za (K:W.Frag) (to:TE) (t:TA):TE:=λσ H Q=>to σ H λx H1=>N8 K "str" x H1/\t σ H1 λxs H2=>O2 K x xs H2 Q
end
def Xg (B:Heap) (l:List Env) (x:Addr) (C a0:Value) (h:Heap):Prop:=B.StaysIn h/\B.get? x=none/\h.FunFrames B l/\∃fl,h.TracedAtW B x C a0 fl
def Xh (B:Heap) (l:List Env) (x:Addr) (C a0:Value) (h:Heap):Prop:=Xg B l x C a0 h/\Cn x h
structure Air (P:Program) (w:World) (fp:List Addr) (outer:List Env) (H:Hp) (s:Shared) (E:XK) (x:Addr) (C a0:Value) (B:Heap) (H':Hp) (s':Shared):Prop where
 os:s'.os=s.os
 bare:AllBare s'.gens
 un:Un (frs outer) fp H H' s.heap s'.heap
 hok:HOk P w H' s'.heap
 nx:H' x=none
 air:Xh B outer x C a0 s'.heap
 new:x∈fp\/s.heap.get? x=none
 d1:∀b o,s.heap.get? b=!o->b∉frs outer->b∉fp->∃u,B.get? b=!u
 d2:∀b o,H' b=!o->∃u,B.get? b=!u
 ex:E C none H'
section
variable{prog:Program} {w:World} {A:Around} {E:Value->Shared->Prop} {s:Shared}
variable{nm q:Str} {C N:Addr} {bs bm:List Value} {hdct:Bool} {sn:List Str} {sub:List Value} {ab:Bool} {col:Option Bool} {dd:Option Addr} {k0 k1 k2 k3 k5:Option Value} {newId:String} {env:Env}
structure MadeIn (h h':Heap) (e y:Addr) (C:Value) (t:Addr):Prop where
 keeps:∀b o,h.get? b=!o->h'.get? b=!o
 new:h.get? e=none
 there:h'.get? e=!{cls:=C,data:=.fields ([.ref t,.none,.ref y,.none,.bool true,.none].toArray)}cn:Cn e h'
end
end L2
end
section
namespace PySem
open PyProof.Rows
section
variable{prog:Program} {w:World} {A:Around} {E:Value->Shared->Prop} {s:Shared}
def Heap.IsRevT (h:Heap) (a t:Addr) (i:Int):Prop:=∃o,h.get? a=!o/\o.cls=.type "reversed"/\o.data=.fields ([.ref t,rawInt i].toArray)
end
end PySem
namespace L2
open PySem PySem.Spec PyProof.Rows
variable{k:Nat} {ta:TA} {w:World} {A:Around} {a b:Expr} {i1 i2 z:Addr} {prog:Program} {elts:List Expr} {p pos tpos:Pos} {pins:List (Addr×Obj)} {E Q:Value->Shared->Prop}
noncomputable def TJ (K:W.Frag) (a:Addr) (n:Nat):It where
 go:=λi H=>∃xs x,SqT K H a xs/\xs.length=n/\i<n/\xs[n-1-i]?=!x
 yld:=λi H x H'=>H'=H/\∀ys,SqT K H a ys->ys[n-1-i]?=!x
 stop:=λi _=>i=n
def Ys (K:W.Frag) (ta:TA):TI:=λσ H R=>ta σ H λvs H1=>∃a xs,vs=[.ref a]/\SqT K H1 a xs/\R (TJ K a xs.length) H1
noncomputable def Yt (K:W.Frag) (a:Addr) (o:Nat):It:=⟨λi H=>∃xs x,SqL K H a xs/\xs[i]?=!x,λi H v H'=>∃p x,H p=none/\v=.ref p/\H'=upd H p (.tup [.int ((i+o:Nat):Int),x])/\∀xs,SqL K H a xs->xs[i]?=!x,λi H=>∃xs,SqL K H a xs/\xs.length=i⟩
structure EnSf (e it a:Addr) (o i:Nat) (h:Heap):Prop where
 he:∃old,IsEnum h e it ((i+o:Nat):Int) old
 h1:h.IsListIter it a i
def Xi (K:W.Frag) (ta tk:TA):TI:=λσ H R=>ta σ H λvs H1=>tk σ H1 λks H2=>∃a xs o,vs=[.ref a]/\ks=[.int ((o:Nat):Int)]/\o<=1000000000/\SqL K H2 a xs/\R (Yt K a o) H2
def Zb (r:V->V->Hp->VK->Prop) (ta tk:TA):TE:=λσ H Q=>ta σ H λvs H1=>tk σ H1 λks H2=>∃x y,vs=[x]/\ks=[y]/\r x y H2 Q
theorem qG (a b:Addr) (xs f:Array Value):Meets (Builtin.«zip.__new__» #[[.type "zip",.ref a,.ref b],[]]) (λ_ R s=>s.heap.IsTuple a xs/\s.heap.IsTuple b f/\R (.ok (.ret (.ref (Wy s.heap (mY a) (mY b)).objs.size))) {s with heap:=S9 s.heap (mY a) (mY b)}):=
 .of_wp λprog w A R s h=>by
  let#[e,g,d,c,j]:=s;let#[n,l,h]:=h;have i:=sub_zip;have m:Heap.IsTuple (Shared.heap ⟨e,g,d,c,j⟩) a xs:=n;have k:Heap.IsTuple (Shared.heap ⟨e.push (mY a),g,d,c,j⟩) b f:=Heap.IsTuple.push l _
  wp_walk using Ł m,Ł k;show#[_,rfl,h]
theorem tG {s:Shared} {b a:Addr} {xs k:Array Value} (r:s.heap.IsTuple b xs) (p:s.heap.IsTuple a k)
  (h:∀h',IsZip h' (s.heap.objs.size+4) (s.heap.objs.size+2) (s.heap.objs.size+3) .none->IsPair h' (s.heap.objs.size+2) (.ref s.heap.objs.size) (.ref (s.heap.objs.size+1))->IsPair h' (s.heap.objs.size+3) .none .none->h'.IsTupleIter s.heap.objs.size b 0->h'.IsTupleIter (s.heap.objs.size+1) a 0->(∀c o,s.heap.get? c=!o->h'.get? c=!o)->Q (.ref (s.heap.objs.size+4)) {s with heap:=h'}):
  wpAny (model prog w) A (call (.type "zip") [.ref b,.ref a]) Q E s:=by
 show callType_new F.called_zip (by decide) (F.typeCall_zip_2 _ _) (F.newCall_zip_2 _ _) (λg=>F.args_object_init_3 g _ _) F.entry_zip_new (qG b a xs k) #[r,p,?_];generalize hj1:mY b=j1;generalize hj2:mY a=j2;have t:Obj.isFreed j1=false:=by rw[<-hj1];rfl
 have v:Obj.isFreed j2=false:=by rw[<-hj2];rfl
 have i:(Wv s.heap j1).objs.size=s.heap.objs.size+1:=ģ ..;have f:(Ww s.heap j1 j2).objs.size=s.heap.objs.size+2:=by rw[ģ,i]
 have d:(Wx s.heap j1 j2).objs.size=s.heap.objs.size+3:=by rw[ģ,f]
 have l:(Wy s.heap j1 j2).objs.size=s.heap.objs.size+4:=by rw[ģ,d]
 have up:∀{c o} {h:Heap} {u:Obj},h.get? c=!o->(h.push u).get? c=!o:=λe=>Yf _ e;have g5:(S9 s.heap j1 j2).get? (Wy s.heap j1 j2).objs.size=!_:=Ë _ rfl;have j:(S9 s.heap j1 j2).get? (Wx s.heap j1 j2).objs.size=!_:=up (Ë _ rfl);have n:(S9 s.heap j1 j2).get? (Ww s.heap j1 j2).objs.size=!_:=up (up (Ë _ rfl));have m:(S9 s.heap j1 j2).get? (Wv s.heap j1).objs.size=!j2:=up (up (up (Ë _ v)));have q:(S9 s.heap j1 j2).get? s.heap.objs.size=!j1:=up (up (up (up (Ë _ t))));change _/\_;rw[f,d,l]at g5;rw[i,f]at n;rw[d]at j;rw[i]at m;rw[l];show#[#[_,g5,rfl],h _ g5 n j #[_,q,by subst hj1;rfl,by subst hj1;rfl] #[_,m,by subst hj2;rfl,by subst hj2;rfl] λc o x=>up (up (up (up (up x))))]
noncomputable def O3 (K:W.Frag) (a b:Addr):It:=⟨λi H=>∃xs ys x y,SqT K H a xs/\SqT K H b ys/\xs[i]?=!x/\ys[i]?=!y,λi H v H'=>∃p x y,H p=none/\v=.ref p/\H'=upd H p (.tup [x,y])/\(∀xs,SqT K H a xs->xs[i]?=!x)/\∀ys,SqT K H b ys->ys[i]?=!y,λi H=>∃xs ys,SqT K H a xs/\SqT K H b ys/\(xs.length<=i\/ys.length<=i)⟩
structure ZipStU (z TI TO i1 i2 a b:Addr) (i:Nat) (h:Heap):Prop where
 hz:IsZip h z TI TO .none
 hTI:IsPair h TI (.ref i1) (.ref i2)hTO:∃u v,IsPair h TO u v
 h1:h.IsTupleIter i1 a i
 h2:h.IsTupleIter i2 b i
 aTO:a≠TO
 bTO:b≠TO
theorem n6 {X:Cx} {q:St} {H:Hp} {s:Shared} {a b TI TO:Addr} {i:Nat} {xs w:List V} (D:ZipNe z TI TO i1 i2) (I:Inv X pins q H s) (d:SqT X.K H a xs) (h:SqT X.K H b w) (st:ZipStU z TI TO i1 i2 a b i s.heap):ZipApart z TI TO i1 i2 a b:=by
 let#[hz,r,#[A,v0,t],#[x,m,n,_],#[B,l,p,_],e,f]:=st;let#[v,rv,#[y,c,g,_],_]:=I.tuple d;let#[o,u,#[ob,k,j,_],_]:=I.tuple h;show⟨D.TIz,D.TOz,D.i1z,D.i2z,D.TITO,D.TIi1,D.TIi2,D.TOi1,D.TOi2,D.i12,
  kZ c hz (by rw[g];change Value.type "tuple"≠Value.type "zip";decide),e,kZ c m (by rw[g,n];decide),kZ c l (by rw[g,p];decide),
  kZ k hz (by rw[j];change Value.type "tuple"≠Value.type "zip";decide),f,kZ k m (by rw[j,n];decide),kZ k l (by rw[j,p];decide)⟩
theorem zL {P:Program} {K:W.Frag} {TI TO:Addr} (a b:Addr) (D:ZipNe z TI TO i1 i2):Turn P w K (.Tuple elts k tpos) (O3 K a b) [z,TI,TO,i1,i2] z (ZipStU z TI TO i1 i2 a b)where
 mem:=by simp
 obj:=λi h st c U=>by
  let#[hz,f,#[u,v,g],#[o1,e1,c1,d1],#[o2,e2,c2,d2],_,_]:=st;simp only[Å,æ,ď]at U;rcases U with rfl|rfl|rfl|rfl|rfl;.show #[_,hz,λv z=>by cases z]
  .show #[_,f,λv z=>by cases z]
  .show #[_,g,λv z=>by cases z]
  .show #[o1,e1,λv z=>by rw[d1]at z;cases z]
  .show #[o2,e2,λv z=>by rw[d2]at z;cases z]
 keep:=λi h h' st t=>by let#[hz,f,#[u,v,g],Q,R,C,F]:=st;show#[t z (by simp) _ hz,t TI (by simp) _ f,#[u,v,t TO (by simp) _ g],Q.at λo e=>t i1 (by simp) o e,R.at λo e=>t i2 (by simp) o e,C,F]
 item:=by
  intro X Z hw hK U i B s Y H E I J st hg;subst Z hw hK;let#[xs,ys,x,y,m,r,G,hy]:=hg;have N:=n6 D I m r st;let#[M,rv,p,_]:=I.tuple m;let#[A,L,p2,_]:=I.tuple r;let#[u,hu,ru]:=rv.get G;let#[v,hv,ad]:=L.get hy;let#[hz,f,#[u0,v0,g],Q,R,C,F]:=id st;show zJ N (lW N.l1i1) (lW N.l2i2) hz f g #[Q,(show s.heap.IsTuple a M.toArray from p)] #[R,(show s.heap.IsTuple b A.toArray from p2)] (x:=u) (y:=v) (by simpa using hu) (by simpa using hv) λh' a1 a2 a3 a4 a5 a7=>?_;show#[_,rfl,wpAny_letOwnedTupleGo_zip a1 λl b1 O=>?_];have hT:s.heap.objs.size≠z:=ı (Ç hz);have t:∀c o,c∉[z,TI,TO,i1,i2]->s.heap.get? c=!o->l.get? c=!o:=λc o d e=>by simp only[Å,æ,ď,not_or]at d;show O.extBut _ _ d.1 (a7 c o d.1 d.2.2.1 d.2.2.2.1 d.2.2.2.2 e)
  have I1:Inv X B Y H {s with heap:=l,toks:=s.toks}:=I.turnedAll t J;have j:H s.heap.objs.size=none:=I.hok.fresh (Ã _);have e5:l.get? s.heap.objs.size=!{cls:=.type "tuple",data:=.seq ([u,v].toArray)}:=O.extBut _ _ hT a5;have S:IsPair l TI (.ref i1) (.ref i2):=O.extBut _ _ D.TIz (a7 _ _ D.TIz D.TITO D.TIi1 D.TIi2 f);have un:Un (frs X.stack) [z,TI,TO,i1,i2] H (upd H s.heap.objs.size (.tup [x,y])) s.heap l:=⟨λb o q _ _ G=>t b o G q,λb o q _ _ G=>⟨o.slots,t b o G q⟩,λb o q n _=>by rw[az (ã (Ç q))];show n,λb o q G=>⟨o,t b o G q⟩,λb xs q=>by rw[az (aW q j)];show q,λb o x q=>by rw[az (aW q j)];show q,λb ps q=>⟨([].toArray),by rw[az (aW q j),q];simp⟩⟩;have af:HOk X.prog X.w (upd H s.heap.objs.size (.tup [x,y])) l:=HOk.track I1.hok j #[by change 2<=sizeLine;decide,[u,v],.cons ru (.cons ad .nil),_,e5,rfl,_,rfl];have I2:Inv X B Y (upd H s.heap.objs.size (.tup [x,y])) {s with heap:=l}:=I.call' (s':={s with heap:=l}) rfl un af I.bare λc d=>⟨(J c d).2.2.2.1,(J c d).2.1,(J c d).2.2.2.2⟩;show#[.ref s.heap.objs.size,_,I2,rfl,#[_,x,y,j,rfl,rfl,λag h=>by rw[I.tuple_inj h m];show G,λai h=>by rw[I.tuple_inj h r];show hy],#[b1,S,#[u,v,O.extBut _ _ D.TOz a2],a3.1.extBut O.extBut D.i1z,a4.1.extBut O.extBut D.i2z,C,F],λc d=>?_];have ae:c<s.heap.objs.size:=by
   let#[#[o1,e1,_],#[o2,e2,_]]:=(#[Q,R]:_/\_);simp only[Å,æ,ď]at d;rcases d with rfl|rfl|rfl|rfl|rfl;.show Ç hz
   .show Ç f
   .show Ç g
   .show Ç e1
   .show Ç e2
  rw[az (ã ae)];show(J c d).1
 done:=by
  intro X Z hw hK U i B s Y H E I J st hg;subst Z hw hK;let#[xs,ys,m,r,T]:=hg;have N:=n6 D I m r st;let#[M,rv,p,_]:=I.tuple m;let#[A,L,p2,_]:=I.tuple r;let#[hz,f,#[u0,v0,g],Q,R,C,F]:=id st;have ak:=rv.length;have ah:=L.length;show CG (I.ok.hd U) N (lW N.l1i1) (lW N.l2i2) hz f g #[Q,(show s.heap.IsTuple a M.toArray from p)] #[R,(show s.heap.IsTuple b A.toArray from p2)] ?_ λh' t=>?_
  .rcases T with q|q;.left;simp;rfl'
   .right;simp;rfl'
  .show #[rfl,I.turnedAll (t':=s.toks) (λc o d e=>?_) J];simp only[Å,æ,ď,not_or]at d;show t c o d.1 d.2.2.1 d.2.2.2.1 d.2.2.2.2 e
 self:=λ_ _ _ _ _ st h=>wpAny_pyIter_zip st.hz h
def yl (K:W.Frag) (ta:TA):TI:=λσ H R=>ta σ H λvs H1=>∃a b xs ys,vs=[.ref a,.ref b]/\SqT K H1 a xs/\SqT K H1 b ys/\R (O3 K a b) H1
theorem Jd {X:Cx} (E:Gl X "zip") (T:X.calm=true) (N:X.mg "zip"=none) (B:PA X [a,b] ta) (O:starEach [a,b] X.env=[(false,eval a X.env),(false,eval b X.env)]:=by rfl) (m:starEach [b] X.env=[(false,eval b X.env)]:=by rfl):PI X (.Tuple elts k tpos) (.Call (.Name "zip" p) [a,b] [] pos) (yl X.K ta):=by
 intro l s C H R I h;show Call_ (km I E N (show bootBuiltins "zip"=!(.type "zip")by ac_nf) (Ļ (bM (B pos l s C H _ I h) λus d ⟨vs,H1,f,Q,M⟩=>?_) (by rw[O,m]) (by rw[m];rfl)));let#[la,n,xs,S,e,t,x,q]:=M;subst e;cases Q with|cons r rr=>cases rr with|cons r' rr=>
   cases rr;cases r;cases r';let#[u,rv,z,_]:=f.tuple t;let#[j,J,A,_]:=f.tuple x;have w:la<d.heap.objs.size:=by let#[o,e,_]:=z;show Ç e
   have v:n<d.heap.objs.size:=by let#[o,e,_]:=A;show Ç e
   show tG (show d.heap.IsTuple la u.toArray from z) (show d.heap.IsTuple n j.toArray from A) λh' y G P L F D=>?_;show wpAny_pyIter_zip y ?_;show#[d.heap.objs.size+4,[d.heap.objs.size+4,d.heap.objs.size+2,d.heap.objs.size+3,d.heap.objs.size,d.heap.objs.size+1],_,_,H1,rfl,f.kept (t':=d.toks) D,zL la n #[?_,?_,?_,?_,?_,?_,?_,?_,?_,?_],#[y,G,#[_,_,P],L,F,ã (Ý w (ċ _ _)),ã (Ý v (ċ _ _))],λc i=>?_,q];all_goals first
    |(change(_:Nat)≠_;rfl')|skip
   have g:d.heap.objs.size<=c:=by simp only[Å,æ,ď]at i;rcases i with rfl|rfl|rfl|rfl|rfl<;>(change(_:Nat)<=_;rfl')
   show f.fpOk g (f.hok.fresh g)
theorem CK {X:Cx} (K:W.Frag) (d:X.K=K) (e:Gl X "zip") (g:X.calm=true) (i:X.mg "zip"=none) (h:PA X [a,b] ta) (f:starEach [a,b] X.env=[(false,eval a X.env),(false,eval b X.env)]:=by rfl) (c:starEach [b] X.env=[(false,eval b X.env)]:=by rfl):PI X (.Tuple elts k tpos) (.Call (.Name "zip" p) [a,b] [] pos) (yl K ta):=by subst d;show Jd e g i h f c
def Yu (te:TE):TE:=λσ H Q=>te σ H λx H1=>∃n:Nat,x=.int (n:Int)/\n<=1000000/\∀p,H1 p=none->Q (.ref p) (upd H1 p (.tup ((List.range n).map λi:Nat=>V.int (i:Int))))
end L2
end
section
namespace HT
open PySem PySem.Spec PyProof.Rows
variable{w:World} {A:Around} {prog:Program} {items:Array Value} {E Q:Value->Shared->Prop}
theorem jx {s:Shared} {t c:Addr} {i f:Value} {lo hi:Option Int} (a:IsTup s.heap t items) (g:s.heap.IsSliceOf c i f .none) (pl:IsPart i lo) (l:IsPart f hi)(m:dJ items.size 0 lo=0) (n:dJ items.size items.size hi=items.size) (h:Q (.ref t) s):wpAny (model prog w) A (getItem (.ref t) (.ref c)) Q E s:=by
 let#[o,d,e,j]:=id g;have b:s.TypeIs (.ref c) "slice":=#[o,d,e];unfold getItem;try with_reducible show ą ?_
 first|show Qr (Zy ?_)|skip
 show Qr (wpAny_sequenceKey a.typeIs (by decide) ?_);show Qr (wpAny_callSpecial?_slot (name:=Str.ofString "__getitem__") a.typeIs ī (ê ī a.typeIs entry_tuple_getitem ?_ (args_tuple_getitem _ _)));change wpAny _ _ (Builtin.Tuple.tupleItemsOf (.ref t)>>=_) _ _ s;show Qr (tupleItemsOf_ a (Qr (ς b ?_)));rw[if_pos (by decide)];show Qr (gO g pl l ?_);change wpAny _ _ (if(((dJ items.size 0 lo:Nat):Int)==0&&(1:Int)==1&&(dJ items.size items.size hi-dJ items.size 0 lo)==items.size)=true then _ else _) _ _ s;rw[if_pos (by rw[m,n];simp)];have k:s.TypeIs (.ref t) "tuple":=a.typeIs;show Qr ?_;unfold Builtin.Tuple.tupleIsExact;show Qr (ς k (Zy ?_));rw[if_pos (by decide)];show Qr (ė (Zy #[_,rfl,Zy h]))
end HT
namespace L2
open PySem PySem.Spec PyProof.Rows
def lN (K:W.Frag):V->Option Int->Option Int->Hp->VK->Prop:=λx lo hi H Q=>∃a xs,x=.ref a/\SqT K H a xs/\∀p H',(p=a/\H'=H/\fM xs lo hi=xs\/H p=none/\H'=upd H p (.tup (fM xs lo hi)))->SqT K H' p (fM xs lo hi)->Q (.ref p) H'
theorem Je {X:Cx}:KJ X (lN X.K):=by
 intro d s m H x v t o lo hi u Q I i j pl l h;let#[a,xs,rfl,f,q]:=h;by_cases c:HT.dJ xs.length 0 lo=0/\HT.dJ xs.length xs.length hi=xs.length
 .cases i;let#[g,r,k,hz]:=I.tuple f;have b:g.toArray.size=xs.length:=by rw[Î];show r.length.symm
  show#["tuple",_,PyProof.Rows.slot_tuple_getitem.lookup,k.typeIs,?_];have e:fM xs lo hi=xs:=by unfold fM;rw[c.1,c.2,List.drop_zero,Nat.sub_zero,ä]
  show HT.jx k j pl l (by rw[b];show c.1) (by rw[b];show c.2) #[.ref a,H,I,rfl,q a H (.inl #[rfl,rfl,e]) ?_];rw[e];show f
 .show Bj d s m H (.ref a) v t o lo hi u Q I i j pl l #[a,xs,rfl,f,c,λp n=>q p _ (.inr #[n,rfl]) (SqT.of ao)]
theorem eV {X:Cx} (K:W.Frag) (a:X.K=K):KJ X (lN K):=a▸Je
end L2
end
section
namespace L2
open PySem PySem.Spec PyProof.Rows PySem.W
variable{d:DefRec} {q:Program} {CX:World->Ag} {sp:World->Sp} {loose:List Str} {YP:World->Heap->Prop} {XP:(Str->Option Value)->Heap->Prop}
abbrev qH:R2:=rI IntMulOk λi j=>.int (i*j)
theorem ym {X:Cx}:gW X (binaryOp .Mult) qH:=Mv λ_ _ _ _ _ _ _ a q=>mul_int q a
theorem yo:∀(ns:List Int) (n:Int),n∈ns->Builtin.Int.intBits n<=WData.weightAll (ns.map WData.int)
 |m::r,n,h=>by
  have e:WData.weightAll ((m::r).map WData.int)=WData.weight (.int m)+1+WData.weightAll (r.map WData.int):=rfl;rw[e];rcases Å.mp h with rfl|h
  .have:Builtin.Int.intBits n=WData.weight (.int n):=by simp only[WData.weight,Builtin.Int.intBits]
   rfl'
  .have:=yo r n h;rfl'
theorem tH {ns:List Int} (h:WData.layableAll [WData.list (ns.map WData.int)]=true) {n:Int} (c:n∈ns):Builtin.Int.intBits n<=2^20:=by
 have a:WData.layable (WData.list (ns.map WData.int))=true:=by simpa[WData.layableAll]using h
 unfold WData.layable at a;simp only[Ą,Κ]at a;have d:WData.weight (WData.list (ns.map WData.int))=WData.weightAll (ns.map WData.int):=by simp only[WData.weight]
 have b:=a.2;rw[d]at b;show Û (yo ns n c) b
theorem zM {l:OpenLaw} {n k:Nat} {K:Params->Frag}{x:Str} (hn:l.most=!n) (B:n<=sizeLine) (D:d.params.defaults=[]) (R:Room k callerA) (S:∀w h,YP w h->(K w.params).In h)(F:∀(w:World) (mg:Str->Option Value) (z:Addr) (h:Heap),(K w.params).In h->h.Ns mainGlobals mg->mg d.name=!(.ref z)->∃fd:FuncData,(∀(s:Shared) (u:Value),BindsTo s fd #[[u],[]] [(x,u)])/\∀base:Heap,(K w.params).In base->base.Ns mainGlobals mg->FnOk l.prog w (K w.params) mg base (CX w) k z fd [x] (sp w))(A:∀(w:World) (H:Hp) (a:Addr) (ns:List Int),ns.length<=n->(∀i∈ns,Builtin.Int.intBits i<=2^20)->Only H->SqL (K w.params) H a (ns.map V.int)->sp w [.ref a] H (λv _=>v=.bl true) λ_ _ _=>False)
  (I:∀(w:World) (H:Hp) (s:Shared) (e:Value) (s':Shared),CX w [] H s (λ_ _ _=>False) e s'->False):WalkO q loose XP YP l.row.toRowW d [] (λf vs=>PySem.call f vs):=by intro w N p mg mb G Y z o pm cd Z dV kV ho hd U P L hg args O as t m ad E W;cases Dflts.none P D;cases Dflts.noKw P;let#[a,vs,ns,rfl,rfl,y,j,c]:=Att.zq hn t E;have Q:=λi (hi:i∈ns)=>tH m hi;have M:=S w _ Y;let#[fd,J,hF]:=F w mg z _ M G.T.g L;have C:=Bv M G.T.g G.T.b G.T.builtins G.T.nolimit hg y j (Û c B) R hF J (λH hO hS=>A w H a ns c Q hO hS) λH e s'=>I w H p e s';show enter_call (codeAny_mono C λr s' hq=>?_);let#[rfl,h2,h3,h4]:=hq;show#[.inl #[.bool true,.bool true,[],rfl,λ_=>rfl,.bool true,Att.zr l _,λ_=>#[.nil,λ_ X=>(nomatch X)]],h2,h3,h4]
end L2
end
section
namespace Sm
open PySem PyProof.Rows Sx
variable{z:SortSt} {x y:Keyed} {bv:Nat->Bool} {p:Keyed->Bool} {a0:Array Keyed} {ac bc mg n:Nat} {Q:Array Keyed->SortSt->Prop} {A1 A2 A3 B1 B2 L1 S m:List Keyed}
noncomputable def qI:Bool->Keyed->Array Keyed->Nat->Nat->Nat->StateT SortSt Sem (Option Nat):=sortPriv%PySem.Builtin.gallop
noncomputable def O4:Array Keyed->Array Keyed->StateT SortSt Sem (Array Keyed):=sortPriv%PySem.Builtin.mergeLo
noncomputable def O5:Array Keyed->Array Keyed->StateT SortSt Sem (Array Keyed):=sortPriv%PySem.Builtin.mergeHi
noncomputable def Jf:Nat->StateT SortSt Sem Unit:=sortPriv%PySem.Builtin.setMinGallop
noncomputable def TQ (bey:Nat->StateT SortSt Sem (Option Bool)) (n lo hi:Nat):StateT SortSt Sem (Option Nat):=do
 let mut lo:=lo
 let mut hi:=hi
 for _ in[0:n]do
  if lo>=hi then break
  let m:=lo+(hi-lo)/2
  let some mo<-bey m|return none
  if mo then lo:=m+1 else hi:=m
 return !hi
noncomputable def O6 (bey:Nat->StateT SortSt Sem (Option Bool)) (n h:Nat):StateT SortSt Sem (Option Nat):=do
 let mut la:=0
 let mut of:=1
 let mut lo:=0
 let mut hi:=0
 let some rg<-bey h|return none
 if rg then
  let mx:=n-h
  for _ in[0:n]do
   if of>=mx then break
   let some mo<-bey (h+of)|return none
   if not mo then break
   la:=of
   of:=2*of+1
  lo:=h+la+1
  hi:=h+min of mx else
  let mx:=h+1
  for _ in[0:n]do
   if of>=mx then break
   let some fo<-bey (h-of)|return none
   if fo then break
   la:=of
   of:=2*of+1
  lo:=h+1-min of mx
  hi:=h-la
 for _ in[0:n]do
  if lo>=hi then break
  let m:=lo+(hi-lo)/2
  let some mo<-bey m|return none
  if mo then lo:=m+1 else hi:=m
 return !hi
noncomputable def O7 (lf:Bool) (ky:Keyed) (xs:Array Keyed) (b i:Nat):StateT SortSt Sem (Option Bool):=do
  let x<-elem' xs (b+i)
  if lf then lt' x ky else return(<-lt' ky x).map (not ·)
theorem CN (c:Bool) (a:Keyed) (xs:Array Keyed) (b n h:Nat):qI c a xs b n h=O6 (O7 c a xs b) n h:=rfl
section
variable{prog:Program} {w:World} {A:Around} {E:Value->Shared->Prop} {s:Shared} {st:SortSt} {n:Nat} {bv:Nat->Bool} {bey:Nat->StateT SortSt Sem (Option Bool)} {Q:Option Nat->SortSt->Prop}
theorem tK (y:∀i,i<n->∀R:Option Bool->SortSt->Prop,R (!(bv i)) st->wpS (model prog w) A E s (bey i) R st)(u:∀i j,i<=j->j<n->bv j=true->bv i=true) {lo hi:Nat} (F:lo<=hi) (G:hi<=n) (t:∀i,i<lo->bv i=true) (f:∀i,hi<=i->i<n->bv i=false)(q:∀k,k<=n->(∀i,i<k->bv i=true)->(∀i,k<=i->i<n->bv i=false)->Q (!k) st):wpS (model prog w) A E s (TQ bey n lo hi) Q st:=by
 unfold TQ;dsimp only;show Ò (Ĺ (ĝ (I:=λx c z=>z=st/\∃l r,c=(none,l,r)/\l<=r/\r<=n/\r+x<=n+l/\(∀i,i<l->bv i=true)/\∀i,r<=i->i<n->bv i=false)
  (Q:=λc z=>z=st/\∃l,c=(none,l,l)/\l<=n/\(∀i,i<l->bv i=true)/\∀i,l<=i->i<n->bv i=false)
  (λx c z J K h=>?_) (λc z h=>?_) #[rfl,lo,hi,rfl,F,G,(),t,f]) λc z H=>?_)
 .obtain ⟨rfl,l,r,rfl,d,g,C,a,b⟩:=h;dsimp only;by_cases o:l>=r;.rw [if_pos o];obtain rfl:l=r:=Nat.le_antisymm d o;show Ú #[rfl,l,rfl,g,a,b]
  .rw [if_neg o];have p:l<=l+(r-l)/2:=ċ _ _;have v:l+(r-l)/2<r:=();generalize l+(r-l)/2=m at p v⊢;show Ò (y m () _ ?_);dsimp only;cases e:bv m with|true=>rw[if_pos rfl];show Ú #[rfl,m+1,r,rfl,v,g,(),λi hi=>u i m () () e,b]|false=>rw[if_neg Ê];show Ú #[rfl,l,m,rfl,p,(),(),a,λi hi D=>?_];cases e':bv i with
    |false=>rfl|true=>rw[u m i hi D e']at e;cases e
 .obtain ⟨rfl,l,r,rfl,d,g,C,a,b⟩:=h;obtain rfl:l=r:=();show#[rfl,l,rfl,g,a,b]
 .obtain ⟨rfl,l,rfl,B,a,b⟩:=H;show Ú (q l B a b)
theorem tL (p:∀i,i<n->∀R:Option Bool->SortSt->Prop,R (!(bv i)) st->wpS (model prog w) A E s (bey i) R st)(o:∀i j,i<=j->j<n->bv j=true->bv i=true) {h:Nat} (B:h<n)(q:∀k,k<=n->(∀i,i<k->bv i=true)->(∀i,k<=i->i<n->bv i=false)->Q (!k) st):wpS (model prog w) A E s (O6 bey n h) Q st:=by
 have r:∀i j,i<=j->j<n->bv i=false->bv j=false:=λi j b a e=>by cases e':bv j with
  |false=>rfl|true=>rw[o i j b a e']at e;cases e
 unfold O6;dsimp only;show Ò (p h B _ ?_);dsimp only
 cases e0:bv h with|true=>
  rw[if_pos rfl];show Ò (Ĺ (ĝ (I:=λx c z=>z=st/\∃la f,c=(none,la,f)/\la<f/\h+la<n/\x+1<=f/\bv (h+la)=true)
   (Q:=λc z=>z=st/\∃la f,c=(none,la,f)/\la<f/\h+la<n/\bv (h+la)=true/\(n-h<=f\/bv (h+f)=false))
   (λx c z y C l=>?_) (λc z l=>?_) #[rfl,0,1,rfl,(),(),(),e0]) λc z v=>?_)
  .obtain ⟨rfl,la,f,rfl,b,a,u,d⟩:=l;dsimp only;by_cases m:f>=n-h
   .rw [if_pos m];show Ú #[rfl,la,f,rfl,b,a,d,.inl m]
   .rw [if_neg m];show Ò (p _ () _ ?_);dsimp only;cases e:bv (h+f)with
    |false=>rw[if_pos (by decide)];show Ú #[rfl,la,f,rfl,b,a,d,.inr e]|true=>rw[if_neg (by decide)];show Ú #[rfl,f,2*f+1,rfl,(),(),(),e]
  .obtain ⟨rfl,la,f,rfl,b,a,u,d⟩:=l;show#[rfl,la,f,rfl,b,a,d,.inl ()]
  .obtain ⟨rfl,la,f,rfl,b,a,d,g⟩:=v;dsimp only;show tK (bey:=bey) (lo:=h+la+1) (hi:=h+min f (n-h)) p o () () (λi hi=>o i _ () a d) (λi hi t=>?_) q;rcases g with g|g;.rfl'
   .by_cases c:n-h<=f;.rfl'
    .show r _ i () t g|false=>
  rw[if_neg Ê];show Ò (Ĺ (ĝ (I:=λx c z=>z=st/\∃la f,c=(none,la,f)/\la<f/\la<=h/\x+1<=f/\bv (h-la)=false)
   (Q:=λc z=>z=st/\∃la f,c=(none,la,f)/\la<f/\la<=h/\bv (h-la)=false/\(h+1<=f\/bv (h-f)=true))
   (λx c z y C l=>?_) (λc z l=>?_) #[rfl,0,1,rfl,(),(),(),e0]) λc z v=>?_)
  .obtain ⟨rfl,la,f,rfl,b,a,u,d⟩:=l;dsimp only;by_cases m:f>=h+1;.rw [if_pos m];show Ú #[rfl,la,f,rfl,b,a,d,.inl m]
   .rw [if_neg m];show Ò (p _ () _ ?_);dsimp only;cases e:bv (h-f)with|true=>rw[if_pos rfl];show Ú #[rfl,la,f,rfl,b,a,d,.inr e]|false=>rw[if_neg Ê];show Ú #[rfl,f,2*f+1,rfl,(),(),(),e]
  .obtain ⟨rfl,la,f,rfl,b,a,u,d⟩:=l;show#[rfl,la,f,rfl,b,a,d,.inl ()]
  .obtain ⟨rfl,la,f,rfl,b,a,d,g⟩:=v;dsimp only;show tK (bey:=bey) (lo:=h+1-min f (h+1)) (hi:=h-la) p o () () (λi hi=>?_) (λi hi t=>r _ i hi t d) q;rcases g with g|g;.rfl'
   .by_cases c:h+1<=f;.rfl'
    .show o i _ () () g
end
def Sd (B:Keyed->Keyed->Bool) (l:List Keyed):Prop:=l.Pairwise λx y=>B y x=false
def Tw (a0:Array Keyed) (x y:Keyed):Prop:=∃r,(x::y::r).Perm a0.toList
def An (M:Model) (A:Around) (E:Value->Shared->Prop) (s:Shared) (kd:SortKind) (a0:Array Keyed) (B:Keyed->Keyed->Bool):Prop:=∀(st:SortSt) (x y:Keyed) (Q:Option Bool->SortSt->Prop),kindOf st=kd->Tw a0 x y->Q (!(B x y)) st->wpS M A E s (lt' x y) Q st
def Sg (z st:SortSt):Prop:=∃g,z=SortSt.mk' (kindOf st) (arrOf st) (pendingOf st) g (failedOf st)
theorem Sg.refl (st:SortSt):Sg st st:=#[gallopOf st,rfl]
structure Mg (B:Keyed->Keyed->Bool) (A1 A2 B1 B2 o:List Keyed):Prop where
 pm:o.Perm (A1++B1)sd:Sd B o
 le:∀x∈o,∀y,y∈A2\/y∈B2->B y x=false
section
variable{B:Keyed->Keyed->Bool} {A1 A2 B1 B2 o K:List Keyed} {x y:Keyed}
theorem Mg.takeB (k:Wk B) (m:Mg B A1 (x::A2) B1 (K++B2) o) (d:Sd B (x::A2)) (f:Sd B (K++B2)) (h:∀y∈K,B y x=true):Mg B A1 (x::A2) (B1++K) B2 (o++K):=by
 let#[c,_,e]:=à.mp f;show#[?_,à.mpr #[m.sd,c,λu b v a=>m.le u b v (.inr (Ü _ a))],λu b v a=>?_];.rw [<-Þ];show m.pm.append_right K
 .rcases Â.mp b with b|b;.show m.le u b v (a.imp id (Ï _))
  .rcases a with a|a
   .rcases Å.mp a with rfl|a;.show k.an (h u b)
    .show k.tr (k.an (h u b)) (Ű d a)
   .show e u b v a
theorem Mg.takeA (k:Wk B) (m:Mg B A1 (K++A2) B1 (y::B2) o) (d:Sd B (K++A2)) (f:Sd B (y::B2)) (h:∀x∈K,B y x=false):Mg B (A1++K) A2 B1 (y::B2) (o++K):=by
 let#[c,_,e]:=à.mp d;show#[?_,à.mpr #[m.sd,c,λu b v a=>m.le u b v (.inl (Ü _ a))],λu b v a=>?_];.show (m.pm.append_right K).trans ?_;rw[Þ,Þ];show(Į (l₁:=B1)).append_left A1
 .rcases Â.mp b with b|b;.show m.le u b v (a.imp (Ï _) id)
  .rcases a with a|a
   .show e u b v a
   .rcases Å.mp a with rfl|a;.show h u b
    .show k.tr (h u b) (Ű f a)
theorem Mg.tl (m:Mg B A1 A2 B1 B2 o) {T:List Keyed} (a:T.Perm (A2++B2)) (st:Sd B T):(o++T).Perm (A1++A2++(B1++B2))/\Sd B (o++T):=by show#[((m.pm.append a).trans ?_),à.mpr #[m.sd,st,λu c v b=>m.le u c v (Â.mp (a.mem_iff.mp b))]];rw[Þ,Þ,<-Þ B1,<-Þ A2];show((Į (l₁:=B1)).append_right B2).append_left A1
theorem Mg.dn (m:Mg B A1 A2 B1 [] o) (a:Sd B A2):(o++A2++[]).Perm (A1++A2++(B1++[]))/\Sd B (o++A2++[]):=by have:=m.tl (T:=A2) (by rw[å]) a;simpa using this
theorem Mg.dn' (m:Mg B A1 [] B1 B2 o) (a:Sd B B2):(o++[]++B2).Perm (A1++[]++(B1++B2))/\Sd B (o++[]++B2):=by have:=m.tl (T:=B2) (by rw[ŷ]) a;simpa using this
theorem Mg.ls (k:Wk B) (m:Mg B A1 [x] B1 B2 o) (a:Sd B B2) (h:∀y∈B2,B y x=true):(o++B2++[x]).Perm (A1++[x]++(B1++B2))/\Sd B (o++B2++[x]):=by rw[Þ o];show m.tl Į (à.mpr #[a,List.pairwise_singleton _ _,λu b v c=>?_]);rw[Zp.mp c];show k.an (h u b)
end
section
variable{L A1 A2 A3 K:List Keyed} {x:Keyed}
theorem jj (e:L=A1++A2):L.toArray.extract A1.length L.toArray.size=A2.toArray:=by subst e;apply Ŗ.mp;simp
theorem jk (e:L=A1++(K++A2)):L.toArray.extract A1.length (A1.length+K.length)=K.toArray:=by subst e;apply Ŗ.mp;simp
theorem O8 (e:L=A1++x::A2):L.toArray[A1.length]?=!x:=by subst e;simp
theorem Sd.rt {B:Keyed->Keyed->Bool} (s:Sd B (A1++A2)):Sd B A2:=(à.mp s).2.1
theorem Sd.lf {B:Keyed->Keyed->Bool} (s:Sd B (A1++A2)):Sd B A1:=(à.mp s).1
end
section
variable{prog:Program} {w:World} {A:Around} {E:Value->Shared->Prop} {s:Shared} {kd:SortKind} {a0:Array Keyed} {B:Keyed->Keyed->Bool} {st:SortSt}
theorem bx {L:List Keyed} {Q:Keyed->SortSt->Prop} (e:L=A1++x::A2) (q:Q x st):wpS (model prog w) A E s (elem' L.toArray A1.length) Q st:=by rw[elem'_eq,O8 e];show Ú q
theorem qJ {g:Nat} {Q:Unit->SortSt->Prop} (q:Q Unit.unit (SortSt.mk' (kindOf st) (arrOf st) (pendingOf st) g (failedOf st))):wpS (model prog w) A E s (Jf g) Q st:=wpS_modify q
theorem KH {l:List Keyed} (b:∀i (h:i<l.length),bv i=p l[i]) {k:Nat} (c:k<=l.length) (t:∀i,i<k->bv i=true) (f:∀i,k<=i->i<l.length->bv i=false):∃K R,l=K++R/\K.length=k/\(∀x∈K,p x=true)/\∀x∈R,p x=false:=by
 show#[l.take k,l.drop k,(ā k l).symm,by rw[Ñ];rfl',λx a=>?_,λx a=>?_];.obtain ⟨i,hi,rfl⟩:=ó.mp a;rw[Ñ]at hi;rw[List.getElem_take,<-b i ()];show t i ()
 .obtain ⟨i,hi,rfl⟩:=ó.mp a;rw[ô]at hi;rw[List.getElem_drop,<-b (k+i) ()];show f _ () ()
theorem Sd.get {l:List Keyed} (k:Wk B) (d:Sd B l) {i j:Nat} (a:i<=j) (b:j<l.length):B l[j] (l[i]'(Ù a b))=false:=by
 by_cases e:i=j;.subst e;show k.rf _
 .show Ň.mp d i j _ b ()
theorem CP (k:Wk B) (v:An (model prog w) A E s kd a0 B) (D:kindOf st=kd) {L:List Keyed} {h:Nat} {Q:Option Nat->SortSt->Prop} (e:L=A1++(A2++A3)) (d:Sd B A2) (z:∀x∈A2,Tw a0 y x) (F:h<A2.length)
  (q:∀K R,A2=K++R->(∀x∈K,B y x=false)->(∀x∈R,B y x=true)->Q (!K.length) st):wpS (model prog w) A E s (qI false y L.toArray A1.length A2.length h) Q st:=by
 have o:∀{c:Bool},(not c)=true->c=false:=λ{c} h=>by cases c<;>first|rfl| cases h
 have g:∀{c:Bool},(not c)=false->c=true:=λ{c} h=>by cases c<;>first|rfl| cases h
 rw[CN];show tL (bv:=λi=>if h:i<A2.length then not (B y A2[i])else false) (λi hi R r=>?_) (λi j a n t=>?_) F λm u t f=>?_
 .unfold O7;have:L.toArray[A1.length+i]?=some A2[i]:=by subst e;rw[Ā,ú (ċ _ _),ĵ,ĕ hi,Zz hi]
  rw[elem'_eq,this];show Ò (Ú ?_);rw[if_neg Ê];show Ò (v _ _ _ _ D (z _ (ì hi)) (Ú ?_));rw[Ů hi]at r;show r
 .rw [Ů n]at t;rw[Ů (Ù a n),k.tr (d.get k a n) (o t)];rfl
 .obtain ⟨K,R,G,rfl,C,H⟩:=KH (l:=A2) (p:=λx=>not (B y x)) (λi h=>Ů h) u t f;show q K R G (λx b=>o (C x b)) λx b=>g (H x b)
theorem CQ (k:Wk B) (n:An (model prog w) A E s kd a0 B) (v:kindOf st=kd) {L:List Keyed} {h:Nat} {Q:Option Nat->SortSt->Prop} (e:L=A1++(A2++A3)) (d:Sd B A2) (o:∀x∈A2,Tw a0 x y) (z:h<A2.length)
  (q:∀K R,A2=K++R->(∀x∈K,B x y=true)->(∀x∈R,B x y=false)->Q (!K.length) st):wpS (model prog w) A E s (qI true y L.toArray A1.length A2.length h) Q st:=by
 rw[CN];show tL (bv:=λi=>if h:i<A2.length then B A2[i] y else false) (λi hi R r=>?_) (λi j a b t=>?_) z λm g t f=>?_
 .unfold O7;have:L.toArray[A1.length+i]?=some A2[i]:=by subst e;rw[Ā,ú (ċ _ _),ĵ,ĕ hi,Zz hi]
  rw[elem'_eq,this];show Ò (Ú ?_);rw[if_pos rfl];rw[Ů hi]at r;show n _ _ _ _ v (o _ (ì hi)) r
 .rw [Ů b]at t;rw[Ů (Ù a b)];cases c:B (A2[i]'(Ù a b)) y with
  |true=>rfl|false=>rw[k.tr c (d.get k a b)]at t;cases t
 .obtain ⟨K,R,C,rfl,u,D⟩:=KH (l:=A2) (p:=λx=>B x y) (λi h=>Ů h) g t f;show q K R C u D
end
section
variable{α β γ τ:Type}
inductive Se (D:Array Keyed->Prop) (P:Nat->α->β->γ->Prop) (n:Nat):Option (Array Keyed)×α×β×γ×τ->Prop|dn {x:Array Keyed} {t:α×β×γ×τ} (h:D x):Se D P n (!x,t)|go {a:α} {b:β} {c:γ} {t:τ} (h:P n a b c):Se D P n (none,a,b,c,t)
inductive Sy (P:Nat->α->β->γ->Prop) (n:Nat):Option (Array Keyed)×α×β×γ×τ->Prop|go {a:α} {b:β} {c:γ} {t:τ} (h:P n a b c):Sy P n (none,a,b,c,t)
def Sr (D:Array Keyed->Prop) (P:Nat->α->β->γ->Prop) (n:Nat):ForInStep (Option (Array Keyed)×α×β×γ×τ)->Prop
 |.done c=>Se D P n c|.yield c=>Sy P n c
def Sq (D:Array Keyed->Prop) (P:Nat->α->β->γ->Prop) (n:Nat):ForInStep (Option (Array Keyed)×α×β×γ×τ)->Prop
 |.done c=>Se D (λ_ _ _ _=>False) 0 c|.yield c=>Sy P n c
abbrev TF (α β γ:Type):=Nat->α->β->γ->Nat->Nat->StateT SortSt Sem (ForInStep (Option (Array Keyed)×α×β×γ×Nat×Nat))
abbrev TG (α β γ:Type):=α->β->γ->Nat->Nat->Nat->StateT SortSt Sem (ForInStep (Option (Array Keyed)×α×β×γ×Nat×Nat×Nat))
noncomputable def Xj (tot:Nat) (F:TF α β γ) (G:TG α β γ) (r:Option (Array Keyed)×α×β×γ×Nat):StateT SortSt Sem (ForInStep (Option (Array Keyed)×α×β×γ×Nat)):=do
 let s1<-forIn [0:tot] (none,r.2.1,r.2.2.1,r.2.2.2.1,0,0) λ_ s=>F r.2.2.2.2 s.2.1 s.2.2.1 s.2.2.2.1 s.2.2.2.2.1 s.2.2.2.2.2
 match s1.1 with
 |some x=>pure (.done (!x,s1.2.1,s1.2.2.1,s1.2.2.2.1,r.2.2.2.2))|none=>do
  rule "list.sort.gallop"
  let s2<-forIn [0:tot] (none,s1.2.1,s1.2.2.1,s1.2.2.2.1,r.2.2.2.2+1,s1.2.2.2.2.1,s1.2.2.2.2.2) λ_ s=>if s.2.2.2.2.1>1 then G s.2.1 s.2.2.1 s.2.2.2.1 (s.2.2.2.2.1-1) s.2.2.2.2.2.1 s.2.2.2.2.2.2 else G s.2.1 s.2.2.1 s.2.2.2.1 s.2.2.2.2.1 s.2.2.2.2.2.1 s.2.2.2.2.2.2
  match s2.1 with|some x=>pure (.done (!x,s2.2.1,s2.2.2.1,s2.2.2.2.1,s2.2.2.2.2.1))|none=>do
   Jf (s2.2.2.2.2.1+1)
   pure (.yield (none,s2.2.1,s2.2.2.1,s2.2.2.2.1,s2.2.2.2.2.1+1))
noncomputable def WD (tot:Nat) (F:TF α β γ) (G:TG α β γ) (r0:Option (Array Keyed)×α×β×γ×Nat):StateT SortSt Sem (Array Keyed):=do
 let r<-forIn [0:tot] r0 λ_ r=>Xj tot F G r
 match r.1 with
 |some x=>pure x|none=>unsupported "internal:list.sort.merge-bound"
structure Gn (prog:Program) (w:World) (A:Around) (E:Value->Shared->Prop) (s:Shared) (st:SortSt) (D:Array Keyed->Prop) (P:Nat->α->β->γ->Prop) (tot:Nat) (F:TF α β γ) (G:TG α β γ):Prop where
 mo:∀{n m a b c},m<=n->P n a b c->P m a b c
 lt:∀{n a b c},P n a b c->n<tot
 f:∀{n a b c mg ac bc z},Sg z st->P n a b c->wpS (model prog w) A E s (F mg a b c ac bc) (λr z'=>z'=z/\Sr D P (n+1) r) z
 g:∀{n a b c mg ac bc z},Sg z st->P n a b c->wpS (model prog w) A E s (G a b c mg ac bc) (λr z'=>Sg z' st/\Sr D P (n+1) r) z
variable{prog:Program} {w:World} {A:Around} {E:Value->Shared->Prop} {s:Shared} {st:SortSt} {D:Array Keyed->Prop} {P:Nat->α->β->γ->Prop} {tot:Nat} {F:TF α β γ} {G:TG α β γ}
theorem Gn.se (h:Gn prog w A E s st D P tot F G) {m:Nat} (a:m<=n) {c:Option (Array Keyed)×α×β×γ×τ} (x:Se D P n c):Se D P m c:=by cases x with
 |dn x=>show .dn x|go x=>show .go (h.mo a x)
theorem Jg (h:Gn prog w A E s st D P tot F G) {a:α} {b:β} {c:γ} (hz:Sg z st) (k:P n a b c):wpS (model prog w) A E s (Xj tot F G (none,a,b,c,mg)) (λr d=>Sg d st/\Sq D P (n+1) r) z:=by
 unfold Xj;show Ò (Ĺ (ĝ (I:=λx c d=>d=z/\Sy P (x+n) c) (Q:=λc d=>d=z/\Se D P (n+1) c) (λx c d _ _ l=>?_) (λc d l=>?_) #[rfl,.go (by rw[Δ];show k)]) λq p m=>?_);.obtain ⟨e,⟨k⟩⟩:=l;subst e;show Ĺ (h.f hz k) λr o j=>?_;let#[e,j]:=j;subst e;cases r with
  |done c=>show#[rfl,h.se (ζ (Nat.le_add_left n x) 1) j]|yield c=>show#[rfl,(Nat.add_right_comm x 1 n)▸j]
 .obtain ⟨e,⟨k⟩⟩:=l;show absurd (Ù (Û (Nat.le_max_right 0 tot) (ċ _ n)) (h.lt k)) (ü _)
 .obtain ⟨e,m⟩:=m;subst e;cases m with
  |dn hd=>show Ú #[hz,.dn hd]|go hp1=>
   show Ò (wpS_lift (ė #[rfl,?_]));show Ò (Ĺ (ĝ (I:=λx c d=>Sg d st/\Sy P (x+(n+1)) c) (Q:=λc d=>Sg d st/\Se D P (n+1) c) (λx c d _ _ l=>?_) (λc d l=>?_) #[hz,.go (by rw[Δ];show hp1)]) λq p m=>?_);.obtain ⟨hz,⟨k⟩⟩:=l;dsimp only;split;all_goals
     show Ĺ (h.g hz k) λr o j=>?_;let#[i,j]:=j;cases r with
     |done c=>show#[i,h.se (Û (Nat.le_add_left (n+1) x) (Ū _)) j]
     |yield c=>show#[i,(Nat.add_right_comm x 1 (n+1))▸j]
   .obtain ⟨e,⟨k⟩⟩:=l;show absurd (Ù (Û (Nat.le_max_right 0 tot) (ċ _ (n+1))) (h.lt k)) (ü _)
   .obtain ⟨i,m⟩:=m;cases m with
    |dn hd=>show Ú #[i,.dn hd]|go hp2=>let#[g,e]:=i;subst e;show Ò (qJ (Ú #[#[_,rfl],.go hp2]))
theorem yp (h:Gn prog w A E s st D P tot F G) {a:α} {b:β} {c:γ} (f:P 0 a b c) (q:∀r z,D r->Sg z st->Q r z):wpS (model prog w) A E s (WD tot F G (none,a,b,c,mg)) Q st:=by
 unfold WD;show Ò (Ĺ (ĝ (I:=λx c e=>Sg e st/\Sy P x c) (Q:=λc e=>Sg e st/\Se D (λ_ _ _ _=>False) 0 c) (λx c e _ _ i=>?_) (λc e i=>?_) #[Sg.refl _,.go f]) λm l j=>?_);.obtain ⟨hz,⟨f⟩⟩:=i;show Ĺ (Jg h hz f) λr k g=>?_;let#[d,g]:=g;cases r with
  |done c=>show#[d,g]|yield c=>show#[d,g]
 .obtain ⟨hz,⟨f⟩⟩:=i;show absurd (Ù (Nat.le_max_right 0 tot) (h.lt f)) (ü _)
 .obtain ⟨d,j⟩:=j
  cases j with
  |dn hd=>show Ú (q _ _ hd d)|go hp2=>show hp2.elim
end
abbrev GS:=ForInStep (Option (Array Keyed)×Array Keyed×Nat×Nat×Nat×Nat×Nat)
noncomputable def G3 (a b o:Array Keyed) (p q mg ac k:Nat):StateT SortSt Sem GS:=do
 let u<-elem' a p
 if(p+1+1==a.size)=true then pure (.done (!(o.push u++b.extract q b.size++a.extract (p+1) a.size),o.push u,p+1,q,mg,ac,k))else if(decide (ac<7)&&decide (k<7))=true then pure (.done (none,o.push u,p+1,q,mg,ac,k))else pure (.yield (none,o.push u,p+1,q,mg,ac,k))
noncomputable def G2 (a b o:Array Keyed) (p q mg ac bc:Nat):StateT SortSt Sem GS:=do
 let u<-elem' b q
 if(q+1==b.size)=true then pure (.done (!(o.push u++a.extract p a.size++b.extract (q+1) b.size),o.push u,p,q+1,mg,ac,bc))else do
  let v<-elem' a p
  let x<-qI true v b (q+1) (b.size-(q+1)) 0
  match x with
  |some k=>
   if k>0 then
    if(q+1+k==b.size)=true then pure (.done (!(o.push u++b.extract (q+1) (q+1+k)++a.extract p a.size++b.extract (q+1+k) b.size),o.push u++b.extract (q+1) (q+1+k),p,q+1+k,mg,ac,k))else G3 a b (o.push u++b.extract (q+1) (q+1+k)) p (q+1+k) mg ac k else G3 a b (o.push u) p (q+1) mg ac k|_=>pure (.done (!(o.push u++a.extract p a.size++b.extract (q+1) b.size),o.push u,p,q+1,mg,ac,bc))
noncomputable def G1 (a b o:Array Keyed) (p q mg ac bc:Nat):StateT SortSt Sem GS:=do
 Jf mg
 let u<-elem' b q
 let x<-qI false u a p (a.size-p) 0
 match x with
 |some k=>if k>0 then
   if(p+k+1==a.size)=true then pure (.done (!(o++a.extract p (p+k)++b.extract q b.size++a.extract (p+k) a.size),o++a.extract p (p+k),p+k,q,mg,k,bc))else if(p+k==a.size)=true then pure (.done (!(o++a.extract p (p+k)++a.extract (p+k) a.size++b.extract q b.size),o++a.extract p (p+k),p+k,q,mg,k,bc))
   else G2 a b (o++a.extract p (p+k)) (p+k) q mg k bc else G2 a b o p q mg k bc|_=>pure (.done (!(o++a.extract p a.size++b.extract q b.size),o,p,q,mg,ac,bc))
noncomputable def F1 (a b:Array Keyed) (mg:Nat) (o:Array Keyed) (p q ac bc:Nat):StateT SortSt Sem (ForInStep (Option (Array Keyed)×Array Keyed×Nat×Nat×Nat×Nat)):=do
 let y<-elem' b q
 let x<-elem' a p
 match <-lt' y x with
 |some bw=>if bw=true then do
   let u<-elem' b q
   if(q+1==b.size)=true then pure (.done (!(o.push u++a.extract p a.size++b.extract (q+1) b.size),o.push u,p,q+1,0,bc+1))else if bc+1>=mg then pure (.done (none,o.push u,p,q+1,0,bc+1))
   else pure (.yield (none,o.push u,p,q+1,0,bc+1))else do
   let u<-elem' a p
   if(p+1+1==a.size)=true then pure (.done (!(o.push u++b.extract q b.size++a.extract (p+1) a.size),o.push u,p+1,q,ac+1,0))else if ac+1>=mg then pure (.done (none,o.push u,p+1,q,ac+1,0))else pure (.yield (none,o.push u,p+1,q,ac+1,0))|_=>pure (.done (!(o++a.extract p a.size++b.extract q b.size),o,p,q,ac,bc))
theorem O9 (a b:Array Keyed):O4 a b=(do
 rule "list.sort.merge-lo"
 let y<-elem' b 0
 if(1==b.size)=true then pure (([y].toArray)++a.extract 0 a.size++b.extract 1 b.size)else if(0+1==a.size)=true then pure (([y].toArray)++b.extract 1 b.size++a.extract 0 a.size)else do
  let st<-get
  WD (a.size+b.size) (F1 a b) (G1 a b) (none,([y].toArray),0,1,gallopOf st)):=by kernel_rfl
structure Ml (B:Keyed->Keyed->Bool) (L1 L2 A1 A2 B1 B2 o:List Keyed):Prop where
 e1:L1=A1++A2
 e2:L2=B1++B2
 mg:Mg B A1 A2 B1 B2 o
section
variable{prog:Program} {w:World} {A:Around} {E:Value->Shared->Prop} {s:Shared} {kd:SortKind} {a0:Array Keyed} {B:Keyed->Keyed->Bool} {st:SortSt} {L1 L2:List Keyed}
theorem CT {l:List Keyed} (h:2<=l.length):∃x y r,l=x::y::r:=by let#[x,m,rfl]:=ç (Ý Nat.zero_lt_two h);let#[y,r,rfl]:=ç (Λ h);show#[x,y,r,rfl]
theorem CV {l:List Keyed} (h:l.length=1):∃x,l=[x]:=List.length_eq_one_iff.mp h
theorem CW {B:Keyed->Keyed->Bool} {l:List Keyed} (h:l.length<2):Sd B l:=by cases l with
 |nil=>show .nil|cons x r=>cases r with
  |nil=>show List.pairwise_singleton _ _|cons y r=>show absurd (Λ (Λ h)) (Nat.not_lt_zero _)
theorem ni {l:List Keyed} (e:l=m++[x]):l.getLast?=!x:=by subst e;simp
theorem Ml.la {o:List Keyed} (k:Wk B) (c:Sd B L2) (a:∀x,L1.getLast?=!x->∀y∈L2,B y x=true) (m:Ml B L1 L2 A1 A2 B1 B2 o) (h:A2.length=1):∃r,o.toArray++L2.toArray.extract B1.length L2.toArray.size++L1.toArray.extract A1.length L1.toArray.size=r.toArray/\r.Perm (L1++L2)/\Sd B r:=by
 let#[x,rfl]:=CV h;rw[jj m.e1,jj m.e2];have:=m.mg.ls k (Sd.rt (m.e2▸c)) λy b=>a x (ni m.e1) y (by rw[m.e2];show Ï _ b);rw[<-m.e1,<-m.e2]at this;show#[o++B2++[x],by simp,this]
theorem Ml.dn {o:List Keyed} (a:Sd B L1) (m:Ml B L1 L2 A1 A2 B1 B2 o) (h:B2=[]):∃r,o.toArray++L1.toArray.extract A1.length L1.toArray.size++L2.toArray.extract B1.length L2.toArray.size=r.toArray/\r.Perm (L1++L2)/\Sd B r:=by subst h;rw[jj m.e1,jj m.e2];have:=m.mg.dn (Sd.rt (m.e1▸a));rw[<-m.e1,<-m.e2]at this;show#[o++A2++[],by simp,this]
theorem Ml.dn' {o:List Keyed} (a:Sd B L2) (m:Ml B L1 L2 A1 A2 B1 B2 o) (h:A2=[]):∃r,o.toArray++L1.toArray.extract A1.length L1.toArray.size++L2.toArray.extract B1.length L2.toArray.size=r.toArray/\r.Perm (L1++L2)/\Sd B r:=by subst h;rw[jj m.e1,jj m.e2];have:=m.mg.dn' (Sd.rt (m.e2▸a));rw[<-m.e1,<-m.e2]at this;show#[o++[]++B2,by simp,this]
theorem Ml.b1 {o:List Keyed} (k:Wk B) (b:Sd B L1) (a:Sd B L2) (m:Ml B L1 L2 A1 (x::A2) B1 (y::B2) o) (h:B y x=true):Ml B L1 L2 A1 (x::A2) (B1++[y]) B2 (o++[y]):=#[m.e1,by rw[m.e2];simp,Mg.takeB (K:=[y]) k m.mg (Sd.rt (m.e1▸b)) (Sd.rt (m.e2▸a)) λu c=>by rw[Zp.mp c];show h]
theorem Ml.a1 {o:List Keyed} (k:Wk B) (b:Sd B L1) (a:Sd B L2) (m:Ml B L1 L2 A1 (x::A2) B1 (y::B2) o) (h:B y x=false):Ml B L1 L2 (A1++[x]) A2 B1 (y::B2) (o++[x]):=#[by rw[m.e1];simp,m.e2,Mg.takeA (K:=[x]) k m.mg (Sd.rt (m.e1▸b)) (Sd.rt (m.e2▸a)) λu c=>by rw[Zp.mp c];show h]
theorem Ml.bk {K o:List Keyed} (k:Wk B) (b:Sd B L1) (a:Sd B L2) (m:Ml B L1 L2 A1 (x::A2) B1 (K++B2) o) (h:∀y∈K,B y x=true):Ml B L1 L2 A1 (x::A2) (B1++K) B2 (o++K):=#[m.e1,by rw[m.e2];simp,Mg.takeB k m.mg (Sd.rt (m.e1▸b)) (Sd.rt (m.e2▸a)) h]
theorem Ml.ak {K o:List Keyed} (k:Wk B) (b:Sd B L1) (a:Sd B L2) (m:Ml B L1 L2 A1 (K++A2) B1 (y::B2) o) (h:∀x∈K,B y x=false):Ml B L1 L2 (A1++K) A2 B1 (y::B2) (o++K):=#[by rw[m.e1];simp,m.e2,Mg.takeA k m.mg (Sd.rt (m.e1▸b)) (Sd.rt (m.e2▸a)) h]
def Gd (B:Keyed->Keyed->Bool) (L1 L2:List Keyed) (r:Array Keyed):Prop:=∃l:List Keyed,r=l.toArray/\l.Perm (L1++L2)/\Sd B l
theorem CZ {L:List Keyed} (e:L=A1++A2):(A1.length==L.toArray.size)=decide (A2.length=0):=by
 subst e;rw[Î,À];by_cases h:A2.length=0;.rw [h];simp
 .rw [È h];show Ė.mpr ()
theorem Jh {L:List Keyed} (e:L=A1++A2):(A1.length+1==L.toArray.size)=decide (A2.length=1):=by
 subst e;rw[Î,À];by_cases h:A2.length=1;.rw [h];simp
 .rw [È h];show Ė.mpr ()
theorem bu (A1:List Keyed) (x:Keyed):(A1++[x]).length=A1.length+1:=by simp
theorem jT (o:List Keyed) (x:Keyed):o.toArray.push x=(o++[x]).toArray:=by simp
inductive PL (B:Keyed->Keyed->Bool) (L1 L2:List Keyed) (n:Nat):Array Keyed->Nat->Nat->Prop|mk {A1 A2 B1 B2 o:List Keyed} (m:Ml B L1 L2 A1 A2 B1 B2 o) (h1:2<=A2.length) (h2:1<=B2.length) (h3:n+1<=A1.length+B1.length):PL B L1 L2 n o.toArray A1.length B1.length
theorem Dc (k:Wk B) (p:Sd B L1) (f:Sd B L2) (i:∀x,L1.getLast?=!x->∀y∈L2,B y x=true) (c:Sg z st){o:List Keyed} (m:Ml B L1 L2 A1 (x::A2) B1 (y::B2) o) (e:B y x=false) (l:1<=A2.length) (t:n+1<=A1.length+B1.length):wpS (model prog w) A E s (G3 L1.toArray L2.toArray o.toArray A1.length B1.length mg ac bc) (λr h=>Sg h st/\Sr (Gd B L1 L2) (PL B L1 L2) (n+1) r) z:=by
 unfold G3;show Ò (bx m.e1 ?_);have a:=m.a1 k p f e;rw[jT,<-bu A1 x,Jh a.e1];by_cases d:A2.length=1;.rw [if_pos (Ö d)];let#[r,q,j]:=a.la k f i d;show Ú #[c,.dn #[r,q,j]]
 .rw [if_neg (by simpa using d)];have b:n+1+1<=(A1++[x]).length+B1.length:=by rw[bu];rfl'
  by_cases g:(decide (ac<7)&&decide (bc<7))=true;.rw [if_pos g];show Ú #[c,.go #[a,(),by simp,b]]
  .rw [if_neg g];show Ú #[c,.go #[a,(),by simp,b]]
theorem De {L:List Keyed} (e:L=A1++A2):L.toArray.size-A1.length=A2.length:=by subst e;simp
theorem yq (o K:List Keyed):o.toArray++K.toArray=(o++K).toArray:=by simp
theorem Df (k:Wk B) (F:An (model prog w) A E s kd a0 B) (I:kindOf st=kd) (H:∀x∈L1,∀y∈L2,Tw a0 y x) (b:Sd B L1) (d:Sd B L2) (q:∀x,L1.getLast?=!x->∀y∈L2,B y x=true) (c:Sg z st){o:List Keyed} (m:Ml B L1 L2 A1 (x::A2) B1 (y::B2) o) (e:B y x=true) (f:1<=A2.length) (O:n+1<=A1.length+B1.length):wpS (model prog w) A E s (G2 L1.toArray L2.toArray o.toArray A1.length B1.length mg ac bc) (λr D=>Sg D st/\Sr (Gd B L1 L2) (PL B L1 L2) (n+1) r) z:=by
 have kz:kindOf z=kd:=by let#[g,rfl]:=c;show I
 unfold G2;show Ò (bx m.e2 ?_);have a:=m.b1 k b d e;rw[jT,<-bu B1 y,CZ a.e2];by_cases h:B2.length=0;.rw [if_pos (Ö h)];let#[r,l,j]:=a.dn b (Ð h);show Ú #[c,.dn #[r,l,j]]
 rw[if_neg (by simpa using h)];show Ò (bx m.e1 ?_);rw[De a.e2];have C:Sd B B2:=Sd.rt (a.e2▸d);have J:x∈L1:=by rw[m.e1];simp
 show Ò (CQ k F kz (A3:=[]) (by rw[å];show a.e2) C (λu M=>H x J u (by rw[a.e2];show Ï _ M)) () λK R N L t=>?_);dsimp only;subst N;by_cases v:K.length>0
 .rw [if_pos v,jk a.e2,yq (o++[y]) K];have p:=a.bk k b d L;rw[<-À,CZ p.e2];by_cases i:R.length=0;.rw [if_pos (Ö i)];let#[r,l,j]:=p.dn b (Ð i);show Ú #[c,.dn #[r,l,j]]
  rw[if_neg (by simpa using i)];let#[G,R,rfl]:=ç (đ i);show Dc k b d q c p (t _ Ì) f (by simp only[À,é];rfl')
 .rw [if_neg v];obtain rfl:K=[]:=Ð ();rw[ŷ]at h a;let#[G,R,rfl]:=ç (đ h);show Dc k b d q c a (t _ Ì) f (by simp only[À,é];rfl')
theorem Oa (k:Wk B) (l:An (model prog w) A E s kd a0 B) (q:kindOf st=kd) (p:∀x∈L1,∀y∈L2,Tw a0 y x) (h:Sd B L1) (b:Sd B L2) (i:∀x,L1.getLast?=!x->∀y∈L2,B y x=true) (a:Sg z st)
  {o:List Keyed} (m:Ml B L1 L2 A1 A2 B1 B2 o) (c:2<=A2.length) (t:1<=B2.length) (I:n+1<=A1.length+B1.length):wpS (model prog w) A E s (G1 L1.toArray L2.toArray o.toArray A1.length B1.length mg ac bc) (λr F=>Sg F st/\Sr (Gd B L1 L2) (PL B L1 L2) (n+1) r) z:=by
 let#[g,rfl]:=a;unfold G1;show Ò (qJ ?_);let#[y,B2,rfl]:=ç t;have J:y∈L2:=by rw[m.e2];simp
 have a:Sg (SortSt.mk' (kindOf st) (arrOf st) (pendingOf st) mg (failedOf st)) st:=#[_,rfl];show Ò (bx m.e2 ?_);rw[De m.e1];have G:Sd B A2:=Sd.rt (m.e1▸h);have kz:kindOf (SortSt.mk' (kindOf st) (arrOf st) (pendingOf st) mg (failedOf st))=kd:=q;show Ò (CP k l kz (A2:=A2) (A3:=[]) (by rw[å];show m.e1) G (λu L=>p u (by rw[m.e1];show Ï _ L) y J) () λK R M H C=>?_);dsimp only;subst M;by_cases D:K.length>0
 .rw [if_pos D,jk m.e1,yq o K];have d:=m.ak k h b H;rw[<-À,CZ d.e1,Jh d.e1];by_cases e:R.length=1;.rw [if_pos (Ö e)];let#[r,v,j]:=d.la k b i e;show Ú #[a,.dn #[r,v,j]]
  rw[if_neg (by simpa using e)];by_cases f:R.length=0;.rw [if_pos (Ö f)];let#[r,v,j]:=d.dn' b (Ð f);show Ú #[a,.dn #[r,v,j]]
  rw[if_neg (by simpa using f)];let#[x,R,rfl]:=ç (đ f);show Df k l q p h b i a d (C _ Ì) (by rw[é]at e;rfl') (by simp only[À];rfl')
 .rw [if_neg D];obtain rfl:K=[]:=Ð ();rw[ŷ]at c m;let#[x,N,R,rfl]:=CT c;show Df k l q p h b i a m (C _ Ì) (by simp) I
theorem Ob (k:Wk B) (t:An (model prog w) A E s kd a0 B) (C:kindOf st=kd) (u:∀x∈L1,∀y∈L2,Tw a0 y x) (i:Sd B L1) (f:Sd B L2) (q:∀x,L1.getLast?=!x->∀y∈L2,B y x=true) (v:Sg z st){o:List Keyed} (m:Ml B L1 L2 A1 (x::A2) B1 (y::B2) o) (h:1<=A2.length) (D:n+1<=A1.length+B1.length):wpS (model prog w) A E s (F1 L1.toArray L2.toArray mg o.toArray A1.length B1.length ac bc) (λr l=>l=z/\Sr (Gd B L1 L2) (PL B L1 L2) (n+1) r) z:=by
 have kz:kindOf z=kd:=by let#[g,rfl]:=v;show C
 unfold F1;show Ò (bx m.e2 (Ò (bx m.e1 (Ò (t _ _ _ _ kz (u x (by rw[m.e1];simp) y (by rw[m.e2];simp)) ?_)))));dsimp only;cases e:B y x with
 |true=>
  rw[if_pos rfl];show Ò (bx m.e2 ?_);have b:=m.b1 k i f e;rw[jT,<-bu B1 y,CZ b.e2];by_cases a:B2.length=0;.rw [if_pos (Ö a)];let#[r,j,d]:=b.dn i (Ð a);show Ú #[rfl,.dn #[r,j,d]]
  .rw [if_neg (by simpa using a)];have p:PL B L1 L2 (n+1) _ _ _:=#[b,Ŕ h,đ a,by rw[bu];rfl'];by_cases c:bc+1>=mg;.rw [if_pos c];show Ú #[rfl,.go p]
   .rw [if_neg c];show Ú #[rfl,.go p]|false=>
  rw[if_neg Ê];show Ò (bx m.e1 ?_);have b:=m.a1 k i f e;rw[jT,<-bu A1 x,Jh b.e1];by_cases a:A2.length=1;.rw [if_pos (Ö a)];let#[r,j,d]:=b.la k f q a;show Ú #[rfl,.dn #[r,j,d]]
  .rw [if_neg (by simpa using a)];have p:PL B L1 L2 (n+1) _ _ _:=#[b,(),Nat.succ_pos _,by rw[bu];rfl'];by_cases c:ac+1>=mg;.rw [if_pos c];show Ú #[rfl,.go p]
   .rw [if_neg c];show Ú #[rfl,.go p]
theorem TV (k:Wk B) (c:An (model prog w) A E s kd a0 B) (i:kindOf st=kd) (d:∀x∈L1,∀y∈L2,Tw a0 y x) (e:Sd B L1) (j:Sd B L2) (b:∀x,L1.getLast?=!x->∀y∈L2,B y x=true):Gn prog w A E s st (Gd B L1 L2) (PL B L1 L2) (L1.toArray.size+L2.toArray.size) (F1 L1.toArray L2.toArray) (G1 L1.toArray L2.toArray)where
 mo:=λh p=>by cases p with|mk m h1 h2 h3=>show⟨m,h1,h2,Û (Ŕ h) h3⟩
 lt:=λp=>by cases p with
  |mk m h1 h2 h3=>have l:=ß List.length m.e1;have n:=ß List.length m.e2;rw[À]at l n;rw[Î,Î];rfl'
 f:=λa p=>by cases p with|mk m h1 h2 h3=>let#[o,q,A3,rfl]:=CT h1;let#[t,r,rfl]:=ç h2;show Ob k c i d e j b a m (Nat.succ_pos _) h3
 g:=λa p=>by cases p with|mk m h1 h2 h3=>show Oa k c i d e j b a m h1 h2 h3
theorem Ji (k:Wk B) (C:An (model prog w) A E s kd a0 B) (F:kindOf st=kd) (D:∀x∈L1,∀y∈L2,Tw a0 y x) (j:Sd B L1) (g:Sd B L2) (H:1<=L1.length) (I:1<=L2.length)(G:∀y,L2.head?=!y->∀x∈L1,B y x=true) (n:∀x,L1.getLast?=!x->∀y∈L2,B y x=true)(q:∀r z,Gd B L1 L2 r->Sg z st->Q r z):wpS (model prog w) A E s (O4 L1.toArray L2.toArray) Q st:=by
 rw[O9];show Ò (wpS_lift (ė #[rfl,?_]));let#[c,a,rfl]:=ç I;let#[e,b,rfl]:=ç H;have d:Ml B (e::b) (c::a) [] (e::b) [c] a [c]:=Ml.b1 (A1:=[]) (B1:=[]) (o:=[]) k j g #[rfl,rfl,#[.refl _,.nil,λ_ h=>by cases h]] (G c rfl e Ì);generalize e::b=L1 at*;generalize c::a=L2 at*;have p:=d.e2;have v:=d.e1;show Ò (bx (A1:=[]) p ?_);have t:=CZ p;have u:=Jh v;rw[show([c]:List Keyed).length=1 from rfl]at t;rw[show([]:List Keyed).length=0 from rfl]at u;rw[t,u];by_cases l:a.length=0;.rw [if_pos (Ö l)];let#[r,m,f]:=d.dn j (Ð l);show Ú (q _ _ #[r,m,f] (Sg.refl _))
 rw[if_neg (by simpa using l)];by_cases i:L1.length=1;.rw [if_pos (Ö i)];let#[r,m,f]:=d.la k g n i;show Ú (q _ _ #[r,m,f] (Sg.refl _))
 rw[if_neg (by simpa using i)];show Ò (δ ?_);show yp (TV k C F D j g n) (PL.mk d () () (Ã _)) q
end
abbrev HS:=ForInStep (Option (Array Keyed)×Nat×Nat×Array Keyed×Nat×Nat×Nat)
noncomputable def H3 (a b o:Array Keyed) (p q mg ac k:Nat):StateT SortSt Sem HS:=do
 let u<-elem' a (p-1)
 if(p-1==0)=true then pure (.done (!(a.extract 0 (p-1)++b.extract 0 q++(o.push u).reverse),p-1,q,o.push u,mg,ac,k))else if(decide (ac<7)&&decide (k<7))=true then pure (.done (none,p-1,q,o.push u,mg,ac,k))else pure (.yield (none,p-1,q,o.push u,mg,ac,k))
noncomputable def H2 (a b o:Array Keyed) (p q mg ac bc:Nat):StateT SortSt Sem HS:=do
 let u<-elem' b (q-1)
 if(q-1==1)=true then pure (.done (!(b.extract 0 (q-1)++a.extract 0 p++(o.push u).reverse),p,q-1,o.push u,mg,ac,bc))else do
  let v<-elem' a (p-1)
  let x<-qI true v b 0 (q-1) (q-1-1)
  match x with
  |some f=>if q-1-f>0 then
    if(f==1)=true then pure (.done (!(b.extract 0 f++a.extract 0 p++(o.push u++(b.extract f (q-1)).reverse).reverse),p,f,o.push u++(b.extract f (q-1)).reverse,mg,ac,q-1-f))else if(f==0)=true then pure (.done (!(a.extract 0 p++b.extract 0 f++(o.push u++(b.extract f (q-1)).reverse).reverse),p,f,o.push u++(b.extract f (q-1)).reverse,mg,ac,q-1-f))else H3 a b (o.push u++(b.extract f (q-1)).reverse) p f mg ac (q-1-f)else H3 a b (o.push u) p (q-1) mg ac (q-1-f)|_=>pure (.done (!(a.extract 0 p++b.extract 0 (q-1)++(o.push u).reverse),p,q-1,o.push u,mg,ac,bc))
noncomputable def H1 (a b o:Array Keyed) (p q mg ac bc:Nat):StateT SortSt Sem HS:=do
 Jf mg
 let u<-elem' b (q-1)
 let x<-qI false u a 0 p (p-1)
 match x with
 |some f=>
  if p-f>0 then
   if(f==0)=true then pure (.done (!(a.extract 0 f++b.extract 0 q++(o++(a.extract f p).reverse).reverse),f,q,o++(a.extract f p).reverse,mg,p-f,bc))else H2 a b (o++(a.extract f p).reverse) f q mg (p-f) bc else H2 a b o p q mg (p-f) bc|_=>pure (.done (!(a.extract 0 p++b.extract 0 q++o.reverse),p,q,o,mg,ac,bc))
noncomputable def E1 (a b:Array Keyed) (mg p q:Nat) (o:Array Keyed) (ac bc:Nat):StateT SortSt Sem (ForInStep (Option (Array Keyed)×Nat×Nat×Array Keyed×Nat×Nat)):=do
 let y<-elem' b (q-1)
 let x<-elem' a (p-1)
 match <-lt' y x with
 |some aw=>if aw=true then do
   let u<-elem' a (p-1)
   if(p-1==0)=true then pure (.done (!(a.extract 0 (p-1)++b.extract 0 q++(o.push u).reverse),p-1,q,o.push u,ac+1,0))else if ac+1>=mg then pure (.done (none,p-1,q,o.push u,ac+1,0))
   else pure (.yield (none,p-1,q,o.push u,ac+1,0))else do
   let u<-elem' b (q-1)
   if(q-1==1)=true then pure (.done (!(b.extract 0 (q-1)++a.extract 0 p++(o.push u).reverse),p,q-1,o.push u,0,bc+1))else if bc+1>=mg then pure (.done (none,p,q-1,o.push u,0,bc+1))else pure (.yield (none,p,q-1,o.push u,0,bc+1))
 |_=>pure (.done (!(a.extract 0 p++b.extract 0 q++o.reverse),p,q,o,ac,bc))
theorem Oc (a b:Array Keyed):O5 a b=(do
 rule "list.sort.merge-hi"
 let x<-elem' a (a.size-1)
 if(a.size-1==0)=true then pure (a.extract 0 (a.size-1)++b.extract 0 b.size++ ([x].toArray).reverse)else if(b.size==1)=true then pure (b.extract 0 b.size++a.extract 0 (a.size-1)++ ([x].toArray).reverse)else do
  let st<-get
  WD (a.size+b.size) (E1 a b) (λp q o mg ac bc=>H1 a b o p q mg ac bc) (none,a.size-1,b.size,([x].toArray),gallopOf st)):=by kernel_rfl
structure Mh (B:Keyed->Keyed->Bool) (L1 L2 A1 A2 B1 B2 o:List Keyed):Prop where
 e1:L1=A1++A2
 e2:L2=B1++B2
 pm:o.Perm (A2++B2)sd:Sd B o
 le:∀x∈o,∀y,y∈A1\/y∈B1->B x y=false
section
variable{B:Keyed->Keyed->Bool} {L1 L2 A1 A2 B1 B2 o K:List Keyed} {x y:Keyed}
theorem Mh.ak (k:Wk B) (d:Sd B L1) (f:Sd B L2) (m:Mh B L1 L2 (A1++K) A2 (B1++[y]) B2 o) (h:∀x∈K,B y x=true):Mh B L1 L2 A1 (K++A2) (B1++[y]) B2 (K++o):=by
 let#[_,c,e]:=à.mp (Sd.lf (m.e1▸d):Sd B (A1++K));let#[_,_,g]:=à.mp (Sd.lf (m.e2▸f):Sd B (B1++[y]));show#[by rw[m.e1,Þ],m.e2,by rw[Þ];show m.pm.append_left K,à.mpr #[c,m.sd,λu b v a=>m.le v a u (.inl (Ï _ b))],λu b v a=>?_];rcases Â.mp b with b|b
 .rcases a with a|a;.show e v a u b
  .rcases Â.mp a with a|a;.show k.tr (g v a y (Zp.mpr rfl)) (k.an (h u b))
   .rw [Zp.mp a];show k.an (h u b)
 .show m.le u b v (a.imp (Ü _) id)
theorem Mh.bk (k:Wk B) (d:Sd B L1) (f:Sd B L2) (m:Mh B L1 L2 (A1++[x]) A2 (B1++K) B2 o) (h:∀y∈K,B y x=false):Mh B L1 L2 (A1++[x]) A2 B1 (K++B2) (K++o):=by
 let#[_,c,e]:=à.mp (Sd.lf (m.e2▸f):Sd B (B1++K));let#[_,_,g]:=à.mp (Sd.lf (m.e1▸d):Sd B (A1++[x]));show#[m.e1,by rw[m.e2,Þ],?_,à.mpr #[c,m.sd,λu b v a=>m.le v a u (.inr (Ï _ b))],λu b v a=>?_];.show (m.pm.append_left K).trans ?_;rw[<-Þ,<-Þ];show(Į (l₁:=K)).append_right B2
 rcases Â.mp b with b|b
 .rcases a with a|a
  .rcases Â.mp a with a|a;.show k.tr (g v a x (Zp.mpr rfl)) (h u b)
   .rw [Zp.mp a];show h u b
  .show e v a u b
 .show m.le u b v (a.imp id (Ü _))
theorem Mh.a1 (k:Wk B) (b:Sd B L1) (a:Sd B L2) (m:Mh B L1 L2 (A1++[x]) A2 (B1++[y]) B2 o) (h:B y x=true):Mh B L1 L2 A1 (x::A2) (B1++[y]) B2 (x::o):=Mh.ak (K:=[x]) k b a m λu c=>by rw[Zp.mp c];show h
theorem Mh.b1 (k:Wk B) (b:Sd B L1) (a:Sd B L2) (m:Mh B L1 L2 (A1++[x]) A2 (B1++[y]) B2 o) (h:B y x=false):Mh B L1 L2 (A1++[x]) A2 B1 (y::B2) (y::o):=Mh.bk (K:=[y]) k b a m λu c=>by rw[Zp.mp c];show h
theorem jl {L:List Keyed} (e:L=A1++A2):L.toArray.extract 0 A1.length=A1.toArray:=by subst e;apply Ŗ.mp;simp
theorem Mh.tl (m:Mh B L1 L2 A1 A2 B1 B2 o) {T:List Keyed} (a:T.Perm (A1++B1)) (st:Sd B T):(T++o).Perm (L1++L2)/\Sd B (T++o):=by show#[((a.append m.pm).trans ?_),à.mpr #[st,m.sd,λu c v b=>m.le v b u (Â.mp (a.mem_iff.mp c))]];rw[m.e1,m.e2,Þ,Þ,<-Þ B1,<-Þ A2];show((Į (l₁:=B1)).append_right B2).append_left A1
theorem Mh.dn (a:Sd B L2) (m:Mh B L1 L2 A1 A2 B1 B2 o) (h:A1=[]):Gd B L1 L2 (L1.toArray.extract 0 A1.length++L2.toArray.extract 0 B1.length++o.reverse.toArray.reverse):=by subst h;rw[jl m.e1,jl m.e2];show#[B1++o,by simp,m.tl (by rw[ŷ]) (Sd.lf (m.e2▸a))]
theorem Mh.dn' (a:Sd B L1) (m:Mh B L1 L2 A1 A2 B1 B2 o) (h:B1=[]):Gd B L1 L2 (L1.toArray.extract 0 A1.length++L2.toArray.extract 0 B1.length++o.reverse.toArray.reverse):=by subst h;rw[jl m.e1,jl m.e2];show#[A1++o,by simp,m.tl (by rw[å]) (Sd.lf (m.e1▸a))]
theorem Mh.fb (k:Wk B) (c:Sd B L1) (b:∀y,L2.head?=!y->∀x∈L1,B y x=true) (m:Mh B L1 L2 A1 A2 B1 B2 o) (h:B1.length=1):Gd B L1 L2 (L2.toArray.extract 0 B1.length++L1.toArray.extract 0 A1.length++o.reverse.toArray.reverse):=by let#[y,rfl]:=CV h;rw[jl m.e1,jl m.e2];show#[[y]++A1++o,by simp,m.tl Į (à.mpr #[List.pairwise_singleton _ _,Sd.lf (m.e1▸c),λu d v a=>?_])];rw[Zp.mp d];show k.an (b y (by rw[m.e2];rfl) v (by rw[m.e1];show Ü _ a))
theorem eO {l:List Keyed} (h:1<=l.length):∃r x,l=r++[x]:=by
 rcases List.eq_nil_or_concat l with rfl|⟨r,x,e⟩;.cases h
 .show #[r,x,by rw[e];simp]
theorem mv {L:List Keyed} (e:L=A1++[x]++A2):L=A1++x::A2:=by rw[e];simp
end
section
variable{prog:Program} {w:World} {A:Around} {E:Value->Shared->Prop} {s:Shared} {kd:SortKind} {a0:Array Keyed} {B:Keyed->Keyed->Bool} {st:SortSt} {L1 L2:List Keyed}
inductive PH (B:Keyed->Keyed->Bool) (L1 L2:List Keyed) (n:Nat):Nat->Nat->Array Keyed->Prop|mk {A1 A2 B1 B2 o:List Keyed} (m:Mh B L1 L2 A1 A2 B1 B2 o) (h1:1<=A1.length) (h2:2<=B1.length) (h3:n+1<=A2.length+B2.length):PH B L1 L2 n A1.length B1.length o.reverse.toArray
theorem WF (o:List Keyed) (x:Keyed):o.reverse.toArray.push x=(x::o).reverse.toArray:=by simp
theorem TX (o K:List Keyed):o.reverse.toArray++K.toArray.reverse=(K++o).reverse.toArray:=by simp
theorem Dg (k:Wk B) (j:Sd B L1) (g:Sd B L2) (c:Sg z st){o:List Keyed} (m:Mh B L1 L2 (A1++[x]) A2 (B1++[y]) B2 o) (e:B y x=true) (h:1<=B1.length) (l:n+1<=A2.length+B2.length):wpS (model prog w) A E s (H3 L1.toArray L2.toArray o.reverse.toArray (A1++[x]).length (B1++[y]).length mg ac bc) (λr i=>Sg i st/\Sr (Gd B L1 L2) (PH B L1 L2) (n+1) r) z:=by
 unfold H3;have a:=m.a1 k j g e;rw[bu A1 x,ń];show Ò (bx (mv m.e1) ?_);rw[WF];by_cases d:A1.length=0;.rw [if_pos (by simpa using d)];show Ú #[c,.dn (a.dn g (Ð d))]
 .rw [if_neg (by simpa using d)];have b:n+1+1<=(x::A2).length+B2.length:=by rw[é];rfl'
  by_cases f:(decide (ac<7)&&decide (bc<7))=true;.rw [if_pos f];show Ú #[c,.go #[a,(),by rw[bu];rfl',b]]
  .rw [if_neg f];show Ú #[c,.go #[a,(),by rw[bu];rfl',b]]
theorem Dh (k:Wk B) (D:An (model prog w) A E s kd a0 B) (H:kindOf st=kd) (G:∀x∈L1,∀y∈L2,Tw a0 y x) (b:Sd B L1) (d:Sd B L2) (t:∀y,L2.head?=!y->∀x∈L1,B y x=true) (c:Sg z st){o:List Keyed} (m:Mh B L1 L2 (A1++[x]) A2 (B1++[y]) B2 o) (e:B y x=false) (f:1<=B1.length) (O:n+1<=A2.length+B2.length):wpS (model prog w) A E s (H2 L1.toArray L2.toArray o.reverse.toArray (A1++[x]).length (B1++[y]).length mg ac bc) (λr C=>Sg C st/\Sr (Gd B L1 L2) (PH B L1 L2) (n+1) r) z:=by
 have kz:kindOf z=kd:=by let#[g,rfl]:=c;show H
 unfold H2;have a:=m.b1 k b d e;rw[bu B1 y,ń];show Ò (bx (mv m.e2) ?_);rw[WF];by_cases h:B1.length=1;.rw [if_pos (by simpa using h)];show Ú #[c,.dn (a.fb k b t h)]
 rw[if_neg (by simpa using h)];rw[show(A1++[x]).length-1=A1.length by rw[bu,ń]];show Ò (bx (mv m.e1) ?_);have v:Sd B B1:=Sd.lf (a.e2▸d);have I:x∈L1:=by rw[m.e1];simp
 show Ò (CQ k D kz (A1:=[]) (A2:=B1) (A3:=y::B2) a.e2 v (λu M=>G x I u (by rw[a.e2];show Ü _ M)) () λK R N p J=>?_);dsimp only;subst N;rw[show(K++R).length-K.length=R.length by simp];by_cases q:R.length>0
 .have l:=a.bk k b d J;rw[if_pos q,show(K++R).length=K.length+R.length by simp,jk (A2:=y::B2) (by rw[a.e2];simp),TX (y::o) R];by_cases i:K.length=1;.rw [if_pos (by simpa using i)];show Ú #[c,.dn (l.fb k b t i)]
  rw[if_neg (by simpa using i)];by_cases j:K.length=0;.rw [if_pos (by simpa using j)];show Ú #[c,.dn (l.dn' b (Ð j))]
  rw[if_neg (by simpa using j)];let#[L,F,rfl]:=eO (đ j);show Dg k b d c l (p _ (by simp)) (by rw[bu]at i;rfl') (by simp only[À,é];rfl')
 .rw [if_neg q];obtain rfl:R=[]:=Ð ();rw[å]at h a f⊢;let#[L,F,rfl]:=eO f;show Dg k b d c a (p _ (by simp)) (by rw[bu]at h;rfl') (by simp only[À,é];rfl')
theorem Od (k:Wk B) (h:An (model prog w) A E s kd a0 B) (j:kindOf st=kd) (i:∀x∈L1,∀y∈L2,Tw a0 y x) (f:Sd B L1) (d:Sd B L2) (q:∀y,L2.head?=!y->∀x∈L1,B y x=true) (b:Sg z st){o:List Keyed} (m:Mh B L1 L2 A1 A2 B1 B2 o) (a:1<=A1.length) (c:2<=B1.length) (G:n+1<=A2.length+B2.length):wpS (model prog w) A E s (H1 L1.toArray L2.toArray o.reverse.toArray A1.length B1.length mg ac bc) (λr v=>Sg v st/\Sr (Gd B L1 L2) (PH B L1 L2) (n+1) r) z:=by
 let#[g,rfl]:=b;unfold H1;show Ò (qJ ?_);let#[B1,y,rfl]:=eO (ć c);have H:y∈L2:=by rw[m.e2];simp
 have b:Sg (SortSt.mk' (kindOf st) (arrOf st) (pendingOf st) mg (failedOf st)) st:=#[_,rfl];have kz:kindOf (SortSt.mk' (kindOf st) (arrOf st) (pendingOf st) mg (failedOf st))=kd:=j;rw[show(B1++[y]).length-1=B1.length by rw[bu,ń]];show Ò (bx (mv m.e2) ?_);have C:Sd B A1:=Sd.lf (m.e1▸f);show Ò (CP k h kz (A1:=[]) (A2:=A1) (A3:=A2) m.e1 C (λu I=>i u (by rw[m.e1];show Ü _ I) y H) () λK R J l D=>?_);dsimp only;subst J;rw[bu]at c;rw[show(K++R).length-K.length=R.length by simp];by_cases p:R.length>0
 .have t:=m.ak k f d D;rw[if_pos p,show(K++R).length=K.length+R.length by simp,jk (A2:=A2) (by rw[m.e1];simp),TX o R];by_cases e:K.length=0;.rw [if_pos (by simpa using e)];show Ú #[b,.dn (t.dn d (Ð e))]
  rw[if_neg (by simpa using e)];let#[F,x,rfl]:=eO (đ e);show Dh k h j i f d q b t (l _ (by simp)) () (by simp only[À];rfl')
 .rw [if_neg p];obtain rfl:R=[]:=Ð ();rw[å]at a m⊢;let#[F,x,rfl]:=eO a;show Dh k h j i f d q b m (l _ (by simp)) () G
theorem Oe (k:Wk B) (j:An (model prog w) A E s kd a0 B) (u:kindOf st=kd) (l:∀x∈L1,∀y∈L2,Tw a0 y x) (h:Sd B L1) (d:Sd B L2) (v:∀y,L2.head?=!y->∀x∈L1,B y x=true) (q:Sg z st){o:List Keyed} (m:Mh B L1 L2 (A1++[x]) A2 (B1++[y]) B2 o) (f:1<=B1.length) (D:n+1<=A2.length+B2.length):wpS (model prog w) A E s (E1 L1.toArray L2.toArray mg (A1++[x]).length (B1++[y]).length o.reverse.toArray ac bc) (λr i=>i=z/\Sr (Gd B L1 L2) (PH B L1 L2) (n+1) r) z:=by
 have kz:kindOf z=kd:=by let#[g,rfl]:=q;show u
 unfold E1;have t:(B1++[y]).length-1=B1.length:=by rw[bu,ń]
 have C:(A1++[x]).length-1=A1.length:=by rw[bu,ń]
 rw[t,C];show Ò (bx (mv m.e2) (Ò (bx (mv m.e1) (Ò (j _ _ _ _ kz (l x (by rw[m.e1];simp) y (by rw[m.e2];simp)) ?_)))));dsimp only;cases e:B y x with
 |true=>
  rw[if_pos rfl];show Ò (bx (mv m.e1) ?_);have c:=m.a1 k h d e;rw[WF];by_cases a:A1.length=0;.rw [if_pos (by simpa using a)];show Ú #[rfl,.dn (c.dn d (Ð a))]
  .rw [if_neg (by simpa using a)];have p:PH B L1 L2 (n+1) _ _ _:=#[c,đ a,by rw[bu];show Ŕ f,by rw[é];rfl'];by_cases b:ac+1>=mg;.rw [if_pos b];show Ú #[rfl,.go p]
   .rw [if_neg b];show Ú #[rfl,.go p]|false=>
  rw[if_neg Ê];show Ò (bx (mv m.e2) ?_);have c:=m.b1 k h d e;rw[WF];by_cases a:B1.length=1
  .rw [if_pos (by simpa using a)];show Ú #[rfl,.dn (c.fb k h v a)]
  .rw [if_neg (by simpa using a)];have p:PH B L1 L2 (n+1) _ _ _:=#[c,by rw[bu];show Nat.succ_pos _,(),by rw[é];rfl'];by_cases b:bc+1>=mg;.rw [if_pos b];show Ú #[rfl,.go p]
   .rw [if_neg b];show Ú #[rfl,.go p]
theorem TY (k:Wk B) (b:An (model prog w) A E s kd a0 B) (i:kindOf st=kd) (d:∀x∈L1,∀y∈L2,Tw a0 y x) (e:Sd B L1) (j:Sd B L2) (c:∀y,L2.head?=!y->∀x∈L1,B y x=true):Gn prog w A E s st (Gd B L1 L2) (PH B L1 L2) (L1.toArray.size+L2.length) (E1 L1.toArray L2.toArray) (λp q o mg ac bc=>H1 L1.toArray L2.toArray o p q mg ac bc)where
 mo:=λh p=>by cases p with|mk m h1 h2 h3=>show⟨m,h1,h2,Û (Ŕ h) h3⟩
 lt:=λp=>by cases p with
  |mk m h1 h2 h3=>have l:=ß List.length m.e1;have n:=ß List.length m.e2;rw[À]at l n;rw[Î];rfl'
 f:=λa p=>by cases p with|mk m h1 h2 h3=>let#[A1,r,rfl]:=eO h1;let#[B1,t,rfl]:=eO (ć h2);show Oe k b i d e j c a m (by rw[bu]at h2;rfl') h3
 g:=λa p=>by cases p with|mk m h1 h2 h3=>show Od k b i d e j c a m h1 h2 h3
theorem Jj (k:Wk B) (p:An (model prog w) A E s kd a0 B) (u:kindOf st=kd) (t:∀x∈L1,∀y∈L2,Tw a0 y x) (j:Sd B L1) (f:Sd B L2) (v:1<=L1.length) (C:1<=L2.length)(m:∀y,L2.head?=!y->∀x∈L1,B y x=true) (n:∀x,L1.getLast?=!x->∀y∈L2,B y x=true)(q:∀r z,Gd B L1 L2 r->Sg z st->Q r z):wpS (model prog w) A E s (O5 L1.toArray L2.toArray) Q st:=by
 rw[Oc];show Ò (wpS_lift (ė #[rfl,?_]));let#[a,c,rfl]:=eO v;let#[b,d,rfl]:=eO C;have e:Mh B (a++[c]) (b++[d]) a [c] (b++[d]) [] [c]:=Mh.a1 (A2:=[]) (B2:=[]) (o:=[]) k j f #[by simp,by simp,.refl _,.nil,λ_ h=>by cases h] (n c (ni rfl) d (by simp))
 have sz:(a++[c]).toArray.size-1=a.length:=by simp
 have g:(b++[d]).toArray.size=(b++[d]).length:=by simp
 rw[sz,g];generalize a++[c]=L1 at*;generalize b++[d]=L2 at*;show Ò (bx e.e1 ?_);by_cases l:a.length=0;.rw [if_pos (by simpa using l)];show Ú (q _ _ (e.dn f (Ð l)) (Sg.refl _))
 rw[if_neg (by simpa using l)];by_cases i:L2.length=1;.rw [if_pos (by simpa using i)];show Ú (q _ _ (e.fb k j m i) (Sg.refl _))
 rw[if_neg (by simpa using i)];show Ò (δ ?_);show yp (TY k p u t j f m) (PH.mk (o:=[c]) e () () (Ã _)) q
end
theorem Og (i:Nat):mergeAt' i=(do
 let s<-get
 let(!(sa,na,pw),!(sb,nb,_)):=((pendingOf s)[i]?,(pendingOf s)[i+1]?)|unsupported "internal:list.sort.pending"
 set (SortSt.mk' (kindOf s) (arrOf s) (((pendingOf s).setIfInBounds i (sa,na+nb,pw)).eraseIdxIfInBounds (i+1)) (gallopOf s) (failedOf s))
 let some k<-qI false (<-elem' (arrOf s) sb) (arrOf s) sa na 0 |return false
 let(sa,na):=(sa+k,na-k)
 if na==0 then return true
 let some nb<-qI true (<-elem' (arrOf s) (sa+na-1)) (arrOf s) sb nb (nb-1)|return false
 if nb==0 then return true
 let x:=(arrOf s).extract sa sb
 let y:=(arrOf s).extract sb (sb+nb)
 let mm<- if na<=nb then O4 x y else O5 x y
 modify λs=>setArr s (mm.toList.zipIdx.foldl (λa (p,j)=>a.setIfInBounds (sa+j) p) (arrOf s))
 return(failedOf (<-get)).isNone):=rfl
theorem wb (b:Nat) (S:List Keyed):∀(l M P:List Keyed) (j:Nat),M.length=l.length->b+j=P.length->((l.zipIdx j).foldl (λ(a:Array Keyed) (p:Keyed×Nat)=>a.setIfInBounds (b+p.2) p.1) (P++(M++S)).toArray)=(P++(l++S)).toArray
 |[],M,P,j,h1,_=>by obtain rfl:M=[]:=Ð h1;rfl|x::l,M,P,j,h1,h2=>by
  let#[m,M,rfl]:=ç (Nat.lt_of_lt_of_eq (Nat.succ_pos _) h1.symm);rw[Ψ,List.foldl_cons];have e:(P++(m::M++S)).toArray.setIfInBounds (b+j) x=((P++[x])++(M++S)).toArray:=by apply Ŗ.mp;rw[Array.toList_setIfInBounds,h2];simp
  dsimp only;rw[e,wb b S l M (P++[x]) (j+1) (by simpa using h1) (by simp;rfl')];simp
theorem Di {P L2:List Keyed} (h:(P++(L1++(L2++S))).Perm a0.toList) (i:x∈L1) (e:y∈L2):Tw a0 y x:=by
 let#[a,b,rfl]:=List.append_of_mem i;let#[c,d,rfl]:=List.append_of_mem e;show#[P++a++b++c++d++S,List.Perm.trans ?_ h];have f:(P++(a++x::b++(c++y::d++S))).Perm (x::(P++a++(b++(c++y::d++S)))):=by rw[show P++(a++x::b++(c++y::d++S))=(P++a)++x::(b++(c++y::d++S))by simp];show ů
 have g:(P++a++(b++(c++y::d++S))).Perm (y::(P++a++b++c++d++S)):=by rw[show P++a++(b++(c++y::d++S))=(P++a++b++c)++y::(d++S)by simp,show P++a++b++c++d++S=(P++a++b++c)++(d++S)by simp];show ů
 show((List.Perm.swap x y _).trans (g.symm.cons x)).trans f.symm
section
variable{prog:Program} {w:World} {A:Around} {E:Value->Shared->Prop} {s:Shared} {kd:SortKind} {a0:Array Keyed} {B:Keyed->Keyed->Bool} {st:SortSt}
theorem Jk (k:Wk B) (Y:An (model prog w) A E s kd a0 B) (Z:kindOf st=kd) (T:failedOf st=none) {h n:List (Nat×Nat×Nat)} {P L2:List Keyed} {F I:Nat} {Q:Bool->SortSt->Prop}(hp:(pendingOf st).toList=h++(P.length,L1.length,F)::(P.length+L1.length,L2.length,I)::n) (hx:arrOf st=(P++(L1++(L2++S))).toArray) (pm:(arrOf st).Perm a0) (o:Sd B L1) (t:Sd B L2) (n1:1<=L1.length) (n2:1<=L2.length)(q:∀z L,kindOf z=kd->failedOf z=none->(pendingOf z).toList=h++(P.length,L1.length+L2.length,F)::n->L.Perm (L1++L2)->Sd B L->arrOf z=(P++(L++S)).toArray->Q true z):wpS (model prog w) A E s (mergeAt' h.length) Q st:=by
 rw[Og];show Ò (δ ?_);have p1:(pendingOf st)[h.length]?=!(P.length,L1.length,F):=by rw[<-î,hp];simp
 have p2:(pendingOf st)[h.length+1]?=!(P.length+L1.length,L2.length,I):=by rw[<-î,hp,ú (ċ _ _),ĵ];rfl
 rw[p1,p2];dsimp only;have W:(((pendingOf st).setIfInBounds h.length (P.length,L1.length+L2.length,F)).eraseIdxIfInBounds (h.length+1)).toList=h++(P.length,L1.length+L2.length,F)::n:=by rw[Array.toList_eraseIdxIfInBounds,Array.toList_setIfInBounds,hp,List.set_append_right _ _ (Ã _),Nat.sub_self,List.eraseIdx_append_of_length_le (ċ _ _),ĵ];rfl
 generalize((pendingOf st).setIfInBounds h.length (P.length,L1.length+L2.length,F)).eraseIdxIfInBounds (h.length+1)=p' at W⊢;have D:(P++(L1++(L2++S))).Perm a0.toList:=by have:=Ĥ.mp pm;rwa[hx]at this
 rw[hx];show Ò (m:=set _) (wpS_modify (f:=λ_=>SortSt.mk' (kindOf st) (P++(L1++(L2++S))).toArray p' (gallopOf st) (failedOf st)) ?_);let#[y,i,rfl]:=ç n2;rw[<-À];show Ò (bx (A1:=P++L1) (x:=y) (A2:=i++S) (by simp) ?_);have kz:kindOf (SortSt.mk' (kindOf st) (P++(L1++(y::i++S))).toArray p' (gallopOf st) (failedOf st))=kd:=Z;show Ò (CP k Y kz (A1:=P) (A2:=L1) (A3:=y::i++S) rfl o (λu c=>Di D c Ì) () λK R eK hK hR=>?_);dsimp only;subst eK;have M:∀v∈y::i,B v y=false:=λv e=>by
  rcases Å.mp e with rfl|e;.show k.rf _
  .show Ű t e
 rw[show(K++R).length-K.length=R.length by simp];by_cases X:R.length=0;.rw [if_pos (by simpa using X)];obtain rfl:R=[]:=Ð X;show Ú (q _ (K++[]++y::i) Z T W (.refl _) (à.mpr #[o,t,λu c v e=>k.tr (hK u (by simpa using c)) (M v e)]) (by simp))
 rw[if_neg (by simpa using X)];let#[d,x,rfl]:=eO (đ X);rw[show P.length+K.length+(d++[x]).length-1=(P++K++d).length by simp;rfl'];show Ò (bx (A1:=P++K++d) (x:=x) (A2:=y::i++S) (by simp) ?_);have ae:x∈K++(d++[x]):=by simp
 show Ò (CQ k Y kz (A1:=P++(K++(d++[x]))) (A2:=y::i) (A3:=S) (by simp) t (λu c=>Di D ae c) (by simp) λK2 R2 C af O=>?_);dsimp only;have J:∀u∈d++[x],B x u=false:=λu c=>by
  rcases Â.mp c with c|c;.show (à.mp (Sd.rt o:Sd B (d++[x]))).2.2 u c x (by simp)
  .rw [Zp.mp c];show k.rf _
 have ad:∀u∈K++(d++[x]),B x u=false:=λu c=>by
  rcases Â.mp c with c|c;.show (à.mp o).2.2 u c x (by simp)
  .show J u c
 by_cases U:K2.length=0;.rw [if_pos (by simpa using U)];obtain rfl:K2=[]:=Ð U;show Ú (q _ (K++(d++[x])++y::i) Z T W (.refl _) (à.mpr #[o,t,λu c v e=>k.tr (ad u c) (O v (by rw[C]at e;simpa using e))]) (by simp))
 rw[if_neg (by simpa using U)];let#[y',b,rfl]:=ç (đ U);obtain rfl:y=y':=(List.cons.inj C).1;obtain rfl:i=b++R2:=(List.cons.inj C).2;have x1:(P++(K++(d++[x])++(y::(b++R2)++S))).toArray.extract (P.length+K.length) (P++(K++(d++[x]))).length=(d++[x]).toArray:=by have:=jk (L:=P++(K++(d++[x])++(y::(b++R2)++S))) (A1:=P++K) (K:=d++[x]) (A2:=y::(b++R2)++S) (by simp);rw[<-this];congr 1<;>simp<;>rfl'
 have x2:(P++(K++(d++[x])++(y::(b++R2)++S))).toArray.extract (P++(K++(d++[x]))).length ((P++(K++(d++[x]))).length+(y::b).length)=(y::b).toArray:=jk (A1:=P++(K++(d++[x]))) (K:=y::b) (A2:=R2++S) (by simp);rw[x1,x2];have sR:Sd B (d++[x]):=Sd.rt o;have sK:Sd B (y::b):=Sd.lf (A2:=R2) t;have fin:∀r z,Gd B (d++[x]) (y::b) r->Sg z (SortSt.mk' (kindOf st) (P++(K++(d++[x])++(y::(b++R2)++S))).toArray p' (gallopOf st) (failedOf st))->wpS (model prog w) A E s (do modify λs=>setArr s (r.toList.zipIdx.foldl (λa (p,j)=>a.setIfInBounds (P.length+K.length+j) p) (arrOf s));return(failedOf (<-get)).isNone) Q z:=by
  intro r z ⟨l,er,lp,ls⟩ ⟨g,ez⟩;subst er;subst ez;show Ò (wpS_modify (Ò (δ (Ú ?_))));have hw:=wb (P.length+K.length) (R2++S) l (d++[x]++y::b) (P++K) 0 (by rw[lp.length_eq]) (by simp);have e9:(P++(K++(d++[x])++(y::(b++R2)++S))).toArray=((P++K)++(d++[x]++y::b++(R2++S))).toArray:=by simp
  have key:=q (SortSt.mk' (kindOf st) ((P++K)++(l++(R2++S))).toArray p' g (failedOf st)) (K++l++R2) Z T W ?_ ?_ (by simp);.rw [show(failedOf (setArr (SortSt.mk' (kindOf st) (P++(K++(d++[x])++(y::(b++R2)++S))).toArray p' g (failedOf st)) _)).isNone=true from ß Option.isNone T];rw[<-hw,<-e9]at key;show key
  .have:(K++l++R2).Perm (K++(d++[x]++y::b)++R2):=(lp.append_left K).append_right R2;simpa using this
  .have G:∀v∈l,v∈d++[x]\/v∈y::b:=λv e=>Â.mp (lp.mem_iff.mp e);have N:∀u∈K,∀v∈y::(b++R2),B v u=false:=λu c v e=>k.tr (hK u c) (M v e);show à.mpr #[List.pairwise_append.mpr #[Sd.lf o,ls,λu c v e=>?_],Sd.rt (A1:=y::b) t,λu c v e=>?_]
   .rcases G v e with e|e;.show (à.mp o).2.2 u c v e
    .show N u c v (Ü R2 e)
   .rcases Â.mp c with c|c;.show N u c v (Ï (y::b) e)
    .rcases G u c with c|c;.show k.tr (J u c) (O v e)
     .show (à.mp (show Sd B ((y::b)++R2)from t)).2.2 u c v e
 have H:∀u∈d++[x],∀v∈y::b,Tw a0 v u:=λu c v e=>Di D (Ï K c) (Ü R2 e);have g0:∀u,(y::b).head?=!u->∀v∈d++[x],B u v=true:=λu c v e=>by cases(Ô c);show hR v e
 have g9:∀u,(d++[x]).getLast?=!u->∀v∈y::b,B v u=true:=λu c v e=>by rw[ni rfl]at c;cases(Ô c);show af v e
 by_cases z3:(d++[x]).length<=(y::b).length;.rw [if_pos z3];show Ò (Ji k Y kz H sR sK (by simp) (by simp) g0 g9 fin)
 .rw [if_neg z3];show Ò (Jj k Y kz H sR sK (by simp) (by simp) g0 g9 fin)
end
end Sm
namespace Sm
open PySem PyProof.Rows
open Sx (Wk gt)
variable{S:List Keyed} {d i j src:Nat} {x0:Array Keyed} {pe:Array (Nat×Nat×Nat)} {Q:ForInStep (Option Unit×Nat)->SortSt->Prop}
noncomputable def gl (xs:Array Keyed) (lo i:Nat):Keyed:=gt xs (lo+i)
def Up (B:Keyed->Keyed->Bool) (xs:Array Keyed) (lo k:Nat):Prop:=∀i j,i<=j->j<k->B (gl xs lo j) (gl xs lo i)=false
def Dn (B:Keyed->Keyed->Bool) (xs:Array Keyed) (lo k:Nat):Prop:=∀i j,i<=j->j<k->B (gl xs lo i) (gl xs lo j)=false
def Eb (B:Keyed->Keyed->Bool) (xs:Array Keyed) (lo l k:Nat):Prop:=∀i j,l<=i->i<k->l<=j->j<k->B (gl xs lo i) (gl xs lo j)=false
structure Bl (kd:SortKind) (a0 x0:Array Keyed) (lo:Nat) (pe:Array (Nat×Nat×Nat)) (st:SortSt):Prop where
 pm:(arrOf st).Perm a0
 kn:kindOf st=kd
 fl:failedOf st=none
 pe:pendingOf st=pe
 pf:∀i,i<lo->(arrOf st)[i]?=x0[i]?
section
variable{kd:SortKind} {a0 x0 xs:Array Keyed} {lo:Nat} {pe:Array (Nat×Nat×Nat)} {st:SortSt} {B:Keyed->Keyed->Bool} {k l m:Nat}
theorem Bl.sz (b:Bl kd a0 x0 lo pe st):(arrOf st).size=a0.size:=b.pm.size_eq
theorem Bl.mir (b:Bl kd a0 x0 lo pe st) (a:lo+m<=a0.size):Bl kd a0 x0 lo pe (setArr st (mirror (arrOf st) (lo+l) (lo+m) ((lo+m-(lo+l))/2))):=⟨(mirror_perm _ _ _ _).trans b.pm,b.kn,b.fl,b.pe,λi hi=>by change(mirror (arrOf st) _ _ _)[i]?=_;rw[getElem?_mirror_all (by rw[b.sz];show a),if_neg ()];show b.pf i hi⟩
theorem Bl.bub (b:Bl kd a0 x0 lo pe st) (a:lo+src<a0.size) (c:d<=src):Bl kd a0 x0 lo pe (setArr st (bubble (arrOf st) (lo+src) d)):=⟨(bubble_perm _ _ _).trans b.pm,b.kn,b.fl,b.pe,λi hi=>by change(bubble (arrOf st) _ _)[i]?=_;rw[getElem?_bubble (by rw[b.sz];show a) d (),if_neg (),if_neg ()];show b.pf i hi⟩
theorem Dk (c:lo+src<xs.size) (e:d<=src):gl (bubble xs (lo+src) d) lo k=if k=src-d then gl xs lo src else if src-d<k/\k<=src then gl xs lo (k-1)else gl xs lo k:=by
 unfold gl;rw[Sx.NP c ()];by_cases a:k=src-d;.rw [if_pos a,if_pos ()]
 .rw [if_neg a,if_neg ()];by_cases b:src-d<k/\k<=src;.rw [if_pos b,if_pos (),show lo+k-1=lo+(k-1)by rfl']
  .rw [if_neg b,if_neg ()]
theorem j6 (b:lo+m<=xs.size):gl (mirror xs (lo+l) (lo+m) ((lo+m-(lo+l))/2)) lo k=if l<=k/\k<m then gl xs lo (l+m-1-k)else gl xs lo k:=by
 unfold gl;rw[Sx.NQ b];by_cases a:l<=k/\k<m;.rw [if_pos a,if_pos (),show lo+l+(lo+m)-1-(lo+k)=lo+(l+m-1-k)by rfl']
 .rw [if_neg a,if_neg ()]
theorem Up.one (o:Wk B):Up B xs lo 1:=λi j a b=>by
 have:i=j:=();rw[this];show o.rf _
theorem Up.next (o:Wk B) (u:Up B xs lo k) (c:1<=k) (e:B (gl xs lo k) (gl xs lo (k-1))=false):Up B xs lo (k+1):=λi j b d=>by
 by_cases a:j<k;.show u i j b a
 .obtain rfl:j=k:=();by_cases hi:i=j
  .rw [hi];show o.rf _
  .show o.tr (u i (j-1) () ()) e
theorem Dn.next (o:Wk B) (u:Dn B xs lo k) (c:1<=k) (e:B (gl xs lo (k-1)) (gl xs lo k)=false):Dn B xs lo (k+1):=λi j b d=>by
 by_cases a:j<k;.show u i j b a
 .obtain rfl:j=k:=();by_cases hi:i=j;.rw [hi];show o.rf _
  .show o.tr e (u i (j-1) () ())
theorem Eb.one (o:Wk B):Eb B xs lo (k-1) k:=λi j b c d a=>by
 have:i=j:=();rw[this];show o.rf _
theorem Eb.next (o:Wk B) (u:Eb B xs lo l k) (g:l<k) (d:B (gl xs lo k) (gl xs lo (k-1))=false) (e:B (gl xs lo (k-1)) (gl xs lo k)=false):Eb B xs lo l (k+1):=λi j b f c h=>by
 by_cases hi:i<k
 .by_cases a:j<k;.show u i j b hi c a
  .obtain rfl:j=k:=()
   show o.tr e (u i (j-1) b hi () ())
 .obtain rfl:i=k:=();by_cases a:j<i;.show o.tr (u (i-1) j () () c a) d
  .obtain rfl:j=i:=();show o.rf _
theorem Dn.mir (u:Dn B xs lo m) (q:Eb B xs lo l m) (b:lo+m<=xs.size):Dn B (mirror xs (lo+l) (lo+m) ((lo+m-(lo+l))/2)) lo m:=λi j d e=>by
 rw[j6 b,j6 b];by_cases a:l<=i/\i<m;.rw [if_pos a,if_pos ()];show q _ _ () () () ()
 .rw [if_neg a];by_cases c:l<=j/\j<m;.rw [if_pos c];show u _ _ () ()
  .rw [if_neg c];show u i j d e
theorem Dn.up (u:Dn B xs lo m) (a:lo+m<=xs.size):Up B (mirror xs (lo+0) (lo+m) ((lo+m-(lo+0))/2)) lo m:=λi j b c=>by rw[j6 a,j6 a,if_pos (),if_pos ()];show u _ _ () ()
end
noncomputable def zN (lo a n:Nat):StateT SortSt Sem AscSt:=forIn [a:n] ((none,a):AscSt) λ_ c=>do
  let x<-ltAt' (lo+c.2) (lo+c.2-1)
  match x with
  |some sm=>if sm=true then pure (.done (none,c.2))else pure (.yield (none,c.2+1))|_=>pure (.done (!none,c.2))
noncomputable def nj (lo n r:Nat):StateT SortSt Sem (Option Nat):=do
 reverseSlice' lo (lo+n)
 let c<-zN lo n r
 match c.1 with
 |some r=>pure r|none=>pure !c.2
noncomputable def yr (lo n r:Nat):StateT SortSt Sem DescSt:=forIn [n:r] ((none,n,0):DescSt) λ_ c=>do
  let x<-ltAt' (lo+c.2.1) (lo+c.2.1-1)
  match x with
  |some sm=>
   if sm=true then if c.2.2>0 then do
     reverseSlice' (lo+c.2.1-(c.2.2+1)) (lo+c.2.1)
     pure (.yield (none,c.2.1+1,0))else pure (.yield (none,c.2.1+1,0))else do
    let x<-ltAt' (lo+c.2.1-1) (lo+c.2.1)
    match x with
    |some lg=>
     if lg=true then pure (.done (none,c.2.1,c.2.2))else pure (.yield (none,c.2.1+1,c.2.2+1))
    |_=>pure (.done (!none,c.2.1,c.2.2))
  |_=>pure (.done (!none,c.2.1,c.2.2))
noncomputable def tM (lo n r:Nat):StateT SortSt Sem (Option Nat):=do
 liftM (rule "list.sort.descending-run")
 let c<-yr lo (n+1) r
 match c.1 with
 |some r=>pure r|none=>
  if c.2.2>0 then do
   reverseSlice' (lo+c.2.1-(c.2.2+1)) (lo+c.2.1)nj lo c.2.1 r else nj lo c.2.1 r
theorem Jl (lo r:Nat):countRun' lo r=(do
  let c<-zN lo 1 r
  match c.1 with
  |some r=>pure r|none=>
   if(c.2==r)=true then pure !c.2 else if c.2>1 then do
    let x<-ltAt' lo (lo+c.2-1)
    match x with
    |some rs=>if rs=true then pure !c.2 else do
      reverseSlice' lo (lo+c.2)tM lo c.2 r|_=>pure none else tM lo c.2 r):=by
 have a:∀{k p:Type} (m:StateT SortSt Sem k) (f g:k->StateT SortSt Sem p),(∀x,f x=g x)->(m>>=f)=(m>>=g):=λm f g h=>by rw[funext h]
 rw[countRun'_eq];show a (zN lo 1 r) _ _ λc=>?_;obtain⟨l,n⟩:=c;have tl:∀(n:Nat) (f:AscSt->StateT SortSt Sem (Option Nat)),(∀c,f c=match c.1 with|some r=>pure r|none=>pure !c.2)->(do reverseSlice' lo (lo+n);let c<-zN lo n r;f c)=nj lo n r:=λn f j=>a _ _ _ λ_=>a _ _ _ j;have pl:∀(n:Nat) (f:DescSt->StateT SortSt Sem (Option Nat)),(∀c,f c=match c.1 with|some r=>pure r|none=>if c.2.2>0 then(do reverseSlice' (lo+c.2.1-(c.2.2+1)) (lo+c.2.1);nj lo c.2.1 r)else nj lo c.2.1 r)->(do liftM (rule "list.sort.descending-run");let c<-yr lo (n+1) r;f c)=tM lo n r:=λn f j=>a _ _ _ λ_=>a _ _ _ j;cases l with|some l=>rfl|none=>
  dsimp only;split;.rfl
  .split;.show a _ _ _ λx=>?_;cases x with
    |none=>rfl|some rs=>
     dsimp only;split;.rfl
     .show a _ _ _ λ_=>pl n _ λc=>?_;let#[d,e,o]:=c
      cases d with
      |some d=>rfl|none=>
       dsimp only;split
       .show a _ _ _ λ_=>tl e _ λc=>by let#[b,i]:=c;cases b<;>rfl
       .show tl e _ λc=>by let#[b,i]:=c;cases b<;>rfl
   .show pl n _ λc=>?_;let#[d,e,o]:=c;cases d with
    |some d=>rfl|none=>
     dsimp only;split;.show a _ _ _ λ_=>tl e _ λc=>by let#[b,i]:=c;cases b<;>rfl
     .show tl e _ λc=>by let#[b,i]:=c;cases b<;>rfl
section
variable{prog:Program} {w:World} {A:Around} {E:Value->Shared->Prop} {s:Shared} {kd:SortKind} {a0 x0:Array Keyed} {lo:Nat} {pe:Array (Nat×Nat×Nat)} {B:Keyed->Keyed->Bool} {st:SortSt} {n k:Nat}
theorem Oh {l:List Keyed} (hi:i<l.length) (d:j<l.length) (h:i≠j):∃r,(l[i]::l[j]::r).Perm l:=by
 have c:(l[i]::l.eraseIdx i).Perm l:=by rw[List.eraseIdx_eq_take_drop_succ];show ů.symm.trans (List.Perm.of_eq ?_);rw[<-Ć hi,ā]
 have f:l[j]∈l.eraseIdx i:=List.mem_eraseIdx_iff_getElem.mpr #[j,d,λe=>h e.symm,rfl];let#[a,b,e]:=List.append_of_mem f;rw[e]at c;show#[a++b,(List.perm_middle.symm.cons _).trans c]
theorem nu (o:An (model prog w) A E s kd a0 B) (b:Bl kd a0 x0 lo pe st) {e d:Nat} {Q:Option Bool->SortSt->Prop} (g:e=lo+i) (n:d=lo+j) (h:i≠j) (hi:lo+i<a0.size) (k:lo+j<a0.size)(q:Q (!(B (gl (arrOf st) lo i) (gl (arrOf st) lo j))) st):wpS (model prog w) A E s (ltAt' e d) Q st:=by
 subst g;subst n;have c:lo+i<(arrOf st).size:=by rw[b.sz];show hi
 have a:lo+j<(arrOf st).size:=by rw[b.sz];show k
 have f:gl (arrOf st) lo i=(arrOf st)[lo+i]:=by unfold gl gt;rw[getElem?_pos (arrOf st) (lo+i) c];rfl
 have p:gl (arrOf st) lo j=(arrOf st)[lo+j]:=by unfold gl gt;rw[getElem?_pos (arrOf st) (lo+j) a];rfl
 rw[f,p]at q;rw[ltAt'_eq];show Ò (δ ?_);change wpS _ _ _ _ (do let x<-elem' (arrOf st) (lo+i);let y<-elem' (arrOf st) (lo+j);lt' x y) Q st;rw[elem'_eq,elem'_eq,getElem?_pos (arrOf st) (lo+i) c,getElem?_pos (arrOf st) (lo+j) a];show Ò (Ú (Ò (Ú (o _ _ _ _ b.kn ?_ q))));obtain⟨r,m⟩:=Oh (l:=(arrOf st).toList) (i:=lo+i) (j:=lo+j) (by simpa using c) (by simpa using a) ();show#[r,by simpa using m.trans (Ĥ.mp b.pm)]
theorem tO (o:Wk B) (f:An (model prog w) A E s kd a0 B) {Q:AscSt->SortSt->Prop} (p:lo+n<=a0.size) (l:1<=k) (d:k<=n) (b:Bl kd a0 x0 lo pe st) (u:Up B (arrOf st) lo k)(h:∀m,k<=m->m<=n->Up B (arrOf st) lo m->(m=n\/B (gl (arrOf st) lo m) (gl (arrOf st) lo (m-1))=true)->Q (none,m) st):wpS (model prog w) A E s (zN lo k n) Q st:=by
 unfold zN;show ĝ (I:=λm c t=>c=(none,m)/\t=st/\Up B (arrOf st) lo m) (λm c t g q hi=>?_) (λc t hi=>?_) #[rfl,rfl,u]
 .obtain ⟨rfl,rfl,a⟩:=hi;show Ò (nu f b (i:=m) (j:=m-1) rfl (by dsimp only;rfl') () () () ?_);dsimp only;cases e:B (gl (arrOf t) lo m) (gl (arrOf t) lo (m-1))with
  |true=>rw[if_pos rfl];show Ú (h m g () a (.inr e))|false=>rw[if_neg Ê];show Ú #[rfl,rfl,a.next o () e]
 .obtain ⟨rfl,rfl,a⟩:=hi;rw[show max k n=n from Nat.max_eq_right d]at a⊢;show h n d (Ã _) a (.inl rfl)
theorem pO (o:Wk B) (i:An (model prog w) A E s kd a0 B) {Q:Option Nat->SortSt->Prop} (g:lo+n<=a0.size) (e:1<=k) (c:k<=n) (b:Bl kd a0 x0 lo pe st) (u:Dn B (arrOf st) lo k)(h:∀m t,Bl kd a0 x0 lo pe t->1<=m->m<=n->Up B (arrOf t) lo m->Q (!m) t):wpS (model prog w) A E s (nj lo k n) Q st:=by
 unfold nj;show Ò (wpS_reverse ?_);have a:=b.mir (l:=0) (m:=k) ();have d:=u.up (by rw[b.sz];rfl');rw[Nat.add_zero]at a d;show Ò (tO o i g e c a d λm p j f _=>Ú (h m _ a () j f))
theorem zO (o:Wk B) (g:An (model prog w) A E s kd a0 B) {Q:DescSt->SortSt->Prop} (z:lo+n<=a0.size) (r:1<=k) (d:k<=n) (b:Bl kd a0 x0 lo pe st) (u:Dn B (arrOf st) lo k)(h:∀m e t,Bl kd a0 x0 lo pe t->k<=m->m<=n->Dn B (arrOf t) lo m->e+1<=m->Eb B (arrOf t) lo (m-(e+1)) m->Q (none,m,e) t):wpS (model prog w) A E s (yr lo k n) Q st:=by
 unfold yr;show ĝ (I:=λm c t=>∃e,c=(none,m,e)/\Bl kd a0 x0 lo pe t/\Dn B (arrOf t) lo m/\e+1<=m/\Eb B (arrOf t) lo (m-(e+1)) m) (λm c t x C hi=>?_) (λc t hi=>?_) #[0,rfl,b,u,r,Eb.one o]
 .obtain ⟨e,rfl,bt,a,f,q⟩:=hi;have hsz:lo+m<=(arrOf t).size:=by rw[bt.sz];rfl'
  show Ò (nu g bt (i:=m) (j:=m-1) rfl (by dsimp only;rfl') () () () ?_);dsimp only;cases e1:B (gl (arrOf t) lo m) (gl (arrOf t) lo (m-1))with
  |true=>
   rw[if_pos rfl];have dn:Dn B (arrOf t) lo (m+1):=a.next o () (o.an e1);by_cases p:e>0
   .rw [if_pos p,show lo+m-(e+1)=lo+(m-(e+1))by rfl'];show Ò (wpS_reverse (Ú #[0,rfl,bt.mir (),λi j l y=>?_,(),Eb.one o]));by_cases v:j<m;.show (a.mir q hsz) i j l v
    .obtain rfl:j=m:=();change B (gl (mirror (arrOf t) _ _ _) lo i) (gl (mirror (arrOf t) _ _ _) lo j)=false;rw[j6 hsz,j6 hsz,if_neg (show¬(_/\j<j)by rfl')];split;.show dn _ _ () ()
     .show dn _ _ l y
   .rw [if_neg p];show Ú #[0,rfl,bt,dn,(),Eb.one o]|false=>rw[if_neg Ê];show Ò (nu g bt (i:=m-1) (j:=m) () rfl () () () ?_);dsimp only;cases e2:B (gl (arrOf t) lo (m-1)) (gl (arrOf t) lo m)with
   |true=>rw[if_pos rfl];show Ú (h m e t bt x () a f q)|false=>rw[if_neg Ê];show Ú #[e+1,rfl,bt,a.next o () e2,(),?_];rw[show m+1-(e+1+1)=m-(e+1)by rfl'];show q.next o () e1 e2
 .obtain ⟨e,rfl,bt,a,f,q⟩:=hi;rw[show max k n=n from Nat.max_eq_right d]at a f q⊢;show h n e t bt d (Ã _) a f q
theorem pP (o:Wk B) (a:An (model prog w) A E s kd a0 B) {Q:Option Nat->SortSt->Prop} (d:lo+n<=a0.size) (c:k+1<=n) (b:Bl kd a0 x0 lo pe st) (u:Dn B (arrOf st) lo (k+1))(h:∀m t,Bl kd a0 x0 lo pe t->1<=m->m<=n->Up B (arrOf t) lo m->Q (!m) t):wpS (model prog w) A E s (tM lo k n) Q st:=by
 unfold tM;show Ò (wpS_lift (ė #[rfl,Ò (zO o a d () c b u λm e t bt j i g l q=>?_)]));dsimp only;have hsz:lo+m<=(arrOf t).size:=by rw[bt.sz];rfl'
 by_cases f:e>0;.rw [if_pos f,show lo+m-(e+1)=lo+(m-(e+1))by rfl'];show Ò (wpS_reverse (pO o a d () i (bt.mir ()) (g.mir q hsz) h))
 .rw [if_neg f];show pO o a d () i bt g h
theorem Dm (o:Wk B) (c:An (model prog w) A E s kd a0 B) {Q:Option Nat->SortSt->Prop} (k:lo+n<=a0.size) (x:1<=n) (b:Bl kd a0 x0 lo pe st)(h:∀m t,Bl kd a0 x0 lo pe t->1<=m->m<=n->Up B (arrOf t) lo m->Q (!m) t):wpS (model prog w) A E s (countRun' lo n) Q st:=by
 rw[Jl];show Ò (tO o c k (Ã 1) x b (Up.one o) λm r z d u=>?_);dsimp only;by_cases p:m=n;.rw [if_pos (by simpa using p)];show Ú (h m st b r z d)
 .rw [if_neg (by simpa using p)];have a:=u.resolve_left p;have hsz:lo+m<=(arrOf st).size:=by rw[b.sz];rfl'
  by_cases g:m>1;.rw [if_pos g];show Ò (nu c b (i:=0) (j:=m-1) rfl () () () () ?_);dsimp only;cases e:B (gl (arrOf st) lo 0) (gl (arrOf st) lo (m-1))with
   |true=>rw[if_pos rfl];show Ú (h m st b r z d)|false=>
    rw[if_neg Ê];have q:Eb B (arrOf st) lo 0 m:=λi j _ hi _ f=>o.tr (d j (m-1) () ()) (o.tr e (d 0 i () hi));have dn:Dn B (arrOf st) lo (m+1):=Dn.next o (λi j _ f=>q i j () () () f) r (o.an a);have C:=b.mir (l:=0) (m:=m) ();have d':Dn B (mirror (arrOf st) (lo+0) (lo+m) ((lo+m-(lo+0))/2)) lo (m+1):=λi j y v=>by
     rw[j6 hsz,j6 hsz];by_cases f:j<m;.rw [if_pos (),if_pos ()];show q _ _ () () () ()
     .rw [if_neg (show¬(0<=j/\j<m)by rfl')];split;.show dn _ _ () v
      .show dn _ _ y v
    rw[Nat.add_zero]at C d';show Ò (wpS_reverse (pP o c k () C d' h))
  .rw [if_neg g];obtain rfl:m=1:=();show pP o c k () b (Dn.next o (λi j y v=>by rw[show i=j by rfl'];show o.rf _) (Ã 1) (o.an a)) h
theorem Do (o:Wk B) (U:An (model prog w) A E s kd a0 B) {Q:Bool->SortSt->Prop} (O:lo+n<=a0.size) (D:k<=n) (b:Bl kd a0 x0 lo pe st) (u:Up B (arrOf st) lo k)(h:∀t,Bl kd a0 x0 lo pe t->Up B (arrOf t) lo n->Q true t):wpS (model prog w) A E s (binarySort' lo n k) Q st:=by
 rw[binarySort'_eq];show Ò (Ĺ (ĝ (I:=λm c t=>c=(none,Unit.unit)/\Bl kd a0 x0 lo pe t/\Up B (arrOf t) lo (min m n)) (Q:=λc t=>c=(none,Unit.unit)/\Bl kd a0 x0 lo pe t/\Up B (arrOf t) lo n) (λm c t C v hi=>?_) (λc t hi=>?_) #[rfl,b,λi j y H=>?_]) λc t G=>?_)
 .obtain ⟨rfl,bt,g⟩:=hi;rw[š (ć v)]at g;have q:lo+m<a0.size:=();show Ò (Ĺ (ĝ (I:=λx c t'=>t'=t/\∃l r,c=(none,l,r)/\l<=r/\r<=m/\r+x<=m+l/\(∀i,i<l->B (gl (arrOf t) lo m) (gl (arrOf t) lo i)=false)/\∀i,r<=i->i<m->B (gl (arrOf t) lo i) (gl (arrOf t) lo m)=false)
   (Q:=λc t'=>t'=t/\∃l r,c=(none,l,r)/\l<=m/\(∀i,i<l->B (gl (arrOf t) lo m) (gl (arrOf t) lo i)=false)/\∀i,l<=i->i<m->B (gl (arrOf t) lo i) (gl (arrOf t) lo m)=false)
   (λx c t' y H hi=>?_) (λc t' hi=>?_) #[rfl,0,m,rfl,(),(),(),λi z=>(),λi R P=>()]) λc t' G=>?_)
  .obtain ⟨rfl,l,r,rfl,J,f,L,d,a⟩:=hi;dsimp only;by_cases T:l>=r;.rw [if_pos T];obtain rfl:l=r:=();show Ú #[rfl,l,l,rfl,f,d,a]
   .rw [if_neg T];have C:l<=(l+r)/2:=by clear L d a g f C v y H q O D;rfl'
    have v:(l+r)/2<r:=by clear L d a g f C v y H q O D;rfl'
    generalize(l+r)/2=c at C v⊢;have p:=Ý v f;show Ò (nu U bt (i:=m) (j:=c) rfl rfl () q () ?_);dsimp only;cases e:B (gl (arrOf t') lo m) (gl (arrOf t') lo c)with
    |true=>simp only[Ģ];show Ú #[rfl,l,c,rfl,C,ć p,by clear C p q;rfl',d,λi R P=>o.tr (o.an e) (g _ _ R P)]
    |false=>
     simp only[â,ă];show Ú #[rfl,c+1,r,rfl,v,f,by clear p q;rfl',λi z=>o.tr (g i c (Nat.le_of_lt_succ z) p) e,a]
  .obtain ⟨rfl,l,r,rfl,J,f,L,d,a⟩:=hi;obtain rfl:l=r:=();show#[rfl,l,l,rfl,f,d,a]
  .obtain ⟨rfl,l,r,rfl,K,d,a⟩:=G;change wpS _ _ _ _ (do moveDown' (lo+m) (lo+l);pure (ForInStep.yield (none,Unit.unit))) _ _;rw[moveDown'_eq,show lo+m-(lo+l)=m-l by rfl'];show Ò (wpS_modify (Ú #[rfl,bt.bub q (),?_]));rw[show min (m+1) n=m+1 by rfl'];have hsz:lo+m<(arrOf t').size:=by rw[bt.sz];show q
   intro i j y H;change B (gl (bubble (arrOf t') (lo+m) (m-l)) lo j) (gl (bubble (arrOf t') (lo+m) (m-l)) lo i)=false;rw[Dk hsz (),Dk hsz (),Nat.sub_sub_self K];by_cases N:i=l
   .rw [if_pos N];by_cases F:j=l;.rw [if_pos F];show o.rf _
    .rw [if_neg F,if_pos ()];show a (j-1) () ()
   .rw [if_neg N];by_cases S:l<i/\i<=m
    .rw [if_pos S,if_neg (),if_pos ()];show g _ _ () ()
    .rw [if_neg S];by_cases F:j=l;.rw [if_pos F];show d i ()
     .rw [if_neg F];by_cases M:l<j/\j<=m;.rw [if_pos M];show g _ _ () ()
      .rw [if_neg M];show g _ _ y ()
 .obtain ⟨G,bt,g⟩:=hi;show#[G,bt,?_];rwa[show min (max (max k 1) n) n=n by rfl']at g
 .by_cases W:k=0;.rw [show i=j by rfl'];show o.rf _
  .show u i j y ()
 .obtain ⟨rfl,bt,g⟩:=G;show Ú (h t bt g)
end
def Rn (B:Keyed->Keyed->Bool):Nat->List (Nat×Nat×Nat)->List Keyed->Prop
 |_,[],T=>T=[]|a,r::t,T=>r.1=a/\1<=r.2.1/\∃L T',T=L++T'/\L.length=r.2.1/\Sd B L/\Rn B (a+r.2.1) t T'
section
variable{B:Keyed->Keyed->Bool}
theorem Rn.app:∀{p q:List (Nat×Nat×Nat)} {a:Nat} {T:List Keyed},Rn B a (p++q) T->∃b c,T=b++c/\Rn B a p b/\Rn B (a+b.length) q c
 |[],q,a,T,h=>#[[],T,rfl,rfl,h]|r::p,q,a,T,h=>by let#[j,k,L,l,rfl,d,i,e]:=h;let#[b,c,rfl,g,f]:=Rn.app e;show#[L++b,c,by simp,#[j,k,L,b,rfl,d,i,g],?_];rw[À,d,<-Nat.add_assoc];show f
theorem Rn.cat:∀{p q:List (Nat×Nat×Nat)} {a:Nat} {b c:List Keyed},Rn B a p b->Rn B (a+b.length) q c->Rn B a (p++q) (b++c)
 |[],q,a,b,c,h,g=>by obtain rfl:b=[]:=h;show g
 |r::p,q,a,b,c,h,g=>by let#[j,k,L,f,rfl,d,i,e]:=h;show#[j,k,L,f++c,by simp,d,i,Rn.cat e ?_];rw[À,d,<-Nat.add_assoc]at g;show g
theorem Rn.len:∀{p:List (Nat×Nat×Nat)} {a:Nat} {T:List Keyed},Rn B a p T->p.length<=T.length
 |[],a,T,h=>ñ _|r::p,a,T,h=>by let#[e,f,L,c,rfl,g,d,b]:=h;have:=Rn.len b;rw[À,é];rfl'
theorem Rn.mod (f:Nat×Nat×Nat->Nat×Nat×Nat) (c:∀r,(f r).1=r.1/\(f r).2.1=r.2.1):∀{p:List (Nat×Nat×Nat)} {a i:Nat} {T:List Keyed},Rn B a p T->Rn B a (p.modify i f) T
 |[],a,i,T,h=>by rw[List.modify_nil];show h|r::p,a,0,T,h=>by rw[List.modify_zero_cons];change(f r).1=a/\1<=(f r).2.1/\∃L b,T=L++b/\L.length=(f r).2.1/\Sd B L/\Rn B (a+(f r).2.1) p b;rw[(c r).1,(c r).2];show h
 |r::p,a,i+1,T,h=>by rw[List.modify_succ_cons];let#[g,e,L,b,rfl,k,j,d]:=h;show#[g,e,L,b,rfl,k,j,Rn.mod f c d]
end
structure Jn (kd:SortKind) (a0:Array Keyed) (B:Keyed->Keyed->Bool) (st:SortSt) (T S:List Keyed):Prop where
 kn:kindOf st=kd
 fl:failedOf st=none
 pm:(arrOf st).Perm a0
 ar:arrOf st=(T++S).toArray
 rn:Rn B 0 (pendingOf st).toList T
section
variable{prog:Program} {w:World} {A:Around} {E:Value->Shared->Prop} {s:Shared} {kd:SortKind} {a0:Array Keyed} {B:Keyed->Keyed->Bool} {st:SortSt}
theorem Dq (k:Wk B) (D:An (model prog w) A E s kd a0 B) {T:List Keyed} (j:Jn kd a0 B st T S) (hi:i+1<(pendingOf st).size) {Q:Bool->SortSt->Prop}(q:∀z r,Jn kd a0 B z r S->r.length=T.length->(pendingOf z).size+1=(pendingOf st).size->Q true z):wpS (model prog w) A E s (mergeAt' i) Q st:=by
 have n:i+1<(pendingOf st).toList.length:=by simpa using hi
 let#[b,h,e,a,d,rfl]:∃b h e a,(pendingOf st).toList=b++h::e::a/\b.length=i:=by show#[(pendingOf st).toList.take i,(pendingOf st).toList[i],(pendingOf st).toList[i+1],(pendingOf st).toList.drop (i+2),?_,by rw[Ñ];rfl'];rw[<-Ć n,<-Ć (Nat.lt_of_succ_lt n),ā]
 have rn:=j.rn;rw[d]at rn;let#[P,X,rfl,J,F]:=rn.app;let#[l,t,L1,M,rfl,o,C,y]:=F;let#[g,v,L2,c,rfl,p,x,g5]:=y;let#[N,W,O]:=h;let#[U,K,R]:=e;dsimp only at l t o g v p g5;subst o;subst p;rw[Δ]at l g g5;subst l;subst g;show Jk k D j.kn j.fl (L1:=L1) (L2:=L2) (S:=c++S) d (by rw[j.ar];simp) j.pm C x t v λz L a1 I m f H u=>?_;show q z (P++(L++c)) #[a1,I,?_,by rw[u];simp,?_] (by simp[f.length_eq];rfl') ?_;.rw [u];show Array.Perm.trans ?_ j.pm;rw[j.ar,Ĥ];have:(P++(L++(c++S))).Perm (P++(L1++L2++(c++S))):=(f.append_right _).append_left P;simpa using this
 .rw [m];show Rn.cat J #[by simp,by dsimp only;rfl',L,c,rfl,by rw[f.length_eq,À],H,?_];rw[Δ,show P.length+(L1.length+L2.length)=P.length+L1.length+L2.length by rfl'];show g5
 .have b1:=ß List.length m;have G:=ß List.length d;simp at b1 G;rfl'
noncomputable def Jm (lo n:Nat):StateT SortSt Sem (ForInStep (Option Unit×Nat)):=do
 modify λs=>setPending s ((pendingOf s).push (lo,n,0))
 pure (.yield (none,lo+n))
noncomputable def vy (sz lo n:Nat):StateT SortSt Sem (ForInStep (Option Unit×Nat)):=do
 let z<-get
 match(pendingOf z).back? with
 |some (s1,n1,_)=>do
  let c<-forIn [0:sz] ((none,Unit.unit):Option Unit×Unit) λ_ _=>do
   let z<-get
   match if(pendingOf z).size>1 then(pendingOf z)[(pendingOf z).size-2]? else none with
   |some (_,_,ol)=>if ol<=power' sz (2*s1+n1) (2*s1+n1+n1+n) sz then pure (.done (none,Unit.unit))else do
     let b<-mergeAt' ((pendingOf z).size-2)
     if(not b)=true then pure (.done (!Unit.unit,Unit.unit))else pure (.yield (none,Unit.unit))|_=>pure (.done (none,Unit.unit))
  match c.1 with
  |some r=>pure (.done (!r,lo))|none=>do
   let _<-modify λs=>setPending s ((pendingOf s).modify ((pendingOf s).size-1) λr=>(r.1,r.2.1,power' sz (2*s1+n1) (2*s1+n1+n1+n) sz))Jm lo n
 |_=>Jm lo n
end
section
variable{prog:Program} {w:World} {A:Around} {E:Value->Shared->Prop} {s:Shared} {kd:SortKind} {a0:Array Keyed} {B:Keyed->Keyed->Bool} {st:SortSt}
def Js (kd:SortKind) (a0:Array Keyed) (B:Keyed->Keyed->Bool) (n:Nat) (z:SortSt):ForInStep (Option Unit×Nat)->Prop
 |.done _=>False|.yield c=>∃T S,c=(none,List.length T)/\Jn kd a0 B z T S/\T.length=n
theorem tQ {T L:List Keyed} (j:Jn kd a0 B st T (L++S)) (a:1<=L.length) (b:Sd B L) (q:∀z r,Js kd a0 B (T.length+L.length) z r->Q r z):wpS (model prog w) A E s (Jm T.length L.length) Q st:=by
 unfold Jm;show Ò (wpS_modify (Ú (q _ _ #[T++L,S,by rw[À],#[j.kn,j.fl,j.pm,by change arrOf st=_;rw[j.ar];simp,?_],by rw[À]])));change Rn B 0 ((pendingOf st).push (T.length,L.length,0)).toList (T++L);rw[Array.toList_push];show Rn.cat j.rn #[by simp,a,L,[],by simp,rfl,b,rfl]
theorem Dr (k:Wk B) (l:An (model prog w) A E s kd a0 B) {sz:Nat} {T L:List Keyed} (j:Jn kd a0 B st T (L++S)) (e:1<=L.length) (i:Sd B L) (q:∀z r,Js kd a0 B (T.length+L.length) z r->Q r z):wpS (model prog w) A E s (vy sz T.length L.length) Q st:=by
 unfold vy;show Ò (δ ?_);rcases(pendingOf st).back? with _|⟨s1,n1,w1⟩;.show tQ j e i q
 dsimp only;show Ò (Ĺ (ĝ (I:=λ_ c z=>c=(none,Unit.unit)/\∃a,Jn kd a0 B z a (L++S)/\a.length=T.length) (Q:=λc z=>c=(none,Unit.unit)/\∃a,Jn kd a0 B z a (L++S)/\a.length=T.length)
  (λx c z C F n=>?_) (λ_ _ h=>h) #[rfl,T,j,rfl]) λc z p=>?_)
 .obtain ⟨rfl,a,b,d⟩:=n;show Ò (δ ?_);by_cases g:(pendingOf z).size>1
  .rw [if_pos g,getElem?_pos (pendingOf z) ((pendingOf z).size-2) ()];let#[v,y,o]:=(pendingOf z)[(pendingOf z).size-2];dsimp only;by_cases f:o<=power' sz (2*s1+n1) (2*s1+n1+n1+L.length) sz;.rw [if_pos f];show Ú #[rfl,a,b,d]
   .rw [if_neg f];show Ò (Dq k l b () λu t m D _=>?_);rw[if_neg (by decide)];show Ú #[rfl,t,m,()]
  .rw [if_neg g];show Ú #[rfl,a,b,d]
 .obtain ⟨rfl,a,b,d⟩:=p;dsimp only;show Ò (wpS_modify ?_);rw[<-d]at q⊢;show tQ (T:=a) (L:=L) (S:=S) #[b.kn,b.fl,b.pm,b.ar,?_] e i q;change Rn B 0 ((pendingOf z).modify _ _).toList a;rw[Array.toList_modify];show Rn.mod (λr=>(r.1,r.2.1,power' sz (2*s1+n1) (2*s1+n1+n1+L.length) sz)) (λr=>#[rfl,rfl]) b.rn
theorem yt {T:List Keyed} (hi:i<S.length):gl (T++S).toArray T.length i=S[i]:=by unfold gl gt;rw[Ā,ú (ċ _ _),ĵ,Zz hi];rfl
theorem Jo {T:List Keyed} {m:Nat} (c:m<=S.length) (u:Up B (T++S).toArray T.length m):Sd B (S.take m):=by
 show Ň.mpr λi j hi b a=>?_;rw[Ñ]at hi b;have:=u i j (ć a) ();rw[yt (),yt ()]at this;rw[List.getElem_take,List.getElem_take];show this
theorem Jp {T:List Keyed} (a:x0=(T++S).toArray) (b:Bl kd a0 x0 T.length pe st):∃c,arrOf st=(T++c).toArray:=by
 show#[(arrOf st).toList.drop T.length,?_];apply Ŗ.mp;rw[List.toList_toArray];have:(arrOf st).toList.take T.length=T:=by
  apply List.ext_getElem?;intro i;rw[List.getElem?_take];by_cases h:i<T.length
  .rw [if_pos h,î,b.pf i h,a,Ā,ĕ h]
  .rw [if_neg h,Ņ ()]
 conv=>lhs;rw[<-ā T.length (arrOf st).toList,this]
theorem Jq (k:Wk B) (G:An (model prog w) A E s kd a0 B) {Q:Unit->SortSt->Prop} (kn:kindOf st=kd) (fl:failedOf st=none) (pe:pendingOf st=([].toArray)) (pm:(arrOf st).Perm a0) (h2:1<=a0.size)(q:∀t,(arrOf t).Perm a0->failedOf t=none->Sd B (arrOf t).toList->Q Unit.unit t):wpS (model prog w) A E s sortRuns' Q st:=by
 rw[sortRuns'_eq];show Ò (δ ?_);dsimp only;rw[pm.size_eq];have len:∀{z:SortSt} {T S:List Keyed},Jn kd a0 B z T S->T.length+S.length=a0.size:=λ{z T S} j=>by rw[<-j.pm.size_eq,j.ar];simp
 show Ò (Ĺ (ĝ (I:=λx c z=>∃T S,c=(none,List.length T)/\Jn kd a0 B z T S/\(x<=T.length\/S=[])) (Q:=λc z=>∃T,c=(none,List.length T)/\Jn kd a0 B z T [])
  (λx c z g1 g2 p=>?_) (λc z p=>?_) #[[],(arrOf st).toList,rfl,#[kn,fl,pm,by simp,by rw[pe];rfl],.inl (Ã _)]) λc z O=>?_)
 .obtain ⟨T,S,rfl,j,l⟩:=p;dsimp only;have M:=len j;by_cases y:T.length>=a0.size;.rw [if_pos y];obtain rfl:S=[]:=Ð ();show Ú #[T,rfl,j]
  rw[if_neg y];have b0:Bl kd a0 (arrOf z) T.length (pendingOf z) z:=#[j.pm,j.kn,j.fl,rfl,λ_ _=>rfl];have key:∀(m:Nat) (t:SortSt),Bl kd a0 (arrOf z) T.length (pendingOf z) t->1<=m->m<=a0.size-T.length->Up B (arrOf t) T.length m->wpS (model prog w) A E s (vy a0.size T.length m) (λr d=>match r with|.done c'=>∃T,c'=(none,List.length T)/\Jn kd a0 B d T []|.yield c'=>∃T S,c'=(none,List.length T)/\Jn kd a0 B d T S/\(x+1<=T.length\/S=[])) t:=by
   intro m t b F C u;let#[H,P]:=Jp j.ar b;have ad:T.length+H.length=a0.size:=by rw[<-b.pm.size_eq,P];simp
   rw[P]at u;have sd:=Jo () u;have hm:(H.take m).length=m:=by rw[Ñ];rfl'
   have X:=Dr (prog:=prog) (w:=w) (A:=A) (E:=E) (s:=s) (st:=t) k G (sz:=a0.size) (T:=T) (L:=H.take m) (S:=H.drop m)
    (Q:=λr d=>match r with|.done c'=>∃T,c'=(none,List.length T)/\Jn kd a0 B d T []|.yield c'=>∃T S,c'=(none,List.length T)/\Jn kd a0 B d T S/\(x+1<=T.length\/S=[]))
    #[b.kn,b.fl,b.pm,by rw[ā];show P,by rw[b.pe];show j.rn] () sd (λz' r hz=>by cases r with
     |done c'=>show hz.elim
     |yield c'=>
      let#[U,S2,rfl,N,h9]:=hz;show#[U,S2,rfl,N,?_];rcases l with l|l;.show .inl ()
      .rw [l]at M;simp at M;rfl');rw[hm]at X;show X
  have D:∀t (f g:StateT SortSt Sem (ForInStep (Option Unit×Nat))) R,f=g->wpS (model prog w) A E s f R t->wpS (model prog w) A E s g R t:=λt f g R e h=>e▸h;have o:∀{W β:Type} (m:StateT SortSt Sem W) (f g:W->StateT SortSt Sem β),(∀x,f x=g x)->(m>>=f)=(m>>=g):=λm f g h=>by rw[funext h]
  show Ò (Dm k G (n:=a0.size-T.length) () () b0 λm t b F C u=>?_);dsimp only;by_cases Z:m<minRun' a0.size a0.size 0
  .rw [if_pos Z];show Ò (wpS_lift (ė #[rfl,Ò (Do k G (n:=min (a0.size-T.length) (minRun' a0.size a0.size 0)) () () b u λY b3 u3=>?_)]));rw[if_neg (by decide)];show D Y (vy a0.size T.length _) _ _ ?_ (Ĺ (key _ Y b3 () () u3) λr _ h=>by cases r<;>show h);unfold vy;show o _ _ _ λz=>?_;rcases(pendingOf z).back? with _|⟨s1,n1,w1⟩;.rfl
   .show o _ _ _ λc=>?_;let#[J,c2]:=c;cases J with|some _=>rfl|none=>rfl
  .rw [if_neg Z];show D t (vy a0.size T.length m) _ _ ?_ (Ĺ (key m t b F C u) λr _ h=>by cases r<;>show h);unfold vy;show o _ _ _ λz=>?_;rcases(pendingOf z).back? with _|⟨s1,n1,w1⟩;.rfl
   .show o _ _ _ λc=>?_;let#[J,c2]:=c;cases J with
    |some _=>rfl|none=>rfl
 .obtain ⟨T,S,rfl,j,l⟩:=p;have M:=len j;rcases l with l|rfl;.obtain rfl:S=[]:=Ð ();show#[T,rfl,j]
  .show #[T,rfl,j]
 .obtain ⟨T,rfl,j⟩:=O;dsimp only;show Ò (Ĺ (ĝ (I:=λx c z=>c=(none,Unit.unit)/\∃T,Jn kd a0 B z T []/\(pendingOf z).size+x<=a0.size+1) (Q:=λc z=>c=(none,Unit.unit)/\∃T,Jn kd a0 B z T []/\(pendingOf z).size<=1)
   (λx c z g1 g2 p=>?_) (λc z p=>?_) #[rfl,T,j,?_]) λc z O=>?_)
  .obtain ⟨rfl,T,j,l⟩:=p;show Ò (δ ?_);by_cases y:(pendingOf z).size<=1;.rw [if_pos y];show Ú #[rfl,T,j,y]
   rw[if_neg y];have fin:∀i,i+1<(pendingOf z).size->wpS (model prog w) A E s (do let b<-mergeAt' i;if(not b)=true then pure (ForInStep.done (!Unit.unit,Unit.unit))else pure (ForInStep.yield (none,Unit.unit))) (λr d=>match r with|.done c'=>c'=(none,Unit.unit)/\∃T,Jn kd a0 B d T []/\(pendingOf d).size<=1 |.yield c'=>c'=(none,Unit.unit)/\∃T,Jn kd a0 B d T []/\(pendingOf d).size+(x+1)<=a0.size+1) z:=λi hi=>by show Ò (Dq k G j hi λz' U N h2 h3=>?_);rw[if_neg (by decide)];show Ú #[rfl,U,N,()]
   show Ĺ (fin _ ?_) λr _ h=>by cases r<;>show h
   have le:∀(c:Prop) [Decidable c] (n:Nat),(if c then n-1 else n)<=n:=λc _ n=>by split<;>rfl'
   show Ù (Ŕ (le _ _)) ()
  .obtain ⟨rfl,T,j,l⟩:=p;rw[show max 0 a0.size=a0.size by rfl']at l;show#[rfl,T,j,()]
  .have l1:=j.rn.len;have K:=len j;rw[ø]at l1;simp at K;rfl'
  .obtain ⟨rfl,T,j,l⟩:=O;show Ú (q z j.pm j.fl ?_);rw[j.ar,å];have rn:=j.rn;have K:=len j;match hp:(pendingOf z).toList,rn,l with
   |[],rn,_=>have:T=[]:=rn;subst this;simp at K;rfl'|[r],rn,_=>let#[h1,h2,L,T',rfl,h3,h4,h5]:=rn;obtain rfl:T'=[]:=h5;simpa using h4|a::b::c,_,l=>have:=ß List.length hp;simp at this;rfl'
end
end Sm
end
section
namespace Sx
open PySem PyProof.Rows
variable{Q:Value->Shared->Prop}
section
variable{prog:Program} {w:World} {A:Around} {E:Value->Shared->Prop} {s:Shared} {kd:SortKind} {a0:Array Keyed} {B:Keyed->Keyed->Bool} {st:SortSt} {n k:Nat}
theorem pQ (o:Wk B) {a:Addr} {vs:List Value} {n:Nat} {P:Fin->Shared->Prop} (f:s.heap.get? a=!(seqObj "list" vs.toArray n)) (q:vs.length<100000)(r:2<=vs.length->wpAny (model prog w) A (keyKind' vs.toArray) (λk s'=>s'={s with heap:=mid s.heap a vs}/\k=kd) E {s with heap:=mid s.heap a vs})(p:Sm.An (model prog w) A E {s with heap:=mid s.heap a vs} kd (pairsOf vs) B)(h:∀b:Array Keyed,b.Perm (pairsOf vs)->Sm.Sd B b.toList->P (.done (.ret .none)) {s with heap:=sortedHeap s.heap a vs (b.map (·.2))}):wpAny (model prog w) A (Builtin.«list.sort» #[[.ref a],[]]) P E s:=by
 rw[list_sort_plain];have u:a<s.heap.objs.size:=Ç f;let#[l,m]:∃l,(s.heap.update a (Obj.mapSeq λ_=>([].toArray))).get? a=!(seqObj "list" ([].toArray) l):=#[_,get?_update_seq f (λ_=>([].toArray))];have e:(mid s.heap a vs).get? a=!(seqObj "list" ([].toArray) l):=by unfold mid;show Yf _ (Yf _ m)
 have c:(pairsOf vs).size=vs.length:=pairsOf_size vs;show Qr (ŭ f rfl (Qr (listUpdate_at f rfl (Qr (seqEpoch_at m rfl (Qr (wpAny_newTuple (Qr (wpAny_newList (ą ?_))))))))));change wpAny (model prog w) A _ P E {s with heap:=mid s.heap a vs};dsimp only;have hz:vs.toArray.size=vs.length:=by simp
 rw[hz];by_cases d:vs.length<2
 .rw [if_pos d,if_pos d];show Qr (Zy ?_);rw[StateT.run_pure];show Qr (Zy (Qr (seqEpoch_at e rfl (Qr (listUpdate_at e rfl ?_ (hsz2:= ?_))))));.simp only[bne_self_eq_false,â,ă];show Zy (h (pairsOf vs) (Array.Perm.refl _) (Sm.CW (by rw[ø,c];show d)))
  .rw [Array.size_map];change(pairsOf vs).size<=_;rw[c,ę];rfl'
 .rw [if_neg d,if_neg d];show Qr (Ď (r ()) ?_ λ_ _ z=>z);rintro k s' ⟨rfl,rfl⟩;show Qr (Ď (Sm.Jq o p (st:=SortSt.mk' k (vs.toArray.zip vs.toArray) ([].toArray) 7 none) (Q:=λ_ t=>(arrOf t).Perm (pairsOf vs)/\failedOf t=none/\Sm.Sd B (arrOf t).toList)
   rfl rfl rfl (Array.Perm.refl _) () λt g j i=>#[g,j,i]) ?_ λ_ _ z=>z);rintro⟨⟨⟩,t⟩ s' ⟨rfl,g,j,i⟩;show Qr (seqEpoch_at e rfl (Qr (listUpdate_at e rfl ?_ (hsz2:= ?_))));.dsimp only;rw[j];simp only[bne_self_eq_false,â,ă];show Zy (h _ g i)
  .rw [Array.size_map];change(arrOf t).size<=_;rw[g.size_eq,c,ę];rfl'
theorem tR (o:Wk B) {l:Addr} {vs:List Value} (p:s.heap.IsList l vs.toArray) (e:vs.length<100000)(q:∀(f:Around) (c:Value->Shared->Prop) s',Kp s s'->2<=vs.length->wpAny (model prog w) f (keyKind' vs.toArray) (λk d=>d=s'/\k=kd) c s')(n:∀(f:Around) (c:Value->Shared->Prop) s',Kp s s'->Sm.An (model prog w) f c s' kd (pairsOf vs) B)(h:∀a:Array Keyed,a.Perm (pairsOf vs)->Sm.Sd B a.toList->Q (.ref (s.heap.objs.size+1)) {s with heap:=sortedAll s.heap vs (a.map (·.2))}):wpAny (model prog w) A (call (.builtin "sorted") [.ref l]) Q E s:=by
 show ű kind_sorted plain_sorted entry_sorted (args_sorted1 _) ?_;unfold Builtin.«sorted»;show Qr (m:=checkCount "sorted" 1 1 _) (Zy (Qr (collect_list p (Qr (wpAny_newList ?_ (by rw[ę];rfl'))) (by rw[ę];rfl'))));have z:((s.heap.push (seqObj "list" ([].toArray) 0)).update s.heap.objs.size (Obj.mapSeq (·++vs.toArray))).objs.size=s.heap.objs.size+1:=by rw[Heap.size_update,size_push']
 have g:(((s.heap.push (seqObj "list" ([].toArray) 0)).update s.heap.objs.size (Obj.mapSeq (·++vs.toArray))).push (seqObj "list" vs.toArray 0)).get? (s.heap.objs.size+1)=!(seqObj "list" vs.toArray 0):=by rw[<-z];show Ë _ rfl
 have j:Kp s {s with heap:=mid (((s.heap.push (seqObj "list" ([].toArray) 0)).update s.heap.objs.size (Obj.mapSeq (·++vs.toArray))).push (seqObj "list" vs.toArray 0)) (s.heap.objs.size+1) vs}:=by show#[λb ob i=>?_,rfl];have lt:b<s.heap.objs.size:=Ç i;unfold mid;show Yf _ (Yf _ ?_);rw[π _ _ _ _ (ã (Ę lt))];show Yf _ ?_;rw[π _ _ _ _ (ã lt)];show Yf _ i
 change wpAny _ _ _ _ _ {s with heap:=((s.heap.push (seqObj "list" ([].toArray) 0)).update s.heap.objs.size (Obj.mapSeq (·++vs.toArray))).push (seqObj "list" vs.toArray 0)};rw[z];show Qr (ą (ê slot_list_sort #[_,g,rfl] entry_list_sort (pQ o g e (λt=>q _ _ _ j t) (n _ _ _ j) λa u r=>#[_,rfl,?_]) (args_list_sort _)));show Zy #[_,rfl,h a u r]
end
section
variable{prog:Program} {w:World} {A:Around} {E:Value->Shared->Prop} {s:Shared} {f:Value->Str}
theorem zP {vs:List Value} (c:∀v∈vs,Fs s.heap f v) (C:(vs.map f).Nodup):Sm.An (model prog w) A E s (tuples' true) (pairsOf vs) (Bf f):=by
 intro st x y Q k i q;let#[r,a]:=i;rw[pairsOf_toList]at a;have t:x.1∈vs:=(Μ (a.mem_iff.mp Ì)).2;have u:y.1∈vs:=(Μ (a.mem_iff.mp (Í _ Ì))).2;have n:f x.1≠f y.1:=by
  have b:=a.map (λp:Keyed=>f p.1);have e:(vs.zip vs).map (λp:Keyed=>f p.1)=vs.map f:=by rw[show(λp:Keyed=>f p.1)=f∘Prod.fst from rfl,<-Á,List.map_fst_zip (Ã _)]
  rw[e]at b;have d:=(b.nodup_iff).mpr C;rw[Ä,Ä]at d;showλe=>(Ĉ.mp d).1 (by rw[e];show Ì)
 rw[lt'_eq];show Ò (δ ?_);rw[k];let#[b1,I,j,L,K,N,v1,m,J,B,g]:=c _ t;let#[G,D,z,M,O,F,v2,h,H,o,l]:=c _ u;show Ò (wpS_lift (Œ ?_));rw[jQ,v1,v2];show Qr (ŭ m B (Qr (ŭ h o ?_)));rw[g,l,Ź,Ψ,ï];show Qr (Qr (Qr (eqBool_str ?_)));rw[if_pos (by rw[Ė.mpr n];rfl)];show Qr (strKind_oneLt prog w A _ s _ _ (f x.1).cps.toList (f y.1).cps.toList rfl rfl (Zy (Zy (Zy #[rfl,Ú ?_]))));show q
theorem vz {vs:List Value} (w:(vs.map f).Nodup) {c:Array Keyed} (t:c.Perm (pairsOf vs)) (u:Sm.Sd (Bf f) c.toList):∃m:List Value,m.toArray=c.map (·.2)/\m.Perm vs/\(m.map f).Pairwise (λa b=>a.cps.toList<b.cps.toList):=by
 have h:c.toList.Perm (vs.zip vs):=by
  have:=Ĥ.mp t;rwa[pairsOf_toList]at this
 have d:∀p∈c.toList,p.1=p.2:=λp r=>(Μ (h.mem_iff.mp r)).1;have i:(c.toList.map (·.2)).Perm vs:=by have:=h.map (·.2);rwa[List.map_snd_zip (Ã _)]at this
 show#[c.toList.map (·.2),by rw[<-Array.toList_map],i,?_];have g:((c.toList.map (·.2)).map f).Nodup:=((i.map f).nodup_iff).mpr w;rw[Á,Ő];rw[Á,List.Nodup,Ő]at g;show List.Pairwise.imp_of_mem ?_ (g.and u);intro p q l o ⟨j,k⟩;unfold Bf at k;have s:=d p l;have v:=d q o;rw[s,v]at k;have j:f p.2≠f q.2:=j;change(f p.2).cps.toList<(f q.2).cps.toList;cases e:strKind.blt (f p.2).cps.toList (f q.2).cps.toList with
 |true=>show ò e|false=>
  have:=strKind.total _ _ e k;show absurd (by
   have n:(f p.2).cps=(f q.2).cps:=Ŗ.mp this;cases h4:f p.2;cases h5:f q.2;rw[h4,h5]at n;simpa using n) j
theorem nA {l:Addr} {vs:List Value} (p:s.heap.IsList l vs.toArray) (i:vs.length<100000) (j:∀v∈vs,Fs s.heap f v) (m:(vs.map f).Nodup)(h:∀c:List Value,c.Perm vs->(c.map f).Pairwise (λa b=>a.cps.toList<b.cps.toList)->Q (.ref (s.heap.objs.size+1)) {s with heap:=sortedAll s.heap vs c.toArray}):wpAny (model prog w) A (call (.builtin "sorted") [.ref l]) Q E s:=by show tR (kd:=tuples' true) (Xf (f:=f)) p i (λn q s' k d=>tu (by intro e;rw[e]at d;simp at d) λv g=>(j v g).keep k) (λn q s' k=>zP (λv g=>(j v g).keep k) m) λc t u=>?_;let#[r,e,o,d]:=vz m t u;rw[<-e];show h r o d
end
end Sx
namespace L2
open PySem PySem.Spec PyProof.Rows
def U0 (td:TE):TE:=λσ H Q=>td σ H λx H1=>∃(a:Addr) (kvs:List (Str×V)),x=.ref a/\H1 a=!(.dK (kvs.map λp=>(Sum.inr p.1,p.2)))/\kvs.length<100000/\∀r (zs:List (Addr×Str×V)) (H2:Hp),(zs.map (·.2)).Perm kvs->(zs.map (·.2.1)).Pairwise NT->H1 r=none->Same H1 H2->H2 r=!(.lst (zs.map λz=>V.ref z.1))->(∀z∈zs,H2 z.1=!(.tup [.str z.2.1,z.2.2]))->Q (.ref r) H2
def iw (K:W.Frag):List V->Hp->VK->Prop:=λxs H Q=>∃(a:Addr) (zs:List (Addr×Str×List V)),xs=[.ref a]/\SqL K H a (zs.map λz=>V.ref z.1)/\(∀z∈zs,SqT K H z.1 (.str z.2.1::z.2.2))/\(zs.map (·.2.1)).Nodup/\zs.length<100000/\∀r (ws:List (Addr×Str×List V)),ws.Perm zs->(ws.map (·.2.1)).Pairwise (λa b=>a.cps.toList<b.cps.toList)->H r=none->Q (.ref r) (upd H r (.lst (ws.map λz=>V.ref z.1)))
theorem tU {X:Cx}:bY X (.builtin "sorted") (iw X.K):=by
 intro x s T H xs us Q I rv h;let#[a,zs,rfl,F,hz,k,i,q]:=h;let#[u,rfl,G]:=rv.one;cases(show u=Value.ref a from G);let#[N,r,E,_]:=I.list F;have L:=mX r;subst L;have m:∀z∈zs,mW s.heap (.ref z.1)=z.2.1/\Sx.Fs s.heap (mW s.heap) (.ref z.1):=by
  intro z c;let#[U,S,C,_]:=I.tuple (hz z c);let#[ob,y,O,n,j]:=C;cases S with|cons r2 rr=>
   let#[t,rfl]:=r2;have e:mW s.heap (.ref z.1)=z.2.1:=by unfold mW;dsimp only;rw[y];dsimp only;rw[j];rfl
   show#[e,z.1,ob,_,t,n,_,rfl,y,O,j,by rw[e]]
 have P:(zs.map λz=>Value.ref z.1).map (mW s.heap)=zs.map (·.2.1):=by rw[Á];show ħ λz c=>(m z c).1
 show Sx.nA (f:=mW s.heap) (vs:=zs.map λz=>Value.ref z.1) E.isList (by rw[Qb];show i) (λv J=>?_) (by rw[P];show k) λM D p=>?_;.obtain ⟨z,c,rfl⟩:=Zl.mp J;show(m z c).2
 let#[d,l,rfl]:=yh D.symm rfl;let#[e,R]:=sortedAll_at s.heap (zs.map λz=>Value.ref z.1) (d.map λz=>Value.ref z.1).toArray;have A:H (s.heap.objs.size+1)=none:=I.hok.fresh (Ū _);have es:(d.map λz=>Value.ref z.1).map (mW s.heap)=d.map (·.2.1):=by rw[Á];show ħ λz c=>(m z (l.mem_iff.mp c)).1
 rw[es]at p;show#[.ref _,_,I.laid (t':=s.toks) (a:=s.heap.objs.size+1) (o:=.lst (d.map λz=>V.ref z.1)) (λb o B=>sortedAll_old B) (Ū _) (show ObjOk X.prog X.w _ _ _ (.lst _)from#[?_,_,e,kY (g:=λz=>z.1) d,R]),rfl,q _ d l p A];rw[Qb,l.length_eq];show ć (Β i (by decide))
theorem iy {X:Cx} (K:W.Frag) (a:X.K=K):bY X (.builtin "sorted") (iw K):=a▸tU
def yu (K:W.Frag):R2:=λx y H Q=>∃a b xs ys,x=.ref a/\y=.ref b/\SqT K H a xs/\SqT K H b ys/\xs.length+ys.length<=sizeLine/\(xs=[]->Q (.ref b) H)/\(xs≠[]->ys=[]->Q (.ref a) H)/\(xs≠[]->ys≠[]->∀p,H p=none->Q (.ref p) (upd H p (.tup (xs++ys))))
section
variable{X:Cx}
theorem Jr:gW X (binaryOp .Add) (yu X.K):=by
 intro g s B H x y v u Q I p r h;let#[a,b,xs,D,rfl,rfl,o,m,hz,G,A,E]:=h;by_cases e:xs=[]
 .subst e;cases p;cases r;let#[L,N,C,_]:=I.tuple o;let#[c,P,M,_]:=I.tuple m;cases N;let#[#[cls,J,data,F],w,t,n,z]:=id C;let#[#[q,k,j,l],f,d,O,i]:=id M;simp only at t z d i;subst t z d i;show concat_meets #[_,w,rfl] #[_,f,rfl] noFill_tuple_add seq_tuple_add Α Ž (Ŵ _ _)
   (tuple_addW0 a b ([].toArray) c.toArray n O J k F l rfl) #[w,f,.ref b,H,I,rfl,G rfl]
 .show Io g s B H _ _ _ _ Q I p r #[a,b,xs,D,rfl,rfl,o,m,e,hz,A e,E e]
theorem Ds (K:W.Frag) (a:X.K=K):gW X (binaryOp .Add) (yu K):=a▸Jr
end
structure FunD (K:W.Frag) (x qual:Str) (st:Stmt) (f:Addr) (fd:FuncData) (T:Addr) (ds:List Value):Prop where
 ex:∃(oc:Value) (od:Option Addr) (kV doc pm:Value) (an:Option Addr) (cdv ct:Value) (osl:Array (Option Value)),fd=W.fnOf x qual (fJ st) (eN st) (aC st) (.ref T) kV doc pm an cdv ct/\K.lookup f=!#[oc,od,.func fd,osl]/\W.codeIn K cdv qual=true
 kp:W.keepIn K (.ref f)=true
 tp:∃(o:Obj) (n:Nat),K.lookup T=!o/\o.data=.seq ds.toArray n
structure CalD (P:Program) (w:World) (K:W.Frag) (mg:Str->Option Value) (base:Heap) (n:Nat) (x:Str) (ps:List Str) (dvs:List V) (sp:Sp):Prop where ex:∃(f:Addr) (fd:FuncData) (ds:List Value),FnOk P w K mg base KN n f fd ps sp/\Binds K fd ps ds/\Vals dvs ds/\W.keepIn K (.ref f)=true/\mg x=!(.ref f)
structure CalXD (P:Program) (w:World) (K:W.Frag) (mg:Str->Option Value) (base:Heap) (n:Nat) (x:Str) (ps:List Str) (dvs:List V) (sp:Sp):Prop where ex:∃(f:Addr) (fd:FuncData) (ds:List Value),FnOk P w K mg base (Yk P w) n f fd ps sp/\Binds K fd ps ds/\Vals dvs ds/\W.keepIn K (.ref f)=true/\mg x=!(.ref f)
def YS (K:W.Frag) (a:Addr) (xs:List V):Prop:=∃(o:Obj) (its:Array Value) (n:Nat),K.lookup a=!o/\o.cls=.type "tuple"/\o.data=.seq its n/\its.size<=sizeLine/\Vals xs its.toList
noncomputable def U3 (x:Str) (o:Nat):It:=⟨λi _=>i<x.cps.size,λi H v H'=>∃p c,H p=none/\v=.ref p/\H'=upd H p (.tup [.int ((i+o:Nat):Int),.str #[([c].toArray)]])/\x.cps[i]?=!c,λi _=>i=x.cps.size⟩
structure EnSs (e it:Addr) (x:Str) (u:Tok) (o i:Nat) (h:Heap):Prop where
 he:∃old,IsEnum h e it ((i+o:Nat):Int) old
 h1:h.IsStrIter it (strIterType x) x u i
def Xk (ta tk:TA):TI:=λσ H R=>ta σ H λvs H1=>tk σ H1 λks H2=>∃x o,vs=[.str x]/\ks=[.int ((o:Nat):Int)]/\o<=1000000000/\R (U3 x o) H2
noncomputable def U4 (K:W.Frag) (a:Addr):It:=⟨λi H=>∃xs x,SqT K H a xs/\xs[i]?=!x,λi H v H'=>∃p x,H p=none/\v=.ref p/\H'=upd H p (.tup [.int (i:Int),x])/\∀xs,SqT K H a xs->xs[i]?=!x,λi H=>∃xs,SqT K H a xs/\i=xs.length⟩
structure EnSt3 (e it a:Addr) (i:Nat) (h:Heap):Prop where
 he:∃old,IsEnum h e it (i:Int) old
 h1:h.IsTupleIter it a i
def Xl (K:W.Frag) (ta:TA):TI:=λσ H R=>ta σ H λvs H1=>∃a xs,vs=[.ref a]/\SqT K H1 a xs/\R (U4 K a) H1
end L2
end
section
namespace L2
open PySem PySem.Spec PyProof.Rows PySem.W
abbrev lX:R2:=rI (λ_ j=>0<j/\j.natAbs.log2<9000) λi j=>.int (i/j)
theorem tV {X:Cx}:gW X (binaryOp .FloorDiv) lX:=Mv λi j _ _ _ _ _ a q=>by have b:(0:Int)<j:=a.1;show floordiv_int () (by rw[Int.fdiv_eq_ediv_of_nonneg i ()];show q) (.inl (PyProof.noPylong_of_log2 a.2))
end L2
end
section
namespace L2
open PySem PySem.Spec PyProof.Rows
def vA (tk tv:TE):TE:=λσ H Q=>∀p,H p=none->tk σ (upd H p (.dT [])) λx H1=>tv σ H1 λv H2=>H2 p=!(.dT [])/\∃k b,x=.ref b/\H2 b=!(.tup (k.map kV))/\Q (.ref p) (upd H2 p (.dT [(k,v)]))
theorem Dt {X:Cx} {pos:Pos} {y m:Expr} {l r:TE} (Z:X.A.units+1<cLine) (K:PE X y l) (L:PE X m r):PE X (.Dict [!y] [m] pos) (vA l r):=by
 intro f s C H Q I q;have M:=I.hok.fresh (Ã s.heap.objs.size);have F:=I.laid (a:=s.heap.objs.size) (o:=.dT []) (h':=s.heap.push {cls:=.type "dict",data:=.dict ([].toArray)}) (t':=s.toks) (λ_ _ q=>Yf _ q) (Ã _) (sS s.heap I.big);show wpAny_Dict_any rfl rfl (by simp) (by simp) (bM (sV (pos:=pos) K L xZ f _ C _ (λps H2=>match ps with|[(x,v)]=>H2 s.heap.objs.size=!(.dT [])/\∃k b,x=.ref b/\H2 b=!(.tup (k.map kV))/\Q (.ref s.heap.objs.size) (upd H2 s.heap.objs.size (.dT [(k,v)]))|_=>False) F (q _ M)) λU Y ⟨ps,H2,j,d,g⟩=>?_);cases d with|nil=>show g.elim|@cons a c as cs h t=>cases t with|cons=>show g.elim|nil=>
  let#[x,v]:=a;let#[R,T]:=c;let#[e,k,b,u,w,J]:=g;dsimp only at h u;subst u;cases(show R=Value.ref b from h.1);let#[z,S,xs,d,P]:=pH j.hok e;unfold storeAll;rw[ï];show Qr (Qr (wpAny_dictSet_heap (hsz:=by rw[<-Ċ d];show z) (by change X.A.units<cLine;rfl') (j4 j.hok w) P λh' i E=>Zy ?_));change wpAny _ _ (forIn [] PUnit.unit _) _ _ _;rw[ĳ];let#[q,es,B,p,N,O,G,_,D]:=i;show Zy #[.ref s.heap.objs.size,upd H2 s.heap.objs.size (.dT [(k,v)]),il j (by rw[e];show True.intro) E ⟨q,p⟩ ⟨(by change(1:Nat)<=sizeLine;rw[ę];rfl'),S,_,(d.put k w h.2).keeps λc W n=>?_,q,es,B,p,N,O,G,D⟩,rfl,J];rw[az (bD n e (λz=>nomatch z))];show n
noncomputable def U5 (K:W.Frag) (a b:Addr):It:=⟨λi H=>∃xs ys x y,SqL K H a xs/\SqT K H b ys/\xs[i]?=!x/\ys[i]?=!y,λi H v H'=>∃p x y,H p=none/\v=.ref p/\H'=upd H p (.tup [x,y])/\(∀xs,SqL K H a xs->xs[i]?=!x)/\∀ys,SqT K H b ys->ys[i]?=!y,λi H=>∃xs ys,SqL K H a xs/\SqT K H b ys/\(xs.length<=i\/ys.length<=i)⟩
structure ZipStL (z TI TO i1 i2 a b:Addr) (i:Nat) (h:Heap):Prop where
 hz:IsZip h z TI TO .none
 hTI:IsPair h TI (.ref i1) (.ref i2)hTO:∃u v,IsPair h TO u v
 h1:h.IsListIter i1 a i
 h2:h.IsTupleIter i2 b i
 aTO:a≠TO
 bTO:b≠TO
def Yv (K:W.Frag) (ta:TA):TI:=λσ H R=>ta σ H λvs H1=>∃a b xs ys,vs=[.ref a,.ref b]/\SqL K H1 a xs/\SqT K H1 b ys/\R (U5 K a b) H1
end L2
end
section
namespace Nk
open PySem PySem.Spec PyProof.Rows
variable{a b:Addr} {ks:List Int} {Q:Bool->Shared->Prop}
abbrev gm:=Int×Int×List Int
variable{k x y:gm}
section
variable{prog:Program} {w:World} {A:Around} {E:Value->Shared->Prop} {s:Shared}
def IsSt (prog:Program) (w:World) (h:Heap) (k:gm) (a:Addr):Prop:=∃o n v1 v2 b,h.get? a=!o/\o.cls=.type "tuple"/\o.data=.seq ([v1,v2,.ref b].toArray) n/\(intKind prog w).is k.1 v1=true/\(intKind prog w).is k.2.1 v2=true/\IsTupleKey (intKind prog w) h k.2.2 b
theorem IsSt.typeIs (x:IsSt prog w s.heap k a):s.TypeIs (.ref a) "tuple":=let⟨o,_,_,_,_,ho,hc,_⟩:=x;#[o,ho,hc]
theorem IsSt.inj {h:Heap} (l:IsSt prog w h x a) (p:IsSt prog w h y a):x=y:=by
 let#[o,n,v1,v2,b,s,_,v,a1,r,i]:=l;let#[g,z,B,C,A,d,_,c,u,j,f]:=p;obtain rfl:o=g:=Ô (s.symm.trans d);rw[v]at c;injection c with e1 _;have e:=ß Array.toList e1;simp only[List.cons.injEq,and_true]at e;let#[rfl,rfl,k]:=e;cases k;have m:=i.inj f;have t:=(intKind prog w).inj _ _ _ a1 u;have q:=(intKind prog w).inj _ _ _ r j;show ω t (ω q m)
theorem IsSt.keeps {h h':Heap} {d:Addr} {o:Obj} {es ep} (x:IsSt prog w h k a) (j:h.get? d=!o) (l:o.data=.dict es ep) (i:Heap.SameBut d h h'):IsSt prog w h' k a:=by
 let#[g,n,v1,v2,b,e,q,c,a1,p,m]:=x;have f:a≠d:=by rintro rfl;obtain rfl:g=o:=Ô (e.symm.trans j);rw[l]at c;show nomatch c
 show#[g,n,v1,v2,b,(i.2 a f).trans e,q,c,a1,p,m.keeps j l i]
noncomputable def pR (cs:List Int):Int:=reduceHash (Builtin.Tuple.tupleHashOf (cs.map hashInt))
noncomputable def pU (k:gm):Int:=reduceHash (Builtin.Tuple.tupleHashOf [hashInt k.1,hashInt k.2.1,pR k.2.2])
theorem Jt {Q:Int->Shared->Prop} (m:A.units+1<cLine) (i:IsSt prog w s.heap k a) (h:Q (pU k) {s with toks:=s.toks+(k.2.2.length+4)}):wpAny (model prog w) A (pyHash (.ref a)) Q E s:=by
 have f:=i.typeIs;let#[o,n,v1,v2,b,p,_,q,a1,l,j]:=i;unfold pyHash;first| unfold pyHashByItsType|skip
 first|show Qr (wpAny_cRoomFor_or (.inr ()) ?_)|skip
 show Qr (Ŷ f F.slot_tuple_hash.lookup ?_);change wpAny _ _ (if(some (Value.builtin "tuple.__hash__")==!Value.none)=true then _ else _) Q E s;rw[if_neg (by rw[beq_builtin_none];show Ê)];show Qr (Ŷ f F.slot_tuple_hash.lookup ?_);change wpAny _ _ (callSpecialIfBoundUnlessNone? (.ref a) "__hash__" _>>=_) Q E s;show Qr (wpAny_callSpecialIfBoundUnlessNone?_slot f F.slot_tuple_hash (ê F.slot_tuple_hash f F.entry_tuple_hash ?_ (F.args_tuple_hash_1 _)));change wpAny _ _ (Builtin.Tuple.tupleItemsOf (.ref a)>>=_) _ _ s;show Qr (ŝ p q ?_);show Qr ?_;rw[<-Array.forIn_toList];change wpAny _ _ (forIn [v1,v2,Value.ref b] _ _) _ _ s;have g:A.in1.units<cLine:=by change A.units+1<cLine;show m
 rw[ï];show Qr (Qr ((intKind prog w).pyHash a1 (Zy ?_)));change wpAny _ _ (forIn [v2,Value.ref b] _ _) _ _ _;rw[ï];show Qr (Qr ((intKind prog w).pyHash l (Zy ?_)));change wpAny _ _ (forIn [Value.ref b] _ _) _ _ _;rw[ï];show Qr (Qr (wpAny_pyHash_tuple (knd:=intKind prog w) g j (Zy ?_)));change wpAny _ _ (forIn [] _ _) _ _ _;rw[ĳ];show Zy ?_;change wpAny _ _ (retInt (Builtin.Tuple.tupleHashOf [hashInt k.1,hashInt k.2.1,pR k.2.2])) _ _ _;show wpAny_ret_mkInt ?_;change wpAny _ _ (if(decide (-(2:Int)^63<=Builtin.Tuple.tupleHashOf [hashInt k.1,hashInt k.2.1,pR k.2.2])&&decide (Builtin.Tuple.tupleHashOf [hashInt k.1,hashInt k.2.1,pR k.2.2]<2^63))=true then _ else _) Q E _;have c:∀x:Nat,x=s.toks+(k.2.2.length+4)->Q (pU k) {s with toks:=x}:=λx e=>by rw[e];show h
 unfold pU at c;unfold reduceHash at c;by_cases d:(decide (-(2:Int)^63<=Builtin.Tuple.tupleHashOf [hashInt k.1,hashInt k.2.1,pR k.2.2])&&decide (Builtin.Tuple.tupleHashOf [hashInt k.1,hashInt k.2.1,pR k.2.2]<2^63))=true;.rw [if_pos d];rw[if_pos d]at c;show Zy (c _ (by dsimp only;rfl'))
 .rw [if_neg d];rw[if_neg d]at c;show Qr (ė (Zy (c _ (by dsimp only;rfl'))))
theorem vB {P:PySem.Fin->Shared->Prop} (K:A.units<cLine) (I:IsSt prog w s.heap x a) (D:IsSt prog w s.heap y b) (h:P (.done (.ret (.bool (decide (x=y))))) s):wpAny (model prog w) A (Builtin.«tuple.__eq__» #[[.ref a,.ref b],[]]) P E s:=by
 have j:=D.typeIs;let#[M,N,v1,v2,c,k,_,m,a1,F,r]:=I;let#[ob,O,J,C,d,i,_,n,b1,v,p]:=D;change wpAny _ _ (isInstance (.ref b) (.type "tuple")>>=_) _ _ s;show Qr (Ŀ j ŧ ?_);simp only[ě,â,ă];show Qr (ŝ k m ?_);show Qr (ŝ i n ?_);show Qr ?_;change wpAny _ _ (forIn [(v1,J),(v2,C),(Value.ref c,Value.ref d)] _ _) _ _ s;let#[t,u,L]:=x;let#[G,B,H]:=y;dsimp only at a1 F r b1 v p;have o:∀{q:Bool},q=false->P (.done (.ret (.bool q))) s->P (.done (.ret (.bool false))) s:=λe h=>e▸h
 rw[ï];show Qr (Qr ((intKind prog w).eqBool (a:=t) (b:=G) a1 b1 ?_));by_cases g:t=G
 .subst g;rw[Ö rfl];simp only[ě,â,ă];show Zy ?_;change wpAny _ _ (forIn [(v2,C),(Value.ref c,Value.ref d)] _ _) _ _ s;rw[ï];show Qr (Qr ((intKind prog w).eqBool (a:=u) (b:=B) F v ?_));by_cases f:u=B
  .subst f;rw[Ö rfl];simp only[ě,â,ă];show Zy ?_;change wpAny _ _ (forIn [(Value.ref c,Value.ref d)] _ _) _ _ s;rw[ï];show Qr (Qr (wpAny_eqBool_tuple (knd:=intKind prog w) K r p ?_));by_cases l:L=H;.subst l;rw[Ö rfl];simp only[ě,â,ă];show Zy ?_;change wpAny _ _ (forIn [] _ _) _ _ s;rw[ĳ];show Zy ?_;rw[Ö rfl]at h;show Zy h
   .rw [È l];simp only[Bool.not_false,Ģ];show Qr (Zy (Zy (Zy (Zy (o (È λz=>l (by cases z;rfl)) h)))))
  .rw [È f];simp only[Bool.not_false,Ģ];show Qr (Zy (Zy (Zy (Zy (o (È λz=>f (by cases z;rfl)) h)))))
 .rw [È g];simp only[Bool.not_false,Ģ];show Qr (Zy (Zy (Zy (Zy (o (È λz=>g (by cases z;rfl)) h)))))
theorem U6 (g:A.units+1<cLine) (d:IsSt prog w s.heap x a) (f:IsSt prog w s.heap y b) (h:Q (decide (x=y)) s):wpAny (model prog w) A (eqBool (.ref a) (.ref b)) Q E s:=by
 unfold eqBool;try with_reducible show ą ?_
 change wpAny _ _ (if(Value.ref a==Value.ref b)=true then _ else _) Q E s;by_cases c:(Value.ref a==Value.ref b)=true
 .rw [if_pos c];have e:a=b:=by have:=Φ c;injection this
  subst e;obtain rfl:=d.inj f;show Qr (ė (Zy (by simpa using h)))
 .rw [if_neg c];show Qr (wpAny_richCompare_same_room (op:=.Eq) d.typeIs f.typeIs F.slot_tuple_eq (ê F.slot_tuple_eq d.typeIs F.entry_tuple_eq (vB (by change A.units+1<cLine;show g) d f #[_,rfl,(λe=>nomatch e),Č h]) (F.args_tuple_eq_2 _ _)) ())
theorem vC (g:IsTupleKey (intKind prog w) s.heap ks a) (h:Q true s):wpAny (model prog w) A (eqIsQuiet 7 (.ref a)) Q E s:=by
 have f:=g.typeIs;let#[o,d,n,i,_,j,hi]:=g;unfold eqIsQuiet;show Qr (Ŷ f F.slot_tuple_eq.lookup ?_);change wpAny _ _ (isInstance (.ref a) (.type "tuple")>>=_) _ _ s;show Qr (Ŀ f ŧ ?_);simp only[ě,â,ă];show Qr (ĉ i j ?_);show Qr ?_;change wpAny _ _ (forIn d _ _) _ _ s;rw[<-Array.forIn_toList];show wpAny_forIn_list _ (λrest r e=>r.1=none/\e=s/\∀v∈rest,carriedByValue v=true) _ ?_ ?_ _ _ #[rfl,rfl,hi.byValue];.rintro v rest r e ⟨c,rfl,b⟩;rw[eqIsQuiet_byValue _ (b v Ì)];show Qr (Zy ?_);simp only[ě,â,ă];show Zy #[rfl,rfl,λu m=>b u (Í _ m)]
 .rintro ⟨l,k⟩ e ⟨c,rfl,_⟩;simp only at c;subst c;show Zy h
theorem Du (c:IsSt prog w s.heap k a) (h:Q true s):wpAny (model prog w) A (eqIsQuiet 8 (.ref a)) Q E s:=by have d:=c.typeIs;let#[o,n,v1,v2,b,e,_,i,a1,f,g]:=c;unfold eqIsQuiet;show Qr (Ŷ d F.slot_tuple_eq.lookup ?_);change wpAny _ _ (isInstance (.ref a) (.type "tuple")>>=_) _ _ s;show Qr (Ŀ d ŧ ?_);simp only[ě,â,ă];show Qr (ĉ e i ?_);show Qr ?_;change wpAny _ _ (forIn ([v1,v2,Value.ref b].toArray) _ _) _ _ s;rw[<-Array.forIn_toList];change wpAny _ _ (forIn [v1,v2,Value.ref b] _ _) _ _ s;rw[ï,eqIsQuiet_byValue _ ((intKind prog w).byValue _ _ a1)];show Qr (Qr (Zy ?_));simp only[ě,â,ă];show Zy ?_;change wpAny _ _ (forIn [v2,Value.ref b] _ _) _ _ s;rw[ï,eqIsQuiet_byValue _ ((intKind prog w).byValue _ _ f)];show Qr (Qr (Zy ?_));simp only[ě,â,ă];show Zy ?_;change wpAny _ _ (forIn [Value.ref b] _ _) _ _ s;rw[ï];show Qr (Qr (vC g ?_));simp only[ě,â,ă];show Zy ?_;change wpAny _ _ (forIn [] _ _) _ _ s;rw[ĳ];show Zy (Zy h)
end
noncomputable def iz (prog:Program) (w:World):HeapKind prog w gm where
 is:=IsSt prog w
 hash:=pU
 draws:=λk=>k.2.2.length+4
 room:=λA=>A.units+1<cLine
 inj:=λhx hy=>hx.inj hy
 keeps:=λx ho hd hs=>x.keeps ho hd hs
 pyHash:=λhu hk h=>Jt hu hk h
 eqBool:=λhu hx hy h=>U6 hu hx hy h
 quiet:=λhk h=>Du hk h
end Nk
namespace L2
open PySem PySem.Spec PyProof.Rows Nk
variable{y:V} {H':Hp} {w:World} {rr u:Value} {Q:Value->Shared->Prop}
abbrev Sk:=Int×Int×List Int
variable{kvs:List (Addr×Sk×V)} {xs:List (Sk×Addr×Value)}
noncomputable def vD (x:Sk×Addr×Value):DictEntry:=#[pU x.1,.ref x.2.1,x.2.2]
def YT (a:Addr) (kvs:List (Addr×Sk×V)) (h:Heap):Prop:=kvs.length<=sizeLine/\(a==sysModules)=false/\∃xs:List (Sk×Addr×Value),Paired (λ(p:Addr×Sk×V) (q:Sk×Addr×Value)=>p.2.1=q.1/\p.1=q.2.1/\RelV p.2.2 q.2.2) kvs xs/\∃o es ep,h.get? a=!o/\o.ExactDict/\o.data=.dict es ep/\es.toList=xs.map vD/\(xs.map (·.1)).Nodup
abbrev bA (a:Addr) (kvs:List (Addr×Sk×V)):HO:=.ext (YT a kvs)
def StA (H:Hp) (b:Addr) (k:Sk):Prop:=∃c,H b=!(.tup [.int k.1,.int k.2.1,.ref c])/\H c=!(.tup (k.2.2.map V.int))
noncomputable def cR (kvs:List (Addr×Sk×V)) (k:Sk):Option V:=(kvs.find? λp=>decide (p.2.1=k)).map (·.2.2)
noncomputable def qK (kvs:List (Addr×Sk×V)) (b:Addr) (k:Sk) (v:V):List (Addr×Sk×V):=if(cR kvs k).isSome then kvs.map λp=>if p.2.1=k then(p.1,p.2.1,v)else p else kvs++[(b,k,v)]
def SGet (H:Hp) (a:Addr) (y:V) (r:Option V):Prop:=∃kvs k b,Rd H a (bA a kvs)/\(∀p∈kvs,StA H p.1 p.2.1)/\y=.ref b/\StA H b k/\r=cR kvs k
def SPut (H:Hp) (a:Addr) (y v:V) (H':Hp):Prop:=∃kvs k b,H a=!(bA a kvs)/\(∀p∈kvs,StA H p.1 p.2.1)/\y=.ref b/\StA H b k/\kvs.length<sizeLine/\H'=upd H a (bA a (qK kvs b k v))
section
variable{P:Program} {w:World} {H:Hp} {h:Heap} {a b:Addr}
theorem tW {P:Program} {w:World}:∀{ks:List Int} {us:List Value},Vals (ks.map V.int) us->ItemsAre (intKind P w) ks us
 |[],_,r=>by rw[û]at r;cases r;show .nil|k::ks,_,r=>by rw[Ä]at r;cases r with|cons h t=>let#[t',rfl]:=(show∃t,_=Value.int k t from h);show .cons (Ż _ _ _ _) (tW t)
theorem nF {k:Sk} (d:HOk P w H h) (e:StA H a k):(iz P w).is h k a:=by
 let#[c,m,i]:=e;let#[_,p,r,o,l,q,n,x]:=(show ObjOk P w H h a (.tup [.int k.1,.int k.2.1,.ref c])from d a _ m);let#[_,b,g,s,u,v,f,j]:=(show ObjOk P w H h c (.tup (k.2.2.map V.int))from d c _ i);cases r with|cons h1 t1=>
  cases t1 with|cons h2 t2=>cases t2 with|cons h3 t3=>
    cases t3;let#[y,rfl]:=(show∃t,_=Value.int k.1 t from h1);let#[z,rfl]:=(show∃t,_=Value.int k.2.1 t from h2);cases(show _=Value.ref c from h3);show#[o,n,_,_,c,l,q,x,Ż _ _ _ _,Ż _ _ _ _,#[s,b.toArray,f,u,v,j,by simpa using tW g]]
abbrev KS:List (Addr×Sk×V)->List (Sk×Addr×Value)->Prop:=Paired λp q=>p.2.1=q.1/\p.1=q.2.1/\RelV p.2.2 q.2.2
theorem KS.val (r:KS kvs xs) (k:Sk):RelO (cR kvs k) ((atKey xs k).map (·.2)):=by induction r with|nil=>show True.intro|@cons p q ps qs h t ih=>
  let#[b,_,c]:=h;by_cases e:p.2.1=k
  .have a:q.1=k:=b.symm.trans e;have z:atKey (q::qs) k=!q.2:=by simp[atKey,Ĝ,a]
   have y:cR (p::ps) k=!p.2.2:=by simp[cR,Ĝ,e]
   rw[y,z];show c
  .have a:¬q.1=k:=λz=>e (b.trans z);have z:atKey (q::qs) k=atKey qs k:=by simp[atKey,Ĝ,a]
   have y:cR (p::ps) k=cR ps k:=by simp[cR,Ĝ,e]
   rw[y,z];show ih
theorem KS.repl (r:KS kvs xs) (k:Sk) (d:RelV y u):KS (kvs.map λp=>if p.2.1=k then(p.1,p.2.1,y)else p) (xs.map (putAt k u)):=by induction r with
 |nil=>show .nil|@cons p q ps qs h t ih=>
  rw[Ä,Ä];show .cons ?_ ih;let#[a,b,c]:=h;unfold putAt;by_cases e:p.2.1=k;.rw [if_pos e,if_pos (a.symm.trans e)];show#[a,b,d]
  .rw [if_neg e,if_neg (λz=>e (a.trans z))];show#[a,b,c]
theorem KS.put (r:KS kvs xs) (k:Sk) {b:Addr} (a:RelV y u):KS (qK kvs b k y) (storedH xs k b u):=by
 have e:(cR kvs k).isSome=(atKey xs k).isSome:=by rw[(r.val k).isSome_eq,Ŏ]
 unfold qK storedH;rw[e];by_cases q:(atKey xs k).isSome=true;.rw [if_pos q,if_pos q];show r.repl k a
 .rw [if_neg q,if_neg q];show Paired.snoc r #[rfl,rfl,a]
theorem Dv (kvs:List (Addr×Sk×V)) (b:Addr) (k:Sk) (v:V):(qK kvs b k v).length<=kvs.length+1:=by
 unfold qK;split;.rw [Qb];rfl'
 .rw [À,Õ];rfl'
theorem yw (b:HOk P w H h) (e:Rd H a (bA a kvs)):ObjOk P w H h a (bA a kvs):=by
 rcases e with e|⟨o,e⟩;.show b a _ e
 .show (show ObjOk P w H h a (.frz o (bA a kvs))from b a _ e).2
theorem nG (d:HOk P w H h) (e:Rd H a (bA a kvs)) (j:∀p∈kvs,StA H p.1 p.2.1):kvs.length<=sizeLine/\(a==sysModules)=false/\∃xs,KS kvs xs/\h.DictOfH (iz P w) a xs:=by
 let#[#[z,y,xs,r,o,es,f,k,n,s,i,g],_]:=yw d e;show#[z,y,xs,r,o,es,f,k,n,s,i,λx b=>?_,g];have all:∀{l:List (Addr×Sk×V)} {m:List (Sk×Addr×Value)},KS l m->(∀p∈l,StA H p.1 p.2.1)->∀x∈m,(iz P w).is h x.1 x.2.1:=by intro l m q;induction q with
  |nil=>intro _ x b;show nomatch b|@cons p q ps qs hq t ih=>
   intro c x b;rcases Å.mp b with e|b;.subst e;have:=nF d (c p Ì);rw[<-hq.1,<-hq.2.1];show this
   .show ih (λp m=>c p (Í _ m)) x b
 show all r j x b
theorem Dw {P:Program} {h':Heap} (z:kvs.length<=sizeLine) (s:(a==sysModules)=false) (d:KS kvs xs) (p:∃o es ep,h'.get? a=!o/\o.ExactDict/\o.data=.dict es ep/\es.toList=xs.map vD/\(xs.map (·.1)).Nodup):ObjOk P w H' h' a (bA a kvs):=by let#[o,es,ep,g,m,j,h,i]:=p;show#[#[z,s,xs,d,o,es,ep,g,m,j,h,i],#[o,g],λu v ⟨q,n,b,t,f,e,c,l,r⟩ k=>#[q,n,b,t,f,e,c,k f l,r]]
end
section
variable{X:Cx} {pins:List (Addr×Obj)} {σ:St} {H:Hp} {s:Shared} {a:Addr} {y v:V} {u r:Value} {o:Option V} {A:Around} {E:Value->Shared->Prop}
theorem vG (B:A.units+2<cLine) (I:Inv X pins σ H s) (g:SGet H a y !v) (n:RelV y u) (h:∀c s',Inv X pins σ H s'->RelV v c->Q c s'):wpAny (model X.prog X.w) A (getItem (.ref a) u) Q E s:=by
 let#[kvs,k,b,e,j,t,x,l]:=g;subst t;cases(show u=Value.ref b from n);let#[z,C,xs,f,q]:=nG I.hok e j;let#[c,m,d]:=RelO.some_of (v:=v) (o:=(atKey xs k).map (·.2)) (by rw[l];show f.val k);let#[p,r,i]:=á.mp m;show wpAny_getItem_heap (knd:=iz X.prog X.w) (show A.units+1+1<cLine by rfl') (nF I.hok x) q r ?_;rw[i];show h c _ (I.tok _) d
theorem U7 (p:A.units+2<cLine) (I:Inv X pins σ H s) (g:SGet H a y o) (f:RelV y u) (h:∀s',Inv X pins σ H s'->Q (.bool o.isSome) s'):wpAny (model X.prog X.w) A (compareOp .In u (.ref a)) Q E s:=by
 let#[kvs,k,b,e,d,j,m,l]:=g;subst j;cases(show u=Value.ref b from f);let#[z,n,xs,c,i]:=nG I.hok e d;show wpAny_in_heap (knd:=iz X.prog X.w) (show A.units+1+1<cLine by rfl') (nF I.hok m) n i ?_;have q:=(c.val k).isSome_eq;rw[Ŏ]at q;rw[<-q,<-l];show h _ (I.tok _)
theorem Dy (p:A.units+2<cLine) (I:Inv X pins σ H s) (g:SGet H a y o) (f:RelV y u) (h:∀s',Inv X pins σ H s'->Q (.bool (not o.isSome)) s'):wpAny (model X.prog X.w) A (compareOp .NotIn u (.ref a)) Q E s:=by
 let#[kvs,k,b,e,d,j,m,l]:=g;subst j;cases(show u=Value.ref b from f);let#[z,n,xs,c,i]:=nG I.hok e d;show wpAny_notIn_heap (knd:=iz X.prog X.w) (show A.units+1+1<cLine by rfl') (nF I.hok m) n i ?_;have q:=(c.val k).isSome_eq;rw[Ŏ]at q;rw[<-q,<-l];show h _ (I.tok _)
theorem vH {Q:Unit->Shared->Prop} (K:A.units+2<cLine) (I:Inv X pins σ H s) (g:SPut H a y v H') (o:RelV y u) (rv:RelV v r) (h:∀s',Inv X pins σ H' s'->Q Unit.unit s'):wpAny (model X.prog X.w) A (setItem (.ref a) u r) Q E s:=by
 let#[kvs,k,b,e,i,B,C,l,t]:=g;subst B t;cases(show u=Value.ref b from o);let#[z,J,xs,c,x]:=nG I.hok (.inl e) i;have hz:xs.length<=sizeLine:=by rw[<-Ċ c];show z
 have n:(qK kvs b k v).length<=sizeLine:=by have:=Dv kvs b k v;rfl'
 show wpAny_setItem_heap (hsz:=hz) (knd:=iz X.prog X.w) (show A.units+1+1<cLine by rfl') (nF I.hok C) x λh' d F=>h _ ?_;let#[q,es,j,f,m,p,G,_,D]:=d;show il I (by rw[e];show True.intro) F ⟨q,f⟩ (Dw n J (c.put k rv) ⟨q,es,j,f,m,p,G,D⟩)
theorem Ju {d:V} (t:A.units+2<cLine) (I:Inv X pins σ H s) (g:SGet H a y o) (m:RelV y u) (q:RelV d rr) (h:∀f s',Inv X pins σ H s'->RelV (o.getD d) f->Q f s'):wpAny (model X.prog X.w) A (call (.builtin "dict.get") [.ref a,u,rr]) Q E s:=by
 let#[kvs,k,b,e,j,n,p,l]:=g;subst n;cases(show u=Value.ref b from m);let#[z,r,xs,c,i]:=nG I.hok e j;show call_meetsIn Ũ i.typeIs PySem.F.entry_dict_get (PySem.F.args_dict_get_3 _ _ _) (meetsH_dict_get_default (iz X.prog X.w) a b r rr) #[(show A.units+1+1<cLine by rfl'),k,xs,nF I.hok p,i,h _ _ (I.tok _) ?_];rw[l];show(c.val k).getD q
end
end L2
end
section
namespace Nk
open PySem PySem.Spec PyProof.Rows Sx
variable{a b:gm} {v:Value} {s':Shared}
noncomputable def fP (a b:gm):Bool:=if a.1=b.1 then(if a.2.1=b.2.1 then HT.lexLt a.2.2 b.2.2 else decide (a.2.1<b.2.1))else decide (a.1<b.1)
def Fn (h:Heap) (f:Value->gm) (v:Value):Prop:=∃b ob its n t1 t2 c oc ics nc,v=.ref b/\h.get? b=!ob/\ob.cls=.type "tuple"/\ob.data=.seq its n/\its.toList=[.int (f v).1 t1,.int (f v).2.1 t2,.ref c]/\h.get? c=!oc/\oc.cls=.type "tuple"/\oc.data=.seq ics nc/\IntsAre ics.toList (f v).2.2
section
variable{prog:Program} {w:World} {A:Around} {E:Value->Shared->Prop} {s:Shared} {f:Value->gm}
theorem Fn.keep (k:Kp s s') (h:Fn s.heap f v):Fn s'.heap f v:=by let#[b,ob,d,n,p,r,c,l,a,q,m,i,j,t,o,e,g]:=h;show#[b,ob,d,n,p,r,c,l,a,q,m,k.1 _ _ i,j,t,o,k.1 _ _ e,g]
theorem tX {vs:List Value} (B:vs≠[]) (z:∀v∈vs,Fn s.heap f v):wpAny (model prog w) A (keyKind' vs.toArray) (λk s'=>s'=s/\k=tuples' true) E s:=by
 rw[keyKind'_eq,Η];have g:∀v∈vs,∃a,∀R:Option Value->Shared->Prop,R (!(.int (f v).1 a)) s->wpAny (model prog w) A (firstOfTuple' v) R E s:=by
  intro v d;let#[b,ob,i,n,l,H,c,F,C,G,rfl,j,o,D,y,_]:=z v d;show#[l,λR r=>?_];rw[t6];show Qr (wpAny_typeOf_ref j ?_);rw[o];show Qr (ŭ j D (Zy ?_));have:i[0]?=!(.int (f (.ref b)).1 l):=by rw[<-î,y];rfl
  rw[this];show r
 let a:Value->Tok:=λv=>if d:v∈vs then(g v d).choose else 0;have h:∀v∈vs,∀R:Option Value->Shared->Prop,R (!(.int (f v).1 (a v))) s->wpAny (model prog w) A (firstOfTuple' v) R E s:=by intro v d R r;show(g v d).choose_spec R ?_;have:a v=(g v d).choose:=Ů d;rwa[<-this]
 rw[map_eq_pure_bind,bind_assoc];show Qr (mV (r:=λv=>!(.int (f v).1 (a v))) h ?_);rw[pure_bind];have a1:((vs.map λv=>!(Value.int (f v).1 (a v))).toArray.all (·.isSome))=true:=by rw[Χ,Θ,Ľ];intro _ _;rfl
 have t:(vs.map λv=>!(Value.int (f v).1 (a v))).toArray.filterMap id=(vs.map λv=>Value.int (f v).1 (a v)).toArray:=by rw[List.filterMap_toArray,List.filterMap_map];congr 1;change vs.filterMap (λv=>!(Value.int (f v).1 (a v)))=_;rw[List.filterMap_eq_map']
 have q:∀us:List Value,(us.map λv=>Value.int (f v).1 (a v)).mapM typeOf=(pure (List.map (λ_=>Value.type "int") (us.map λv=>Value.int (f v).1 (a v))):Sem (List Value)):=by intro us;induction us with|nil=>rfl|cons u us ih=>rw[Ä,List.mapM_cons,ih];rfl
 rw[if_pos a1,t,oneTypeOnly'_eq,Η,q vs];simp only[map_pure,pure_bind];show Qr (ė ?_);let#[v,e,rfl]:=List.exists_cons_of_ne_nil B;have m:((List.map (λ_=>Value.type "int") ((v::e).map λv=>Value.int (f v).1 (a v))).toArray.all λx=>x==Value.type "int")=true:=by rw[Χ,Θ,Ľ];intro _ _;rfl
 have p:(List.map (λ_=>Value.type "int") ((v::e).map λv=>Value.int (f v).1 (a v))).toArray[0]?=!(Value.type "int"):=by simp
 rw[p];simp only[m,Ģ,pure_bind];show Zy #[rfl,rfl]
noncomputable def Bn (f:Value->gm) (p q:Keyed):Bool:=fP (f p.1) (f q.1)
theorem jU:∀a:List Int,HT.lexLt a a=false
 |[]=>rfl|x::a=>by rw[HT.fY,if_pos rfl];show jU a
theorem nH:∀{a b:List Int},HT.lexLt a b=true->HT.lexLt b a=false
 |[],[],h=>by cases h|[],_::_,_=>rfl|_::_,[],h=>by cases h|x::a,y::b,h=>by
  rw[HT.fY]at h⊢;by_cases e:x=y
  .rw [if_pos e]at h;rw[if_pos e.symm];show nH h
  .rw [if_neg e]at h;rw[if_neg (Ne.symm e)];have:=ò h;show È ()
theorem yx:∀{a b:List Int},HT.lexLt a b=false->HT.lexLt b a=false->a=b
 |[],[],_,_=>rfl|[],_::_,h,_=>by cases h|_::_,[],_,h=>by cases h|x::a,y::b,h1,h2=>by
  rw[HT.fY]at h1 h2;by_cases e:x=y;.rw [if_pos e]at h1;rw[if_pos e.symm]at h2;rw[e,yx h1 h2]
  .rw [if_neg e]at h1;rw[if_neg (Ne.symm e)]at h2;have:=ë h1;have:=ë h2;rfl'
theorem vI:∀{a b c:List Int},HT.lexLt b a=false->HT.lexLt c b=false->HT.lexLt c a=false
 |[],[],c,_,h=>h|[],_::_,[],_,_=>rfl|[],_::_,_::_,_,_=>rfl|_::_,[],c,h,_=>by cases h|_::_,_::_,[],_,h=>by cases h|x::a,y::b,z::c,h1,h2=>by
  rw[HT.fY]at h1 h2⊢;by_cases e:y=x
  .rw [if_pos e]at h1;by_cases d:z=y;.rw [if_pos d]at h2;rw[if_pos (d.trans e)];show vI h1 h2
   .rw [if_neg d]at h2;have:=ë h2;rw[if_neg ()];show È ()
  .rw [if_neg e]at h1;have:=ë h1;by_cases d:z=y;.rw [if_neg ()];show È ()
   .rw [if_neg d]at h2;have:=ë h2;rw[if_neg ()];show È ()
theorem Oi (a:gm):fP a a=false:=by unfold fP;rw[if_pos rfl,if_pos rfl];show jU _
theorem Jv (h:fP a b=true):fP b a=false:=by
 unfold fP at h⊢;by_cases e:a.1=b.1
 .rw [if_pos e]at h;rw[if_pos e.symm];by_cases c:a.2.1=b.2.1;.rw [if_pos c]at h;rw[if_pos c.symm];show nH h
  .rw [if_neg c]at h;rw[if_neg (Ne.symm c)];have:=ò h;show È ()
 .rw [if_neg e]at h;rw[if_neg (Ne.symm e)];have:=ò h;show È ()
theorem Oj (c:fP a b=false) (d:fP b a=false):a=b:=by
 unfold fP at c d;by_cases e:a.1=b.1
 .rw [if_pos e]at c;rw[if_pos e.symm]at d;by_cases f:a.2.1=b.2.1;.rw [if_pos f]at c;rw[if_pos f.symm]at d;show ω e (ω f (yx c d))
  .rw [if_neg f]at c;rw[if_neg (Ne.symm f)]at d;have:=ë c;have:=ë d;rfl'
 .rw [if_neg e]at c;rw[if_neg (Ne.symm e)]at d;have:=ë c;have:=ë d;rfl'
theorem U8 {c:gm} (e:fP b a=false) (d:fP c b=false):fP c a=false:=by
 unfold fP at e d⊢;by_cases i:b.1=a.1
 .rw [if_pos i]at e;by_cases f:c.1=b.1
  .rw [if_pos f]at d;rw[if_pos (f.trans i)];by_cases h:b.2.1=a.2.1
   .rw [if_pos h]at e;by_cases g:c.2.1=b.2.1
    .rw [if_pos g]at d;rw[if_pos (g.trans h)];show vI e d
    .rw [if_neg g]at d;have:=ë d;rw[if_neg ()];show È ()
   .rw [if_neg h]at e;have:=ë e;by_cases g:c.2.1=b.2.1;.rw [if_neg ()];show È ()
    .rw [if_neg g]at d;have:=ë d;rw[if_neg ()];show È ()
  .rw [if_neg f]at d;have:=ë d;rw[if_neg ()];show È ()
 .rw [if_neg i]at e;have:=ë e;by_cases f:c.1=b.1;.rw [if_neg ()];show È ()
  .rw [if_neg f]at d;have:=ë d;rw[if_neg ()];show È ()
theorem Xm:Wk (Bn f):=#[λp=>Oi _,λ{p q r} a b=>U8 a b,λ{p q} h=>Jv h]
theorem DG:∀{vs:List Value} {ns:List Int},IntsAre vs ns->ItemsAre (intKind prog w) ns vs
 |_,_,.nil=>.nil|_,_,.cons n t h=>.cons (Ż _ _ _ _) (DG h)
theorem zQ (R:A.units<cLine) {vs:List Value} (M:∀v∈vs,Fn s.heap f v):Sm.An (model prog w) A E s (tuples' true) (pairsOf vs) (Bn f):=by
 intro st x y Q W U q;let#[r,u]:=U;rw[pairsOf_toList]at u;have mx:x.1∈vs:=(Μ (u.mem_iff.mp Ì)).2;have my:y.1∈vs:=(Μ (u.mem_iff.mp (Í _ Ì))).2;rw[lt'_eq];show Ò (δ ?_);rw[W];let#[b1,o1,B,n1,t1,D,j,g,z,d,v1,x1,_,z1,k,N,L,I,l]:=M _ mx;let#[m,o2,H,n2,X,F,e,i,G,h,v2,T,_,z2,o,K,J,S,t]:=M _ my;show Ò (wpS_lift (Œ ?_));rw[jQ,v1,v2];rw[v1]at k l;rw[v2]at o t;have c:Q (!(fP (f (.ref b1)) (f (.ref m)))) st:=by unfold Bn at q;rw[v1,v2]at q;show q
 show Qr (ŭ x1 z1 (Qr (ŭ T z2 ?_)));rw[k,o];change wpAny _ _ (forIn [((Value.int (f (.ref b1)).1 t1,Value.int (f (.ref m)).1 X),0),((Value.int (f (.ref b1)).2.1 D,Value.int (f (.ref m)).2.1 F),1),((Value.ref j,Value.ref e),2)] _ _>>=_) _ _ _;generalize f (.ref b1)=ka at k l c⊢;generalize f (.ref m)=kb at o t c⊢;unfold fP at c;rw[ï];show Qr (Qr (Qr ((intKind prog w).eqBool (a:=ka.1) (b:=kb.1) (Ż _ _ _ _) (Ż _ _ _ _) ?_)));by_cases p:ka.1=kb.1
 .rw [if_pos p]at c;rw[if_neg (by rw[Ö p];simp)];show Zy ?_;change wpAny _ _ (forIn [((Value.int ka.2.1 D,Value.int kb.2.1 F),1),((Value.ref j,Value.ref e),2)] _ _) _ _ _;rw[ï];show Qr (Qr ((intKind prog w).eqBool (a:=ka.2.1) (b:=kb.2.1) (Ż _ _ _ _) (Ż _ _ _ _) ?_));by_cases n:ka.2.1=kb.2.1
  .rw [if_pos n]at c;rw[if_neg (by rw[Ö n];simp)];show Zy ?_;change wpAny _ _ (forIn [((Value.ref j,Value.ref e),2)] _ _) _ _ _;rw[ï];have Y:IsTupleKey (intKind prog w) s.heap ka.2.2 j:=#[g,z,d,N,L,I,DG l];have Z:IsTupleKey (intKind prog w) s.heap kb.2.2 e:=#[i,G,h,K,J,S,DG t];show Qr (Qr (wpAny_eqBool_tuple (knd:=intKind prog w) R Y Z ?_));by_cases C:ka.2.2=kb.2.2
   .rw [if_neg (by rw[Ö C];simp)];show Zy ?_;change wpAny _ _ (forIn [] _ _) _ _ _;rw[ĳ];show Zy (Zy #[rfl,Ú ?_]);have hz:B.size=H.size:=by have O:=ß List.length k;have P:=ß List.length o;rw[ø]at O P;rw[O,P];rfl
    rw[C,jU]at c;rw[hz,È (ü _)];show c
   .rw [if_pos (by rw[È C];rfl)];change wpAny _ _ (oneLt' false (Value.ref j) (Value.ref e)>>=_) _ _ _;rw[oneLt'_eq];simp only[â,ă];show Qr (Qr ?_);show HT.jA (A:=A) (Q:=_) #[g,N,L,d,I] #[i,K,J,h,S] l t R (Č (Zy (Zy (Zy #[rfl,Ú c]))))
  .rw [if_neg n]at c;rw[if_pos (by rw[È n];rfl)];change wpAny _ _ (oneLt' false (Value.int ka.2.1 D) (Value.int kb.2.1 F)>>=_) _ _ _;rw[oneLt'_eq];simp only[â,ă];show Qr (Qr ?_);show wpAny_lt_int (A:=A) (Q:=_) (Č (Zy (Zy (Zy #[rfl,Ú c]))))
 .rw [if_neg p]at c;rw[if_pos (by rw[È p];rfl)];show Qr (oneLt_int (Zy (Zy (Zy #[rfl,Ú c]))))
end
end Nk
namespace L2
open PySem PySem.Spec PyProof.Rows Sx Nk
variable{v:Value} {f:Value->gm} {Q:Value->Shared->Prop} {C R:List Value->Shared->Prop} {Z:List Value->Shared->Array Value->Prop}
section
variable{prog:Program} {w:World} {A:Around} {E:Value->Shared->Prop} {s:Shared} {d:Addr} {od:Obj} {es:Array DictEntry} {ep:Nat}
theorem Jw (lo:(d==sysModules)=false) (c:od.ExactDict) (a:od.data=.dict es ep):PySem.W.KdlSrc prog w "dict" d d es.size (λi v=>∃e,es[i]?=!e/\v=e.key) (λh=>h.get? d=!od)where
 type:=λs h=>#[od,h,c.1]
 there:=λh e=>#[Heap.lt_size e,Ç e]
 keep:=λh h' e k=>k d (.inl rfl) od e
 notList:=by decide
 notTuple:=by decide
 hint:=λA E s Q h g=>PySem.W.kdl_hint_dict #[od,h,c.1] g
 iter:=λA s m h=>⟨{cls:=.type "dict_keyiterator",data:=.fields ([.ref d,.int 0 0,.int es.size 0,.int ep 0].toArray)},λi h=>h.IsKeyIter s.heap.objs.size d i es.size ep/\h.get? d=!od,λE Q g=>j5 lo ⟨od,h,c.1⟩ h a g,{
   sub:=λb f=>by simp only[Å,æ,ď]at f⊢;show .inl f
   frame:=λi h h' st k=>#[st.1.at λo e=>k _ (by simp) o e,k d (by simp) od st.2]
   item:=λi s' Q E hi st j=>by have p:d≠s.heap.objs.size:=ã (Ç h);show jP st.1 st.2 a hi λh' a1 l=>j _ h' s'.toks #[es[i],ö hi,rfl] #[a1,(l.2 d p).trans st.2] λb o f e=>(l.2 b (λz=>f (by rw[z];simp))).trans e
   done:=λs' Q E st j=>lV m st.1 st.2 a (Ã _) λh' n=>j h' s'.toks λb o f e=>n b o (λz=>f (by rw[z];simp)) e
   self:=λi s' Q E st g=>ū st.1 g},⟨⟨_,Ë _ rfl,rfl,rfl⟩,Yf _ h⟩⟩
theorem tY (J:A.handled=none) (lo:(d==sysModules)=false) (t:od.ExactDict) (r:od.data=.dict es ep) (z:s.heap.get? d=!od) (G:es.size<=sizeLine)(h:∀(h':Heap) (tk:Nat),(∀b o,s.heap.get? b=!o->h'.get? b=!o)->s.heap.objs.size<=h'.objs.size->R (es.toList.map (·.key)) {s with heap:=h',toks:=tk}):wpAny (model prog w) A (collect (.ref d)) R E s:=by
 have C:d<s.heap.objs.size:=Ç z;have KS:=Jw (prog:=prog) (w:=w) lo t r;unfold collect;show Qr (wpAny_runValue (Ō entry_proto_collect' ?_));rw[Ġ PySem.F.plain_proto_collect _];change wpAny _ A.in1 (newList []>>=λl=>again (.builtin "list.__iadd__" #[[l,.ref d],[]])) _ _ s;show Qr (õ ?_);show Zy #[plainId_quiet PySem.F.plain_list_iadd _,Ō entry_list_iadd' ?_];rw[Ġ PySem.F.plain_list_iadd _];have n:(s.heap.push {cls:=.type "list",data:=.seq ([]:List Value).toArray}).get? s.heap.objs.size=!{cls:=.type "list",data:=.seq ([].toArray)}:=Ë _ rfl;change wpAny _ A.in1 (Builtin.List.listExtendWith (.ref s.heap.objs.size) (.ref d) (.ref s.heap.objs.size)) _ _ _;have key:=PySem.W.kdl_extend (A:=A) (s:={s with heap:=s.heap.push {cls:=.type "list",data:=.seq ([]:List Value).toArray}}) KS (R:=λ(q:Result) (s':Shared)=>∃(h':Heap) (tk:Nat) (a:Array Value) (m:Nat),q=.ok (.ret (.ref s.heap.objs.size))/\s'={s with heap:=h',toks:=tk}/\
   (∀b o,s.heap.get? b=!o->h'.get? b=!o)/\h'.get? s.heap.objs.size=!{cls:=.type "list",dict:=none,data:=.seq a m,slots:=([].toArray)}/\ItemsOf (λi v=>∃e,es[i]?=!e/\v=e.key) a es.size)
  J (Yf _ z) s.heap.objs.size (ı C) (ı C) (.ref s.heap.objs.size) 0 n (λh' tk a m p k g=>#[h',tk,a,m,rfl,rfl,λb o e=>p b o (ã (Ç e)) (Yf _ e),k,g]) G;have fin:∀{h':Heap} {tk:Nat} {a:Array Value} {m:Nat},(∀b o,s.heap.get? b=!o->h'.get? b=!o)->h'.get? s.heap.objs.size=!{cls:=.type "list",dict:=none,data:=.seq a m,slots:=([].toArray)}->ItemsOf (λi v=>∃e,es[i]?=!e/\v=e.key) a es.size->R a.toList {s with heap:=h',toks:=tk}:=by
  intro h' tk a m p k g;have e:a.toList=es.toList.map (·.key):=by
   apply List.ext_getElem?;intro j;rw[Xs,î,î];by_cases c:j<es.size
   .have u:j<a.size:=by rw[g.1];show c
    let#[e,H,D]:=g.2 j a[j] (ö u);rw[ö u,H,D];rfl
   .rw [Ŝ (by rw[g.1];rfl'),Ŝ ()];rfl
  rw[e];show h h' tk p (ć (Ç k))
 show Ď key (λf s' x=>?_) λe s' x=>?_;.cases f with
  |done f=>let#[h',tk,a,m,e,rfl,p,k,g]:=x;cases e;change wpAny _ A (load s.heap.objs.size>>=_) _ _ _;show Qr (wpAny_load k (Zy (fin p k g)))
  |again c₁=>show#[x.1,codeAny_mono x.2 λq B y=>?_];let#[h',tk,a,m,rfl,rfl,p,k,g]:=y;change wpAny _ A (load s.heap.objs.size>>=_) _ _ _;show Qr (wpAny_load k (Zy (fin p k g)))
 .obtain ⟨_,_,_,_,I,_⟩:=x
  cases I
theorem vJ {vs:List Value} (s:(vs.map f).Nodup) {c:Array Keyed} (r:c.Perm (pairsOf vs)) (u:Sm.Sd (Bn f) c.toList):∃l:List Value,l.toArray=c.map (·.2)/\l.Perm vs/\(l.map f).Pairwise (λa b=>fP a b=true):=by
 have h:c.toList.Perm (vs.zip vs):=by have:=Ĥ.mp r;rwa[pairsOf_toList]at this
 have d:∀p∈c.toList,p.1=p.2:=λp o=>(Μ (h.mem_iff.mp o)).1;have i:(c.toList.map (·.2)).Perm vs:=by have:=h.map (·.2);rwa[List.map_snd_zip (Ã _)]at this
 show#[c.toList.map (·.2),by rw[<-Array.toList_map],i,?_];have g:((c.toList.map (·.2)).map f).Nodup:=((i.map f).nodup_iff).mpr s;rw[Á,Ő];rw[Á,List.Nodup,Ő]at g;show List.Pairwise.imp_of_mem ?_ (g.and u);intro p q m n ⟨j,k⟩;unfold Bn at k;rw[d p m,d q n]at k;have j:f p.2≠f q.2:=j;change fP (f p.2) (f q.2)=true
 cases e:fP (f p.2) (f q.2)with
 |true=>rfl|false=>show absurd (Oj e k) j
def qM:List V->Hp->VK->Prop:=λxs H Q=>∃(a:Addr) (kvs:List (Addr×Sk×V)),xs=[.ref a]/\Rd H a (bA a kvs)/\(∀p∈kvs,StA H p.1 p.2.1)/\kvs.length<100000/\∀r (zs:List (Addr×Sk)),zs.Perm (kvs.map λp=>(p.1,p.2.1))->(zs.map (·.2)).Pairwise (λa b=>fP a b=true)->H r=none->Q (.ref r) (upd H r (.lst (zs.map λz=>V.ref z.1)))
theorem tZ (f:∀(b:Value->Shared->Prop) (R:List Value->Shared->Prop),(∀vs s1,C vs s1->R vs s1)->wpAny (model prog w) A.in1 (collect v) R b s)(hz:∀vs s1,C vs s1->vs.length<100000/\(∀(c:Around) (b:Value->Shared->Prop) (P:PySem.Fin->Shared->Prop),c.units<=A.units+2->(∀a,Z vs s1 a->P (.done (.ret .none)) {s1 with heap:=sortedHeap (s1.heap.push (seqObj "list" vs.toArray 0)) s1.heap.objs.size vs a})->wpAny (model prog w) c (Builtin.«list.sort» #[[.ref s1.heap.objs.size],[]]) P b {s1 with heap:=s1.heap.push (seqObj "list" vs.toArray 0)})/\∀a,Z vs s1 a->Q (.ref s1.heap.objs.size) {s1 with heap:=sortedHeap (s1.heap.push (seqObj "list" vs.toArray 0)) s1.heap.objs.size vs a}):wpAny (model prog w) A (call (.builtin "sorted") [v]) Q E s:=by show ű kind_sorted plain_sorted entry_sorted (args_sorted1 _) ?_;unfold Builtin.«sorted»;show Qr (m:=checkCount "sorted" 1 1 _) (Zy (Qr (f _ _ λvs s1 d=>?_)));let#[i,e,h]:=hz vs s1 d;show Qr (wpAny_newList ?_ (by rw[ę];rfl'));have g:(s1.heap.push (seqObj "list" vs.toArray 0)).get? s1.heap.objs.size=!(seqObj "list" vs.toArray 0):=Ë _ rfl;change wpAny _ _ _ _ _ {s1 with heap:=s1.heap.push (seqObj "list" vs.toArray 0)};show Qr (ą (ê slot_list_sort #[_,g,rfl] entry_list_sort (e _ _ _ (Ã _) λa z=>#[_,rfl,?_]) (args_list_sort _)));show Zy #[_,rfl,h a z]
theorem u5:∀{vs:List Value} {ns ms:List Int},IntsAre vs ns->IntsAre vs ms->ns=ms|_,_,_,.nil,g=>by cases g;rfl|_,_,_,.cons n t h,g=>by cases g with|cons _ _ g=>rw[u5 h g]
theorem iB:∀{ns:List Int} {us:List Value},Vals (ns.map V.int) us->IntsAre us ns
 |[],_,r=>by rw[û]at r;cases r;show .nil|k::ks,_,r=>by rw[Ä]at r;cases r with|cons h t=>let#[t',rfl]:=(show∃t,_=Value.int k t from h);show .cons _ _ (iB t)
def stOf (h:Heap) (v:Value):gm:=open Classical in if e:∃k,Fn h (λ_=>k) v then e.choose else(0,0,[])
theorem Fn.val {h:Heap} {k:gm} (x:Fn h (λ_=>k) v):stOf h v=k/\Fn h (stOf h) v:=by
 have a:∃k,Fn h (λ_=>k) v:=#[k,x];have e:stOf h v=a.choose:=Ů a;have I:=a.choose_spec;have E:a.choose=k:=by
  let#[b,ob,f,n,C,F,c,y,d,D,o,m,w,q,p,j,t,i,l]:=x;let#[T,J,its',R,H,P,W,N,z,L,r,B,U,A,f5,u,S,s,M]:=I;rw[o]at r;cases r;rw[m]at B;cases B;rw[q]at A;cases A;rw[p]at f5;have g:=f5;simp only[List.cons.injEq,Value.int.injEq,Value.ref.injEq,and_true]at g;let#[#[K,_],#[O,_],Q]:=g;subst Q;rw[j]at u;cases u;rw[i]at s;cases s;have G:k.2.2=a.choose.2.2:=u5 l M;show(ω K (ω O G)).symm
 show#[e.trans E,?_];have:stOf h v=k:=e.trans E;let#[b,ob,f,n,C,F,c,y,d,D,o,m,w,q,p,j,t,i,l]:=x;show#[b,ob,f,n,C,F,c,y,d,D,o,m,w,q,by rw[this];show p,j,t,i,by rw[this];show l]
theorem u6 {X:Cx} (B:X.calm=true) (hu:X.A.units+3<cLine):bY X (.builtin "sorted") qM:=by
 intro ae s σ H xs us Q I rv h;let#[a,kvs,rfl,ea,hk,D,q]:=h;let#[u,rfl,ru]:=rv.one;cases(show u=Value.ref a from ru);let#[#[z,lo,xs,E,o,es,ep,h1,h2,h3,h4,h5],_]:=yw I.hok ea;have F:kvs.length=xs.length:=Ċ E;have O:es.size=kvs.length:=by rw[<-ø,h4,Qb,F]
 have T:∀{l:List (Addr×Sk×V)} {m:List (Sk×Addr×Value)},KS l m->(m.map vD).map (·.key)=l.map (λp=>Value.ref p.1)/\m.map (·.1)=l.map (·.2.1):=by intro l m r;induction r with|nil=>show#[rfl,rfl]|@cons p q ps qs hq t ih=>
   show#[?_,?_];.rw [Ä,Ä,Ä,ih.1];change Value.ref q.2.1::_=Value.ref p.1::_;rw[hq.2.1]
   .rw [Ä,Ä,ih.2,hq.1]
 let#[N,ad]:=T E;have x:es.toList.map (·.key)=kvs.map λp=>Value.ref p.1:=by rw[h4];show N
 have hF:∀p∈kvs,Fn s.heap (λ_=>p.2.1) (.ref p.1):=λp i=>by
  let#[c,e1,e2]:=hk p i;let#[_,af,r1,o1,g1,g2,n1,g3]:=(show ObjOk X.prog X.w H s.heap p.1 (.tup [.int p.2.1.1,.int p.2.1.2.1,.ref c])from I.hok _ _ e1);let#[_,K,r2,o2,f1,f2,n2,f3]:=(show ObjOk X.prog X.w H s.heap c (.tup (p.2.1.2.2.map V.int))from I.hok _ _ e2);cases r1 with|cons a1 t1=>cases t1 with|cons a2 t2=>cases t2 with
    |cons a3 t3=>
     cases t3;let#[u1,rfl]:=(show∃t,_=Value.int p.2.1.1 t from a1);let#[u2,rfl]:=(show∃t,_=Value.int p.2.1.2.1 t from a2);cases(show _=Value.ref c from a3);show#[p.1,o1,_,n1,u1,u2,c,o2,K.toArray,n2,rfl,g1,g2,g3,rfl,f1,f2,f3,by simpa using iB r2]
 have k:∀p∈kvs,stOf s.heap (.ref p.1)=p.2.1/\Fn s.heap (stOf s.heap) (.ref p.1):=λp i=>Fn.val (hF p i);have ef:(kvs.map λp=>Value.ref p.1).map (stOf s.heap)=kvs.map (·.2.1):=by rw[Á];show ħ λp i=>(k p i).1
 have Y:((kvs.map λp=>Value.ref p.1).map (stOf s.heap)).Nodup:=by rw[ef,<-ad];show h5
 show tZ (C:=λvs W=>vs=(kvs.map λp=>Value.ref p.1)/\∃h' n,W={s with heap:=h',toks:=n}/\(∀b o,s.heap.get? b=!o->h'.get? b=!o)/\s.heap.objs.size<=h'.objs.size)
  (Z:=λvs W y=>∃d:List (Addr×Sk),y=(d.map λz=>Value.ref z.1).toArray/\d.Perm (kvs.map λp=>(p.1,p.2.1))/\(d.map (·.2)).Pairwise λa b=>fP a b=true) (λE' R hR=>?_) λvs W hC=>?_;.show tY (A:=X.A.in1) (I.ok.hd B) lo h2 h3 h1 (by rw[O];show z) λh' n j hsz=>hR _ _ #[x,h',n,rfl,j,hsz]
 .obtain ⟨rfl,h',n,rfl,j,hsz⟩:=hC;show#[by rw[Qb];show D,λA' E' P hA hP=>?_,λy ⟨d,eo,L,hs⟩=>?_]
  .have kp:Kp {s with toks:=n} {s with heap:=mid (h'.push (seqObj "list" (kvs.map λp=>Value.ref p.1).toArray 0)) h'.objs.size (kvs.map λp=>Value.ref p.1),toks:=n}:=by show#[λb ob M=>?_,rfl];have lt:b<h'.objs.size:=Ç (j b ob M);unfold mid;show Yf _ (Yf _ ?_);rw[π _ _ _ _ (ã lt)];show Yf _ (j b ob M)
   show pQ (s:={s with heap:=h'.push (seqObj "list" (kvs.map λp=>Value.ref p.1).toArray 0),toks:=n}) (kd:=tuples' true) (Xm (f:=stOf s.heap)) (Ë _ rfl) (by rw[Qb];show D) (λG=>tX (f:=stOf s.heap) (by intro e;rw[e]at G;simp at G) λv U=>?_) (zQ (f:=stOf s.heap) () λv U=>?_) λy hp u=>?_;.obtain ⟨p,i,rfl⟩:=Zl.mp U;show(k p i).2.keep kp
   .obtain ⟨p,i,rfl⟩:=Zl.mp U;show(k p i).2.keep kp
   .obtain ⟨ol,e,S,J⟩:=vJ Y hp u;let#[d,L,rfl]:=yh S.symm rfl;rw[<-e];have es:(d.map λp=>Value.ref p.1).map (stOf s.heap)=d.map (·.2.1):=by rw[Á];show ħ λp i=>(k p (L.mem_iff.mp i)).1
    rw[es]at J;show hP _ #[d.map λp=>(p.1,p.2.1),by rw[Á];rfl,L.map _,by rw[Á];show J]
  .subst eo;let#[e,he]:=Tq h' (kvs.map λp=>Value.ref p.1) (d.map λz=>Value.ref z.1).toArray;have hr:H h'.objs.size=none:=I.hok.fresh hsz;show#[.ref _,_,I.laid (t':=n) (a:=h'.objs.size) (o:=.lst (d.map λz=>V.ref z.1)) (λb o M=>NZ (j b o M)) hsz (show ObjOk X.prog X.w _ _ _ (.lst _)from#[?_,_,e,kY (g:=λz:Addr×Sk=>z.1) d,he]),rfl,q _ d L hs hr];rw[Qb,L.length_eq,Qb];show ć (Β D (by decide))
end
end L2
namespace L2
open PySem PySem.Spec PyProof.Rows Nk
variable{k:Nat} {A:Around} {pins:List (Addr×Obj)}
def nJ:TE:=λ_ H Q=>∀p,H p=none->Q (.ref p) (upd H p (bA p []))
def gQ (td ty:TE):TE:=λσ H Q=>td σ H λx H1=>ty σ H1 λy H2=>∃a v,x=.ref a/\SGet H2 a y !v/\Q v H2
def Ol (ty td:TE):TE:=λσ H Q=>ty σ H λy H1=>td σ H1 λx H2=>∃a o,x=.ref a/\SGet H2 a y o/\Q (.bl o.isSome) H2
def jm (ty td:TE):TE:=λσ H Q=>ty σ H λy H1=>td σ H1 λx H2=>∃a o,x=.ref a/\SGet H2 a y o/\Q (.bl (not o.isSome)) H2
def nM (td ty tv:TE):TS:=λD σ H=>tv σ H λv H1=>td σ H1 λx H2=>ty σ H2 λy H3=>∃a H4,x=.ref a/\SPut H3 a y v H4/\D.nx σ H4
section
variable{X:Cx} {o i e value:Expr} {pos pos' tpos:Pos} {td ty tv:TE}
theorem jV:PE X (.Dict [] [] pos) nJ:=λb s c H Q I h=>wpAny_Dict_empty ⟨.ref s.heap.objs.size,_,I.laid (a:=s.heap.objs.size) (o:=bA s.heap.objs.size []) (t':=s.toks) (λ_ _ q=>Yf _ q) (Ã _)
  (Dw (ñ _) (Ė.mpr (Ne.symm (ã I.big))) .nil ⟨_,([].toArray),0,Ë _ rfl,⟨rfl,rfl,rfl⟩,rfl,rfl,Γ⟩),rfl,h _ (I.hok.fresh (Ã _))⟩
theorem Jx {f:St} {H:Hp} {s:Shared} {a:Addr} {y:V} {r:Option V} (I:Inv X pins f H s) (g:SGet H a y r):s.TypeIs (.ref a) "dict":=by let#[kvs,k,b,e,c,_]:=g;let#[_,_,xs,_,d]:=nG I.hok e c;show d.typeIs
theorem dR (r:X.A.units+2<cLine) (w:PE X o td) (hi:PE X i ty) (k:Ni i):PE X (.Subscript o i pos) (gQ td ty):=by intro b s d H Q I h;show xY PySem.F.slot_dict_getitem.lookup k (bM (w b s d H _ I h) λu t ⟨x,H1,l,j,f⟩=>bM (hi b t d H1 _ l f) λD B ⟨y,H2,e,q,a,v,n,g,m⟩=>?_);subst n;obtain rfl:u=Value.ref a:=j;show#[Jx e g,vG r e g q λC z p c=>#[v,H2,p,c,m]]
theorem Om (p:X.A.units+2<cLine) (hi:PE X i ty) (r:PE X o td):PC X .In i o (Ol ty td):=by
 intro b s c H Q I h;show bM (hi b s c H _ I h) λw q ⟨y,H1,f,n,d⟩=>bM (r b q c H1 _ f d) λu v ⟨x,H2,k,e,a,ov,l,g,j⟩=>?_;subst l;obtain rfl:u=Value.ref a:=e;show U7 p k g n λt m=>#[.bl ov.isSome,H2,m,rfl,j]
theorem jn (p:X.A.units+2<cLine) (hi:PE X i ty) (r:PE X o td):PC X .NotIn i o (jm ty td):=by
 intro b s c H Q I h;show bM (hi b s c H _ I h) λw q ⟨y,H1,f,n,d⟩=>bM (r b q c H1 _ f d) λu v ⟨x,H2,k,e,a,ov,l,g,j⟩=>?_;subst l;obtain rfl:u=Value.ref a:=e;show Dy p k g n λt m=>#[.bl (not ov.isSome),H2,m,rfl,j]
theorem jW (m:X.A.units+2<cLine) (n:PE X o td) (hi:PE X i ty) (j:PE X value tv) (w:swapsWith value (!(.Subscript o i pos')) pos.line X.env=pure false):PS X (.Assign [.Subscript o i pos'] value pos) (nM td ty tv):=by
 intro b s c H D I h;show wpAny_Assign_Subscript (bM (j b s c H _ I h) λr l ⟨v,H1,e,rv,p⟩=>bM (n b l c H1 _ e p) λu z ⟨x,H2,B,q,f⟩=>bM (hi b z c H2 _ B f) λJ K ⟨y,H3,k,E,a,t,C,g,F⟩=>?_) w;subst C;obtain rfl:u=Value.ref a:=q;show vH m k g E rv λG d=>#[c,t,d,F]
def qN (td ty tx:TE):TE:=λσ H Q=>td σ H λx H1=>∃a kvs,x=.ref a/\Rd H1 a (bA a kvs)/\ty σ H1 λy H2=>tx σ H2 λz H3=>∃o,SGet H3 a y o/\Q (o.getD z) H3
theorem u9 {e f:Expr} {i c:Pos} {tx:TE} (N:X.A.units+2<cLine) (O:PE X o td) (P:PE X e ty) (J:PE X f tx) (m:M2 X o "get" i e f c):PE X (.Call (.Attribute o "get" i) [e,f] [] c) (qN td ty tx):=by
 intro b s j H Q I h;show Ν m.base m.few m.line Ķ Ũ PySem.F.type_dict_get (bM (O b s j H _ I h) λu M ⟨x,H1,n,w,a,kvs,G,d,v⟩=>?_);subst G;obtain rfl:u=Value.ref a:=w;let#[#[_,lo,_,_,l,es,T,p,q,Z,_],_]:=yw n.hok d;show#[#[l,p,q.1],λa1 E=>by cases E;show#[l,p,q.2.1],?_];rw[m.trees];show Ĕ rfl (ō (į (bM (P b M j H1 _ n v) λiv B ⟨y,H2,D,K,C⟩=>į (bM (J b B j H2 _ D C) λU S ⟨z,H3,L,t,ov,g,R⟩=>ũ ?_))));show Ju N L g K t λW Y r k=>#[_,H3,r,k,R]
theorem bT (a:Room k A):A.units+2<cLine:=Ù (Ų (by decide:2<=64) _) a.units
theorem Oo (a:Room k A):A.units+3<cLine:=Ù (Ų (by decide:3<=64) _) a.units
end
end L2
end
section
namespace Nk
open PySem PySem.Spec PyProof.Rows
variable{es:Array DictEntry} {Q:Value->Shared->Prop}
section
variable{prog:Program} {w:World} {A:Around} {E:Value->Shared->Prop} {s:Shared}
theorem Jy {d:Addr} {a:Obj} {i:Nat} (lo:(d==sysModules)=false) (c:a.ExactDict) (e:s.heap.get? d=!a) (b:a.data=.dict es i) (f:(es.size:Int)<2^63)(h:∀t tk,Q (.int es.size t) {s with toks:=tk}):wpAny (model prog w) A (call (.builtin "len") [.ref d]) Q E s:=by
 have T:s.TypeIs (.ref d) "dict":=#[a,e,c.1];show ű kind_len plain_len entry_len (args_len1 _) ?_;unfold Builtin.«len»;show Qr (m:=oneArg "len" _) (Zy ?_);show Qr (m:=callSpecial? (.ref d) (Str.ofString "__len__")) (wpAny_callSpecial?_slot (name:=Str.ofString "__len__") T PySem.F.slot_dict_len (ê PySem.F.slot_dict_len T PySem.F.entry_dict_len ?_ (PySem.F.args_dict_len_1 _)));unfold Builtin.«dict.__len__» Builtin.Dict.dictSlotNone;show Qr (Qr (ĭ T ?_));change wpAny _ _ (pure (Value.ref d)) _ _ _;show Zy ?_;change wpAny _ _ (dictSize d>>=_) _ _ _;have g:¬((d==sysModules)=true):=by rw[lo];show Ê
 unfold dictSize;show Qr (Qr (č e b (Zy ?_)));change wpAny _ _ (Builtin.Dict.pendingCount d>>=_) _ _ _;unfold Builtin.Dict.pendingCount;show Qr ?_;rw[if_neg g];show Zy ?_;change wpAny _ _ (retInt (((es.size:Nat):Int)+((0:Nat):Int))) _ _ _;rw[show((es.size:Nat):Int)+((0:Nat):Int)=(es.size:Int)by rfl'];show wpAny_ret_mkInt ?_;show Qr (ą (Zy ?_));show Qr (ő ?_);change wpAny _ _ (if((es.size:Nat):Int)<0 then _ else _) _ _ _;rw[if_neg ()];change wpAny _ _ (if((es.size:Nat):Int)>=2^63 then _ else _) _ _ _;rw[if_neg ()];show Qr (wpAny_mkInt (Zy #[_,rfl,h _ _]))
end
end Nk
end
section
namespace Sy
open PySem PyProof.Rows
theorem pW {K:Type} [DecidableEq K] {xs:List (K×Addr×Value)} {k:K} (h:k∉xs.map (·.1)):atKey xs k=none:=by unfold atKey;rw[Ξ,List.find?_eq_none];intro x a e;show h (Zl.mpr #[x,a,ò e])
end Sy
end
section
namespace St
open PySem PySem.Spec PyProof.Rows
def DK (h:Heap) (a:Addr) (es:Array (Int×Value)) (ep:Nat) (t:SetTable):Prop:=∃o,h.get? a=!o/\o.ExactSet/\o.data=.set es ep t/\t.fits es.size=true
def YW (h:Heap) (I:Addr) (f0:Value) (i:Nat) (a:Addr) (n ep:Nat):Prop:=∃o,h.get? I=!o/\o.cls=.type "set_iterator"/\o.data=.fields ([f0,.int i 0,.ref a,.int n 0,.int ep 0].toArray)
section
variable{prog:Program} {w:World} {A:Around} {E:Value->Shared->Prop} {s:Shared}
structure Go (prog:Program) (w:World) (A:Around) (s:Shared) (a:Addr) (vs:List Value) (n:Nat) (I:Addr) (s1:Shared):Prop where
 ex:∃(fp:List Addr) (P:Nat->Value->Prop) (St:Nat->Heap->Prop),Walks prog w A I fp [I] n P St/\St 0 s1.heap/\(∀b∈fp,b=a\/s.heap.objs.size<=b)/\∀acc:Array Value,ItemsOf P acc n->acc.toList.Perm vs
 keep:∀b o,s.heap.get? b=!o->s1.heap.get? b=!o
 fresh:s.heap.objs.size<=I
 rest:∃d,s1={s with heap:=s1.heap,drawn:=d}
def yX (prog:Program) (w:World) (a:Addr) (es:Array (Int×Value)) (ep:Nat) (t:SetTable):Prop:=∀{A:Around} {E:Value->Shared->Prop} {s:Shared} {Q:Value->Shared->Prop},A.handled=none->DK s.heap a es ep t->(∀I s1,Go prog w A s a (es.toList.map (·.2)) es.size I s1->Q (.ref I) s1)->wpAny (model prog w) A (pyIter (.ref a)) Q E s
noncomputable def tx:Value->Str
 |.str x _=>x|_=>#[([].toArray)]
structure SetS (prog:Program) (w:World) (h:Heap) (a:Addr) (ls:List Str) (es:Array (Int×Value)) (ep:Nat) (t:SetTable):Prop where
 at_:DK h a es ep t
 el:ElemsOf (PySem.strKind prog w) es.toList
 pm:(es.toList.map λe=>tx e.2).Perm ls
 nd:ls.Nodup
 sz:es.size<4096
 led:w.params.followText "set-order"=false->t.led=true
 pl:1<=es.size->t.plain=false
end
end St
end
section
namespace L2
open PySem PySem.Spec PyProof.Rows
def DN:List V->Hp->VK->Prop:=λxs H Q=>∃(a:Addr) (kvs:List (List Key×V)),xs=[.ref a]/\H a=!(.dT kvs)/\Q (.int kvs.length) H
theorem zR {X:Cx}:bY X (.builtin "len") DN:=by
 intro d s m H xs us Q I rv h;let#[a,kvs,rfl,e,q]:=h;let#[u,rfl,f]:=rv.one;cases(show u=Value.ref a from f);let#[z,lo,xs,c,o,es,l,i,j,k,g,_]:=pH I.hok e;have b:es.size=kvs.length:=by rw[<-ø,g,Qb,Ċ c]
 show Nk.Jy lo j i k (by rw[b];rw[ę]at z;rfl') λt n=>?_;rw[b];show#[.int kvs.length,H,I.tok _,#[t,rfl],q]
end L2
end
section
namespace Tb
open PySem
noncomputable def g5:Nat->Nat
 |0=>0|n+1=>5*g5 n+1
noncomputable def f5 (M:Nat):Nat->Nat->Nat
 |0,x=>x%M|n+1,x=>(5*f5 M n x+1)%M
def YX (xs:Array Nat):Prop:=∀i k,i<k->k<xs.size->xs.getD i 0<xs.getD k 0
noncomputable def lp (mask:Nat) (h:Int):Nat->Nat×Nat
 |0=>(SetTable.bits h%(mask+1),SetTable.bits h)|n+1=>SetTable.leap mask (lp mask h n).1 (lp mask h n).2
noncomputable def rn (mask:Nat) (h:Int) (n:Nat):Nat:=SetTable.runEnd mask (lp mask h n).1-(lp mask h n).1
noncomputable def po (mask:Nat) (h:Int) (n r:Nat):Nat:=(lp mask h n).1+r
noncomputable def pr (mask:Nat) (h:Int) (n r:Nat):SetTable.Probe:={j:=po mask h n r,more:=rn mask h n-r,i:=(lp mask h n).1,perturb:=(lp mask h n).2,dummy:=none}
def Yw (t:SetTable) (j:Nat):Prop:=∃i:Nat,t.place[i]?=!j
def U9 (n r n' r':Nat):Prop:=n<n'\/(n=n'/\r<r')
def Pass (t:SetTable) (ha:Nat->Int) (h:Int) (n0 r0 n r:Nat):Prop:=∀n' r',r'<=rn t.mask h n'-> ¬U9 n' r' n0 r0->U9 n' r' n r->∃i:Nat,t.place[i]?=!(po t.mask h n' r')/\ha i≠h
inductive Meets (t:SetTable) (ha:Nat->Int) (h:Int) (n0 r0:Nat):SetTable.Met->Prop|empty {n r:Nat} (hr:r<=rn t.mask h n) (ps:Pass t ha h n0 r0 n r) (no:¬Yw t (po t.mask h n r)):Meets t ha h n0 r0 (.empty (po t.mask h n r) none)|cand {n r i:Nat} (hr:r<=rn t.mask h n) (ge:¬U9 n r n0 r0) (ps:Pass t ha h n0 r0 n r) (hi:t.place[i]?=!(po t.mask h n r)) (he:ha i=h):Meets t ha h n0 r0 (.candidate (po t.mask h n r) i (t.advance (pr t.mask h n r)))
section
variable{β:Type}
structure Ok (t:SetTable) (es:Array (Int×β)):Prop where
 pw:∃k,t.mask+1=2^k
 dm:t.dummies=([].toArray)as:YX t.place
 le:∀i j:Nat,t.place[i]?=!j->j<=t.mask
 sz:t.place.size=es.size
 rm:es.size<=t.mask
 pt:∀(i j:Nat) e,t.place[i]?=!j->es[i]?=!e->∃n r,r<=rn t.mask e.1 n/\po t.mask e.1 n r=j/\∀n' r',r'<=rn t.mask e.1 n'->U9 n' r' n r->Yw t (po t.mask e.1 n' r')
end
noncomputable def stp (mask:Nat) (acc:Option (Array (Option Nat)×Nat)) (h:Int):Option (Array (Option Nat)×Nat):=do
 let(owner,k) <-acc
 let j<-SetTable.layClean.free mask owner (SetTable.turns mask) (SetTable.bits h%(mask+1)) (SetTable.bits h)
 pure (owner.setIfInBounds j !k,k+1)
structure Lay (mask:Nat) (hs:List Int) (owner:Array (Option Nat)):Prop where
 size:owner.size=mask+1
 val:∀j k:Nat,owner[j]?=!(!k)->k<hs.length
 uq:∀j j' k:Nat,owner[j]?=!(!k)->owner[j']?=!(!k)->j=j'
 ex:∀(k:Nat) h,hs[k]?=!h->∃n r,r<=rn mask h n/\owner[po mask h n r]?=!(!k)/\∀n' r',r'<=rn mask h n'->U9 n' r' n r->∃k',owner[po mask h n' r']?=!(!k')
noncomputable def lv (owner:Array (Option Nat)) (m:Nat):List (Nat×Nat):=(List.range m).filterMap λj=>(owner.getD j none).map (j,·)
end Tb
end
section
namespace Ts
open PySem PySem.Spec PyProof.Rows
section
variable{prog:Program} {w:World} {A:Around} {E:Value->Shared->Prop} {s:Shared} {K:Type} [DecidableEq K] {knd:HeapKind prog w K}
structure SetK (knd:HeapKind prog w K) (h:Heap) (a:Addr) (ks:List (K×Addr)) (es:Array (Int×Value)) (ep:Nat) (t:SetTable):Prop where
 at_:St.DK h a es ep t
 ok:Tb.Ok t es
 lo:es.size*5<t.mask*3
 ms:t.mask=7\/t.mask=31\/t.mask=127\/t.mask=511\/t.mask=2047\/t.mask=8191
 ee:es.toList=ks.map λp=>(knd.hash p.1,Value.ref p.2)is:∀p∈ks,knd.is h p.1 p.2
 nd:(ks.map (·.1)).Nodup
 led:w.params.followText "set-order"=false->t.led=true
structure Calm (knd:HeapKind prog w K):Prop where
 cs:∀{A:Around} {E:Value->Shared->Prop} {s:Shared} {k:K} {a:Addr} {Q:Bool->Shared->Prop},knd.is s.heap k a->Q false s->wpAny (model prog w) A (ofAClassStatement 8 (.ref a)) Q E s
 hv:∀{A:Around} {E:Value->Shared->Prop} {s:Shared} {k:K} {a:Addr} {Q:Bool->Shared->Prop},knd.is s.heap k a->(∀b,Q b s)->wpAny (model prog w) A (hashByValue 8 (.ref a)) Q E s
 kp:∀{h h':Heap} {k:K} {a d:Addr} {o:Obj},knd.is h k a->h.get? d=!o->o.cls≠.type "tuple"->(∀c o',c≠d->h.get? c=!o'->h'.get? c=!o')->knd.is h' k a
 ke:∀{h h':Heap} {k:K} {a:Addr},knd.is h k a->(∀c o',h.get? c=!o'->h'.get? c=!o')->knd.is h' k a
end
end Ts
end
section
namespace Ck
open PySem PySem.Spec PyProof.Rows Nk
abbrev Ua:=Int×gm
section
variable{prog:Program} {w:World} {A:Around} {E:Value->Shared->Prop} {s:Shared}
def YZ (prog:Program) (w:World) (h:Heap) (k:Ua) (a:Addr):Prop:=∃o n v1 b,h.get? a=!o/\o.cls=.type "tuple"/\o.data=.seq ([v1,.ref b].toArray) n/\(intKind prog w).is k.1 v1=true/\IsSt prog w h k.2 b
noncomputable def Ub (k:Ua):Int:=reduceHash (Builtin.Tuple.tupleHashOf [hashInt k.1,pU k.2])
end
end Ck
end
section
namespace L2
open PySem PySem.Spec PyProof.Rows Sx Nk Ck
variable{A:Around}
abbrev yz:=Int×Int×Int×List Int
def Yx (H:Hp) (b:Addr) (k:yz):Prop:=∃c,H b=!(.tup [.int k.1,.ref c])/\StA H c k.2
noncomputable def Xn (x:yz×Addr×Value):DictEntry:=#[Ub x.1,.ref x.2.1,x.2.2]
def Z0 (a:Addr) (kvs:List (Addr×yz×V)) (h:Heap):Prop:=kvs.length<=sizeLine/\(a==sysModules)=false/\∃xs:List (yz×Addr×Value),Paired (λ(p:Addr×yz×V) (q:yz×Addr×Value)=>p.2.1=q.1/\p.1=q.2.1/\RelV p.2.2 q.2.2) kvs xs/\∃o es ep,h.get? a=!o/\o.ExactDict/\o.data=.dict es ep/\es.toList=xs.map Xn/\(xs.map (·.1)).Nodup
abbrev Xo (a:Addr) (kvs:List (Addr×yz×V)):HO:=.ext (Z0 a kvs)
noncomputable def Xp (kvs:List (Addr×yz×V)) (k:yz):Option V:=(kvs.find? λp=>decide (p.2.1=k)).map (·.2.2)
noncomputable def Xq (kvs:List (Addr×yz×V)) (b:Addr) (k:yz) (v:V):List (Addr×yz×V):=if(Xp kvs k).isSome then kvs.map λp=>if p.2.1=k then(p.1,p.2.1,v)else p else kvs++[(b,k,v)]
def Xr (H:Hp) (a:Addr) (y v:V) (H':Hp):Prop:=∃kvs k b,H a=!(Xo a kvs)/\(∀p∈kvs,Yx H p.1 p.2.1)/\y=.ref b/\Yx H b k/\kvs.length<sizeLine/\H'=upd H a (Xo a (Xq kvs b k v))
section
variable{P:Program} {w:World} {H:Hp} {h:Heap} {a b:Addr}
abbrev KC:List (Addr×yz×V)->List (yz×Addr×Value)->Prop:=Paired λp q=>p.2.1=q.1/\p.1=q.2.1/\RelV p.2.2 q.2.2
end
def Yy:TE:=λ_ H Q=>∀p,H p=none->Q (.ref p) (upd H p (Xo p []))
def Yz (td ty tv:TE):TS:=λD σ H=>tv σ H λv H1=>td σ H1 λx H2=>ty σ H2 λy H3=>∃a H4,x=.ref a/\Xr H3 a y v H4/\D.nx σ H4
section
variable{X:Cx} {o i e value:Expr} {pos pos' tpos:Pos} {td ty tv:TE}
theorem Jz {k:Nat} (a:Room k A):A.units+12<cLine:=Ù (Ų (by decide:12<=64) _) a.units
end
end L2
end
section
namespace L2
open PySem PySem.Spec PyProof.Rows Nk
variable{H:Hp} {a:Addr} {tg:Expr} {w:World} {S:Heap->Prop} {es:Array DictEntry} {kvs:List (Addr×Sk×V)} {pins:List (Addr×Obj)}
section
variable{P:Program} {w:World} {H:Hp} {h:Heap} {a:Addr} {S:Heap->Prop} {od:Obj}
theorem HOk.freezeE (x:HOk P w H h) (g:H a=!(.ext S)) (j:h.get? a=!od):HOk P w (upd H a (.frz od (.ext S))) h:=by
 have f:∀c y,H c=!(.own y)->upd H a (.frz od (.ext S)) c=!(.own y):=λc y q=>by rw[az (bD q g (by intro z;cases z))];show q
 have d:∀c xs,H c=!(.tup xs)->upd H a (.frz od (.ext S)) c=!(.tup xs):=λc xs q=>by rw[az (bD q g (by intro z;cases z))];show q
 intro b u e;by_cases i:b=a;.rw [i]at e⊢;rw[ao]at e;cases e;show#[j,(x a _ g).stay (λc v _ q=>q) (λc q=>f c _ q) λc xs q=>d c xs q]
 .rw [az i]at e;show(x b u e).stay (λc v _ q=>q) (λc q=>f c _ q) λc xs q=>d c xs q
end
theorem Inv.freezeE {X:Cx} {d:St} {s:Shared} {e:Obj} (I:Inv X pins d H s) (c:H a=!(.ext S)) (g:s.heap.get? a=!e):Inv X pins d (upd H a (.frz e (.ext S))) s:=by
 show I.call' (ch:=[]) rfl #[λb o q _ _ _=>q,λb o q _ _ _=>#[o.slots,q],λb o q n _=>?_,λb o q _=>#[o,q],λb xs q=>?_,λb o u q=>?_,λb ps q=>#[([].toArray),?_]] (I.hok.freezeE c g) I.bare λb f=>nomatch f;.rw [az (λz=>by rw[z,c]at n;cases n)];show n
 .rw [az (bD q c (by intro z;cases z))];show q
 .rw [az (bD q c (by intro z;cases z))];show q
 .rw [az (bD q c (by intro z;cases z)),q];simp
theorem lr {P:Program} {h:Heap} {b:Obj} (j:HOk P w H h) (f:H a=!(.frz b (bA a kvs))):h.get? a=!b/\b.ExactDict/\(a==sysModules)=false/\∃es ep xs,b.data=.dict es ep/\KS kvs xs/\es.toList=xs.map vD/\es.size=kvs.length:=by
 let#[d,#[_,y,xs,r,o,es,ep,c,g,i,e,_],_]:=(show ObjOk P w H h a (.frz b (bA a kvs))from j a _ f);rw[d]at c;cases c;show#[d,g,y,es,ep,xs,i,r,e,by rw[<-ø,e,Qb];show(Ċ r).symm]
noncomputable def vK (od:Obj) (a:Addr) (kvs:List (Addr×Sk×V)):It where
 go:=λi H=>H a=!(.frz od (bA a kvs))/\i<kvs.length
 yld:=λi H v H'=>H'=H/\∃p,kvs[i]?=!p/\v=.ref p.1
 stop:=λi H=>H a=!(.frz od (bA a kvs))/\kvs.length<=i
theorem vL {P:Program} {K:W.Frag} (l a:Addr) {T:Obj} {R:Nat} (f:T.data=.dict es R):Turn P w K tg (vK T a kvs) [l] l (λi h=>h.IsKeyIter l a i es.size R)where
 mem:=by simp
 obj:=λi h st b j=>by
  let#[o,e,c,d]:=st;have e':b=l:=by simpa using j
  rw[e'];show#[o,e,λv z=>by rw[d]at z;cases z]
 keep:=λi h h' st k=>by let#[o,e,r]:=st;show#[o,k l (by simp) o e,r]
 item:=by
  intro X y C O Y i g s S H E I u st A;subst y C O;let#[x,hi]:=A;let#[B,_,_,F,L,xs,n,m,U,hsz]:=lr I.hok x;rw[f]at n;cases n;let#[D,Q,f2,G,M,f5]:=u l (by simp);show jP st B f () λh' t hs=>?_;have I1:Inv X g S H {s with heap:=h',toks:=s.toks}:=I.turned (λb o j e=>hs.extBut b o j e) D Q G M f5;let#[o,e,J,d]:=id t;let#[p,q,hk,hx,_,r2,_]:=gP i m hi;have N:(es[i]'(by rfl')).key=.ref p.1:=by
   have:es.toList[i]?=!(vD q):=by rw[U,Xs,hx];rfl
   rw[î,ö ()]at this;rw[Ô this,r2];rfl
  show#[_,rfl,oX (s:={s with heap:=h'}) e J d (by decide) ⟨.ref p.1,H,I1,by rw[N];rfl,#[rfl,p,hk,rfl],t,λb j=>(u b j).1⟩]
 done:=by
  intro X y C O Y i g s S H E I u st A;subst y C O;let#[x,hi]:=A;let#[B,_,_,F,L,xs,n,m,U,hsz]:=lr I.hok x;rw[f]at n
  cases n;let#[D,Q,f2,G,M,f5]:=u l (by simp);show lV (I.ok.hd Y) st B f () λh' Z=>#[rfl,I.turned (t':=s.toks) (λb o j e=>Z b o j e) D Q G M f5]
 self:=λ_ _ _ _ _ st h=>ū st h
def nO (tl:TE):TI:=λσ H R=>tl σ H λx H1=>∃a kvs,x=.ref a/\((H1 a=!(bA a kvs)/\∀od,R (vK od a kvs) (upd H1 a (.frz od (bA a kvs))))\/∃od,H1 a=!(.frz od (bA a kvs))/\R (vK od a kvs) H1)
theorem nP {X:Cx} {l:Expr} {r:TE} (z:PE X l r):PI X tg l (nO r):=by
 intro c s m H R I h;show bM (z c s m H _ I h) λv g ⟨x,H1,k,C,u⟩=>?_;let#[a,kvs,rfl,q]:=u;cases C;let#[f,H2,i,d,q]:∃f H2,Inv X c m H2 g/\H2 a=!(.frz f (bA a kvs))/\R (vK f a kvs) H2:=by
  rcases q with⟨d,q⟩|⟨f,d,q⟩;.obtain ⟨⟨_,_,_,_,o,es,t,A,_⟩,_⟩:=(show ObjOk X.prog X.w H1 g.heap a (bA a kvs)from k.hok a _ d);show#[o,_,k.freezeE d A,ao,q o]
  .show #[f,H1,k,d,q]
 let#[p,B,j,es,t,xs,n,_]:=lr i.hok d;show j5 j #[f,p,B.1] p n ?_;show#[g.heap.objs.size,[g.heap.objs.size],_,_,_,rfl,i.kept (t':=g.toks) λb o e=>Yf _ e,vL _ a n,#[_,Ë _ rfl,rfl,rfl],λb y=>?_,q];rw[Zp.mp y];show i.fpOk (Ã _) (i.hok.fresh (Ã _))
end L2
end
section
namespace Nk
open PySem
variable{Q:Option Value->Shared->Prop}
section
variable{prog:Program} {w:World} {A:Around} {E:Value->Shared->Prop} {s:Shared} {it d v:Addr} {i ep:Nat} {od:Obj} {es:Array DictEntry} {ok ov:Value}
theorem JB {Q:Value->Shared->Prop} (lo:(d==sysModules)=false) (a:od.ExactDict) (b:s.heap.get? d=!od)(h:Q (.ref s.heap.objs.size) {s with heap:=s.heap.push {cls:=.type "dict_items",data:=.fields ([.ref d].toArray)}}):wpAny (model prog w) A (call (.builtin "dict.items") [.ref d]) Q E s:=by have T:s.TypeIs (.ref d) "dict":=#[od,b,a.1];show ê F.slot_dict_items T F.entry_dict_items ?_ (F.args_dict_items_1 _);unfold Builtin.«dict.items» Builtin.Dict.noArgs;show Qr (Qr (ĭ T (Zy (show wpAny _ _ (Builtin.Dict.showsAll d>>=_) _ _ s from ?_))));unfold Builtin.Dict.showsAll;rw[lo];show Qr (Zy (Qr (õ (Zy #[_,rfl,h]))))
theorem JC {Q:Value->Shared->Prop} (b:s.heap.IsItemsView v d) (c:s.heap.get? d=!od) (a:od.data=.dict es ep)(h:Q (.ref s.heap.objs.size) {s with heap:=s.heap.push {cls:=.type "dict_itemiterator",data:=.fields ([.none,.bool false,.ref d,.int 0 0,.int es.size 0,.int ep 0,.none,.none].toArray)}}):wpAny (model prog w) A (pyIter (.ref v)) Q E s:=by let#[o,e,_,f]:=id b;show wpAny_pyIter_slot b.typeIs F.slot_dict_items_iter (ê F.slot_dict_items_iter b.typeIs F.entry_dict_items_iter ?_ (F.args_dict_items_iter_1 _));unfold Builtin.«dict_items.__iter__» Builtin.Dict_items.dictOf Builtin.Dict_items.newIterator;show Qr (Zy (Qr (Qr (ÿ e f (x:=.ref d) rfl (Zy (Qr (Qr (č c a (Qr (Š c a ?_))))))))));simp only[show Builtin.Dict_items.ownsTuple "dict_itemiterator"=true by decide,Ģ];show õ (Zy #[_,rfl,"dict_itemiterator",_,#[_,Ë _ rfl,rfl],F.slot_dict_itemiterator_next.lookup,?_]) (by simp[sizeOk,Builtin.Dict_items.ownedTupleFields,ę]);simpa[rawInt,Builtin.Dict_items.ownedTupleFields]using h
theorem JD (f:IsItemIter s.heap it d i es.size ep ok ov) (m:s.heap.get? d=!od) (k:od.data=.dict es ep) (hi:i<es.size)(K:∀h',IsItemIterOut h' it d (i+1) es.size ep es[i].key es[i].val s.heap.objs.size->h'.get? s.heap.objs.size=!{cls:=.type "tuple",data:=.seq ([es[i].key,es[i].val].toArray)}->h'.objs.size=s.heap.objs.size+1->(∀b o,b≠it->s.heap.get? b=!o->h'.get? b=!o)->Q (!(.ref s.heap.objs.size)) {s with heap:=h'}):wpAny (model prog w) A (pyNext (.ref it)) Q E s:=by
 have T:s.TypeIs (.ref it) "dict_itemiterator":=#[_,f,rfl];unfold pyNext;show Qr (Œ (wpAny_callSpecial?_slot (name:=Str.ofString "__next__") T Ĵ (ê Ĵ T F.entry_dict_itemiterator_next ?_ (F.args_dict_itemiterator_next_1 _))));have S:Builtin.Dict_items.ownsTuple "dict_itemiterator"=true:=by decide
 have X:¬(Value.ref d==Value.none)=true:=Ê;have Y:¬((i:Int)<0):=();have H:∀{s':Shared} {O:Around} {L:Value->Shared->Prop} {R:String->Shared->Prop},s'.TypeIs (.ref it) "dict_itemiterator"->R "dict_itemiterator" s'->wpAny (model prog w) O (typeNameOfWhole (.ref it)) R L s':=λa b=>wpAny_typeNameOfWhole_itemiter a b;repeat(first
  |(show H T ?_)|(show wpAny_fieldsOf f rfl ?_)|(show č m k ?_)|(show Š m k ?_)|(show Zy ?_)|(show Qr ?_)|(simp only[S,Ģ])|(rw[if_neg X])|(rw[if_neg (by simp)]))
 rw[Ó,ö hi];dsimp only;show Qr (Qr (H T (Zy (Qr (Ο T ?_)))));change wpAny (model prog w) A.in1 (do setField (.ref it) 3 (rawInt ((i:Int)+1));_) _ _ s;show Qr (þ f (by simp) λh j l=>?_);replace l:Heap.SameBut it s.heap h:=l;replace j:IsItemIter h it d (i+1) es.size ep ok ov:=by unfold IsItemIter;rw[show((i+1:Nat):Int)=(i:Int)+1 by rfl'];simpa[rawInt]using j
 have z:Shared.TypeIs {s with heap:=h} (.ref it) "dict_itemiterator":=⟨_,j,rfl⟩;show Qr (ą (Qr (Ο z (Qr (Ο z ?_)))));change wpAny (model prog w) _ (Builtin.Dict_items.pairFromOwner (.ref it) 6 es[i].key es[i].val) _ _ {s with heap:=h};unfold Builtin.Dict_items.pairFromOwner Builtin.Dict_items.ownedTupleIsFree;show Qr (wpAny_newTuple ?_);have r:h.objs.size=s.heap.objs.size:=l.1;have B:it<s.heap.objs.size:=Ç f;let#[g,v,W,N,U,G]:∃g,IsItemIter g it d (i+1) es.size ep ok ov/\g.get? s.heap.objs.size=!{cls:=.type "tuple",data:=.seq ([es[i].key,es[i].val].toArray)}/\g.objs.size=s.heap.objs.size+1/\(∀b o,b≠it->s.heap.get? b=!o->g.get? b=!o)/\g=h.push {cls:=.type "tuple",data:=.seq ([es[i].key,es[i].val].toArray)}:=#[_,Yf _ j,by rw[<-r];show Ë _ rfl,by rw[ģ,r],λb o c e=>Yf _ (l.extBut b o c e),rfl];rw[r];change wpAny (model prog w) _ _ _ _ {s with heap:=h.push {cls:=.type "tuple",data:=.seq ([es[i].key,es[i].val].toArray)}};rw[<-G];clear G j l z r;show Qr (Qr (ÿ v rfl (x:=.none) rfl (Zy ?_)));simp only[Ģ];show Qr (ÿ v rfl (x:=ok) rfl (Qr (ÿ v rfl (x:=ov) rfl ?_)));show Qr (þ v (by simp) λJ P t=>Qr (þ P (by simp) λI M n=>Qr (þ M (by simp) λD g5 u=>Qr (þ g5 (by simp) λp y q=>?_))));replace y:IsItemIterOut p it d (i+1) es.size ep es[i].key es[i].val s.heap.objs.size:=y;replace t:Heap.SameBut it g J:=t;replace n:Heap.SameBut it J I:=n;replace u:Heap.SameBut it I D:=u;replace q:Heap.SameBut it D p:=q;have C:∀b o,b≠it->g.get? b=!o->p.get? b=!o:=λb o c e=>q.extBut b o c (u.extBut b o c (n.extBut b o c (t.extBut b o c e)));show Qr (ő (Zy (Zy #[_,rfl,Zy (K p y (C _ _ (ı B) W) (by rw[q.1,u.1,n.1,t.1,N]) λb o c e=>C b o c (U b o c e))])))
theorem Oq (h:A.handled=none) (c:IsItemIter s.heap it d i es.size ep ok ov) (e:s.heap.get? d=!od) (f:od.data=.dict es ep) (hi:es.size<=i)(l:∀h',Heap.ExtBut it s.heap h'->Q none {s with heap:=h'}):wpAny (model prog w) A (pyNext (.ref it)) Q E s:=by
 have T:s.TypeIs (.ref it) "dict_itemiterator":=#[_,c,rfl];unfold pyNext;show Qr (Œ (wpAny_callSpecial?_slot (name:=Str.ofString "__next__") T Ĵ (ê Ĵ T F.entry_dict_itemiterator_next ?_ (F.args_dict_itemiterator_next_1 _))));have o:Builtin.Dict_items.ownsTuple "dict_itemiterator"=true:=by decide
 have r:¬(Value.ref d==Value.none)=true:=Ê;have g:∀{s':Shared} {j:Around} {n:Value->Shared->Prop} {R:String->Shared->Prop},s'.TypeIs (.ref it) "dict_itemiterator"->R "dict_itemiterator" s'->wpAny (model prog w) j (typeNameOfWhole (.ref it)) R n s':=λa b=>wpAny_typeNameOfWhole_itemiter a b
 repeat(first
  |(show g T ?_)|(show wpAny_fieldsOf c rfl ?_)|(show č e f ?_)|(show Š e f ?_)|(show Zy ?_)|(show Qr ?_)|(simp only[o,Ģ])|(rw[if_neg r])|(rw[if_neg (by simp)]))
 rw[Ó,Ŝ hi];dsimp only;show Qr (Qr (g T (Zy ?_)));change wpAny (model prog w) A.in1 (do setField (.ref it) 2 .none;_) _ _ s;show Qr (Ζ c rfl (by simp) (Qr ?_));have fin:∀h' x,Heap.ExtBut it s.heap h'->(∃ob,h'.get? x=!ob/\ob.cls=.type "StopIteration")->wpAny (model prog w) A (do let b<-isInstance (.ref x) (.type "StopIteration");if b=true then pure none else throw (.ref x)) Q E {s with heap:=h'}:=λh' x q ⟨ob,k,p⟩=>Qr (Ŀ (T:="StopIteration") (b:=true) ⟨ob,k,p⟩ isSubtype_stop (Zy (l h' q)));simp only[newExc,newTuple,raiseNew];repeat(first
  |show fin _ _ (((Ă ..).extBut.push _).push _) #[_,Ë _ rfl,rfl]|(show õ ?_ (by size_fits))|(show wpAny_handled ?_)|(show wpAny_throw ?_)|(show Zy ?_)|(rw[show A.in1.handled=none from h])|(show Qr (m:=firstArgMember _ _) (wpAny_of_eq (a:=Value.none) (by first|rfl|(simp only[firstArgMember];rfl)) ?_))|(show Qr ?_))
end
end Nk
namespace L2
open PySem PySem.Spec PyProof.Rows Nk
variable{k:Nat} {w:World} {tpos:Pos} {elts:List Expr} {es:Array DictEntry} {kvs:List (Addr×Sk×V)}
noncomputable def vM (od:Obj) (a:Addr) (kvs:List (Addr×Sk×V)):It where
 go:=λi H=>H a=!(.frz od (bA a kvs))/\i<kvs.length
 yld:=λi H v H'=>∃p q,H p=none/\kvs[i]?=!q/\v=.ref p/\H'=upd H p (.tup [.ref q.1,q.2.2])
 stop:=λi H=>H a=!(.frz od (bA a kvs))/\kvs.length<=i
theorem uc {P:Program} {K:W.Frag} (j a:Addr) {S:Obj} {R:Nat} (l:S.data=.dict es R):Turn P w K (.Tuple elts k tpos) (vM S a kvs) [j] j (λi h=>∃ok ov,IsItemIter h j a i es.size R ok ov)where
 mem:=by simp
 obj:=λi h st b hb=>by let#[ok,ov,st]:=st;rw[Zp.mp hb];show#[_,st,λv z=>by cases z]
 keep:=λi h h' ⟨ok,ov,st⟩ m=>#[ok,ov,m j (by simp) _ st]
 item:=by
  intro X D J Q Y i g s C H E I t st F;subst D J Q;let#[ok,ov,st]:=st;let#[B,hi]:=F;let#[G,_,_,L,M,xs,A,x,T,hsz]:=lr I.hok B;rw[l]at A;cases A;show JD st G l () λh' a1 a3 a4 a5=>?_;show#[_,rfl,wpAny_letOwnedTupleGo_items a1 λf b1 U=>?_];have hT:s.heap.objs.size≠j:=ı (Ç st);let#[p,q,hk,r,_,r2,Z]:=gP i x hi;have N:es[i]'(by rfl')=vD q:=by
   have:es.toList[i]?=!(vD q):=by rw[T,Xs,r];rfl
   rw[î,ö ()]at this;show Ô this
  have m:∀c o,c∉[j]->s.heap.get? c=!o->f.get? c=!o:=λc o d q=>by
   have u:c≠j:=λz=>d (by rw[z];simp);show U.extBut _ _ u (a5 c o u q)
  have I1:Inv X g C H {s with heap:=f,toks:=s.toks}:=I.turnedAll m t;have e:H s.heap.objs.size=none:=I.hok.fresh (Ã _);have e5:f.get? s.heap.objs.size=!{cls:=.type "tuple",data:=.seq ([.ref p.1,q.2.2].toArray)}:=by
   have:=U.extBut _ _ hT a3;rw[N]at this;rw[r2];show this
  have un:Un (frs X.stack) [j] H (upd H s.heap.objs.size (.tup [.ref p.1,p.2.2])) s.heap f:=
   ⟨λb o q _ _ r=>m b o r q,λb o q _ _ r=>⟨o.slots,m b o r q⟩,λb o q n _=>by rw[az (ã (Ç q))];show n,λb o q r=>⟨o,m b o r q⟩,
    λb xs q=>by rw[az (aW q e)];show q,λb o y q=>by rw[az (aW q e)];show q,λb ps q=>⟨([].toArray),by rw[az (aW q e),q];simp⟩⟩;have O:HOk X.prog X.w (upd H s.heap.objs.size (.tup [.ref p.1,p.2.2])) f:=HOk.track I1.hok e #[by change 2<=sizeLine;decide,[.ref p.1,q.2.2],.cons rfl (.cons Z .nil),_,e5,rfl,_,rfl];have I2:Inv X g C (upd H s.heap.objs.size (.tup [.ref p.1,p.2.2])) {s with heap:=f,toks:=s.toks}:=I.call' (s':={s with heap:=f,toks:=s.toks}) rfl un O I.bare λc d=>⟨(t c d).2.2.2.1,(t c d).2.1,(t c d).2.2.2.2⟩;show#[.ref s.heap.objs.size,_,I2,rfl,#[_,p,e,hk,rfl,rfl],#[_,_,b1],λc d=>?_];rw[Zp.mp d,az (ã (Ç st))];show(t j (by simp)).1
 done:=by
  intro X D J Q Y i g s C H E I t st F;subst D J Q;let#[ok,ov,st]:=st;let#[B,hi]:=F;let#[G,_,_,L,M,xs,A,x,T,hsz]:=lr I.hok B;rw[l]at A;cases A;show Oq (I.ok.hd Y) st G l () λh' m=>#[rfl,I.turnedAll (t':=s.toks) (λc o d q=>m c o (λz=>d (by rw[z];simp)) q) t]
 self:=λ_ _ _ _ _ ⟨_,_,st⟩ h=>PySem.W.kcp_self st h
def qO (tl:TE):TI:=λσ H R=>tl σ H λx H1=>∃a kvs,x=.ref a/\((H1 a=!(bA a kvs)/\∀od,R (vM od a kvs) (upd H1 a (.frz od (bA a kvs))))\/∃od,H1 a=!(.frz od (bA a kvs))/\R (vM od a kvs) H1)
theorem zT {X:Cx} {f d:Pos} {o:Expr} {C:TE} (J:PE X o C) (i:attributeBase o "items" X.env (eval o X.env)=eval o X.env:=by rfl) (j:(f.endLine==d.line)=true:=by rfl):PI X (.Tuple elts k tpos) (.Call (.Attribute o "items" f) [] [] d) (qO C):=by
 intro c s p H R I h;show wpAny_Call_method0_late i j (bM (J c s p H _ I h) λv m ⟨x,H1,t,K,E⟩=>?_);let#[a,kvs,rfl,q]:=E;cases(show v=Value.ref a from K);let#[g,H2,B,l,q]:∃g H2,Inv X c p H2 m/\H2 a=!(.frz g (bA a kvs))/\R (vM g a kvs) H2:=by
  rcases q with⟨l,q⟩|⟨g,l,q⟩;.obtain ⟨⟨_,_,_,_,o,es,D,u,_⟩,_⟩:=(show ObjOk X.prog X.w H1 m.heap a (bA a kvs)from t.hok a _ l);show#[o,_,t.freezeE l u,ao,q o]
  .show #[g,H1,t,l,q]
 let#[n,y,r,es,D,xs,A,_]:=lr B.hok l;show#["dict","dict.items",Ķ,PySem.F.slot_dict_items,PySem.F.type_dict_items,#[g,n,y.1],λa1 u=>by cases u;show#[g,n,y.2.1],Ĕ rfl (PySem.evalArgs_none (JB r y n ?_))];show JC #[_,Ë _ rfl,rfl,rfl] (Yf _ n) A ?_;have z:Inv X c p H2 {m with heap:=m.heap.push {cls:=.type "dict_items",data:=.fields ([.ref a].toArray)}}:=B.kept (t':=m.toks) λb ob q=>Yf _ q;show#[_,[_],_,_,_,rfl,z.kept (t':=m.toks) λb o e=>Yf _ e,uc _ a A,#[_,_,Ë _ rfl],λb G=>?_,q];rw[Zp.mp G];show z.fpOk (Ã _) (z.hok.fresh (Ã _))
end L2
end
section
namespace Nk
open PySem
variable{v:Value} {p:Addr×Value} {Q:Value->Shared->Prop}
theorem DP {a b:Type} {f:a->b}:∀(l:List a) (i:Nat),(l.map f).eraseIdx i=(l.eraseIdx i).map f
 |[],_=>rfl|_::_,0=>rfl|x::l,i+1=>ß (f x:: ·) (DP l i)
section
variable{prog:Program} {w:World} {K:Type} [DecidableEq K] {knd:HeapKind prog w K} {A:Around} {E:Value->Shared->Prop} {s:Shared} {d a:Addr} {k:K} {xs:List (K×Addr×Value)}
theorem DQ (B:knd.room A) (b:knd.is s.heap k a) (D:s.heap.DictOfH knd d xs) (hsz:xs.length<=sizeLine)(l:∀(j:Nat) (p:Addr×Value),xs[j]?=!(k,p)->Q p.2 {s with toks:=s.toks+knd.draws k})(n:k∉xs.map (·.1)->∀h',h'.DictOfH knd d (xs++[(k,a,v)])->Heap.SameBut d s.heap h'->Q v {s with heap:=h',toks:=s.toks+knd.draws k}):wpAny (model prog w) A (dictSetDefault d (.ref a) v) Q E s:=by
 let#[o,es,C,h,F,f,i,g,u]:=D;unfold dictSetDefault;show ą (Qr (knd.pyHash B b (Qr (wpAny_dictFind_heap (s:={s with toks:=s.toks+knd.draws k}) B b h f i g u (λm=>?_) λj p r=>?_))))
 .have t:k∉xs.map (·.1):=not_mem_keys_of_get m;show Qr (ė (Qr (wpAny_updateDictKeys (hz:=by have e:=size_of_entries i;rfl') (s:={s with toks:=s.toks+knd.draws k}) h f (Zy (n t _ ⟨_,_,C+1,Ĭ _ h (Obj.isFreed_of_dict (Ŭ f _)),F.mapDictKeys _,Ŭ f _,by simp[i,entryOfKey],λx c=>?_,?_⟩ (Ă ..))))))
  .have all:knd.is s.heap x.1 x.2.1:=by
    rcases Â.mp c with c|c;.show g x c
    .rw [Zp.mp c];show b
   show knd.keeps all h f (Ă ..)
  .rw [Wp,ð];show#[u,by simp,λx c y z e=>t (by rw[Ä,û,Zp]at z;have q:x=k:=e.trans z;rw[<-q];show c)]
 .show Qr (č (s:={s with toks:=s.toks+knd.draws k}) h f ?_);rw[entry_at i j,r];show Qr (ė (Zy (l j p r)))
theorem DR {j:Nat} (y:knd.room A.in1) (b:knd.is s.heap k a) (u:s.heap.DictOfH knd d xs) (f:xs[j]?=!(k,p)) (hsz:xs.length<=sizeLine)(h:∀h',h'.DictOfH knd d (xs.eraseIdx j)->Heap.SameBut d s.heap h'->Q p.2 {s with heap:=h',toks:=s.toks+knd.draws k}):wpAny (model prog w) A (call (.builtin "dict.pop") [.ref d,.ref a]) Q E s:=by
 have T:=u.typeIs;let#[o,es,B,e,J,c,l,g,n]:=u;show ê F.slot_dict_pop T F.entry_dict_pop ?_ (F.args_dict_pop_2 _ _);unfold Builtin.«dict.pop» Builtin.Dict.keyAndDefault;show Qr (Qr (ĭ T (show wpAny _ _ (pure (d,Value.ref a,none)) _ _ s from Zy ?_)));have v:es.size=xs.length:=size_of_entries l;have G:j<xs.length:=(É.mp f).1;have C:es.isEmpty=false:=by rw[Array.isEmpty_eq_false_iff];intro z;rw[z]at v;simp at v;rfl'
 dsimp only;rw[show(keyPart (Value.ref a)).isSome=false from rfl];simp only[â,ă];show Qr (č e c (Qr (Zy ?_)));rw[C];simp only[â,ă];unfold Builtin.Dict.takeOut;show Qr (ą (Qr (knd.pyHash y b (Qr (wpAny_dictFind_heap (s:={s with toks:=s.toks+knd.draws k}) y b e c l g n (λr=>absurd f (r j p)) λi q hi=>?_)))));have m:i=j/\q=p:=by
  have t:i<xs.length:=(É.mp hi).1;have D:(xs.map (·.1))[i]?=!k:=by rw[Xs,hi];rfl
  have H:(xs.map (·.1))[j]?=!k:=by rw[Xs,f];rfl
  have I:i=j:=(List.getElem?_inj (by rw[Qb];show t) n).mp (D.trans H.symm);subst I;rw[hi]at f;cases f;show#[rfl,rfl]
 let#[rfl,rfl]:=m;show Qr (č (s:={s with toks:=s.toks+knd.draws k}) e c ?_);rw[entry_at l i,hi];show Qr (wpAny_updateDictKeys (hz:=()) (s:={s with toks:=s.toks+knd.draws k}) e c (Zy ?_));dsimp only;simp only[Option.isNone_some,â,ă];show Qr (ő (Zy #[_,rfl,h _ #[_,_,B+1,Ĭ _ e (Obj.isFreed_of_dict (Ŭ c _)),J.mapDictKeys _,Ŭ c _,?_,λx K=>knd.keeps (g x (List.mem_of_mem_eraseIdx K)) e c (Ă ..),?_] (Ă ..)]));.rw [Array.eraseIdxIfInBounds,Ů (),Array.toList_eraseIdx,l];show DP _ _
 .show Đ (List.Sublist.map _ (List.eraseIdx_sublist _ _)) n
end
end Nk
namespace L2
open PySem PySem.Spec PyProof.Rows Nk
variable{k:List Key} {p:Addr×Value} {Q:Value->Shared->Prop} {kvs:List (List Key×V)} {xs:List (List Key×Addr×Value)}
theorem KT.drop {H:Hp} (r:KT H kvs xs):∀{j:Nat},(xs.map (·.1)).Nodup->xs[j]?=!(k,p)->KT H (dH kvs k) (xs.eraseIdx j):=by induction r with
 |nil=>intro j _ h;cases h|@cons p0 q0 ps qs h0 t ih=>
  intro j c e;rw[Ä,Ĉ]at c;have b:∀{l:List (List Key×V)} {m:List (List Key×Addr×Value)},KT H l m->m.map (·.1)=l.map (·.1):=λr=>by induction r with|nil=>rfl|cons h _ ih=>rw[Ä,Ä,ih,h.1]
  cases j with|zero=>
   cases e;have g:p0.1=k:=h0.1;have d:dH (p0::ps) k=ps:=by
    unfold dH;rw[List.filter_cons,if_neg (by simp[g]),List.filter_eq_self];intro y i;have:y.1≠k:=λz=>c.1 (by rw[b t];show Zl.mpr #[y,i,z]);show Ö this
   rw[d];show t|succ j=>
   have a:qs[j]?=!(k,p):=e;have f:p0.1≠k:=λz=>c.1 (Zl.mpr #[(k,p),Zs a,(h0.1.symm.trans z).symm]);have d:dH (p0::ps) k=p0::dH ps k:=by unfold dH;rw[List.filter_cons,if_pos (Ö f)]
   rw[d];show .cons h0 (ih c.2 a)
theorem Ot (h:atKey xs k=!p):∃j:Nat,xs[j]?=!(k,p):=by let#[#[c,d],a,rfl]:=á.mp h;let#[j,b]:=ņ.mp (ň a);have e:=ξ a;show#[j,by rw[b,show c=k from ò e]]
section
variable{X:Cx} {pins:List (Addr×Obj)} {σ:St} {H:Hp} {s:Shared} {a b:Addr} {kvs:List (List Key×V)} {k:List Key} {A:Around} {E:Value->Shared->Prop}
theorem Ou {v:V} (K:A.units+1<cLine) (I:Inv X pins σ H s) (e:H a=!(.dT kvs)) (F:H b=!(.tup (k.map kV))) (l:bQ kvs k=!v)(h:∀f s',Inv X pins σ (upd H a (.dT (dH kvs k))) s'->RelV v f->Q f s'):wpAny (model X.prog X.w) A (call (.builtin "dict.pop") [.ref a,.ref b]) Q E s:=by
 let#[z,M,xs,d,t]:=pH I.hok e;let#[f,y,i]:=RelO.some_of (v:=v) (o:=(atKey xs k).map (·.2)) (by rw[<-l];show d.val k);let#[p,D,rfl]:=á.mp y;let#[j,n]:=Ot D;have g:(xs.map (·.1)).Nodup:=by let#[_,_,_,_,_,_,_,_,g]:=t;show g
 show DR (ł K) (j4 I.hok F) t n (by rw[<-Ċ d];show z) λh' m J=>h _ _ ?_ i;let#[q,es,x,r,B,C,L,_,G]:=m;show il I (by rw[e];show True.intro) J ⟨q,r⟩ ⟨Nat.le_trans (BJ kvs k) z,M,_,(d.drop g n).keeps λc N u=>?_,q,es,x,r,B,C,L,G⟩;rw[az (bD u e (λz=>nomatch z))];show u
theorem Ov {z:V} {r:Value} (N:A.units+1<cLine) (I:Inv X pins σ H s) (e:H a=!(.dT kvs)) (x:H b=!(.tup (k.map kV))) (R:kvs.length<sizeLine) (B:RelV z r)(L:∀v o s',bQ kvs k=!v->Inv X pins σ H s'->RelV v o->Q o s') (M:∀s',bQ kvs k=none->Inv X pins σ (upd H a (.dT (kvs++[(k,z)]))) s'->Q r s'):wpAny (model X.prog X.w) A (call (.builtin "dict.setdefault") [.ref a,.ref b,r]) Q E s:=by
 let#[C,y,xs,d,m]:=pH I.hok e;have T:=m.typeIs;show ê PySem.F.slot_dict_setdefault T PySem.F.entry_dict_setdefault ?_ (PySem.F.args_dict_setdefault_3 _ _ _);unfold Builtin.«dict.setdefault» Builtin.Dict.keyAndDefault;show Qr (Qr (ĭ T (show wpAny _ _ (pure (a,Value.ref b,!r)) _ _ s from Zy ?_)));dsimp only;rw[y];simp only[â,ă];have l:(xs.map (·.1)).Nodup:=by let#[_,_,_,_,_,_,_,_,l]:=id m;show l
 show Qr (DQ (A:=A.in1) (ł N) (j4 I.hok x) m (by rw[<-Ċ d];show C) (λj p K=>Zy #[_,rfl,?_]) λt h' i J=>Zy #[_,rfl,?_]);.have h:atKey xs k=!p:=atKey_of_get l K;have:=d.val k;rw[h]at this;cases f:bQ kvs k with
  |none=>rw[f]at this;show absurd this (λz=>nomatch z)|some v=>rw[f]at this;show L v _ _ f (I.tok _) this
 .have f:bQ kvs k=none:=by
   have h:atKey xs k=none:=Sy.pW t;have:=d.val k;rw[h]at this
   cases f:bQ kvs k with
   |none=>rfl|some v=>rw[f]at this;show absurd this (λz=>nomatch z)
  show M _ f ?_;let#[q,es,D,u,O,P,G,_,g5]:=i;have g:KT H (kvs++[(k,z)]) (xs++[(k,b,r)]):=by have:=d.put k (b:=b) x B;rw[show putK kvs k z=kvs++[(k,z)]from j0 _ f,storedH_new (Sy.pW t)]at this;show this
  show il I (by rw[e];show True.intro) J ⟨q,u⟩ ⟨by rw[À,Õ];rfl',y,_,g.keeps λc S n=>?_,q,es,D,u,O,P,G,g5⟩;rw[az (bD n e (λz=>nomatch z))];show n
end
def DW (td ty:TE):TE:=λσ H Q=>td σ H λx H1=>∃a,x=.ref a/\Nm H1 a/\ty σ H1 λy H2=>∃kvs k b v,H2 a=!(.dT kvs)/\y=.ref b/\H2 b=!(.tup (k.map kV))/\bQ kvs k=!v/\Q v (upd H2 a (.dT (dH kvs k)))
def DX (td ty tx:TE):TE:=λσ H Q=>td σ H λx H1=>∃a,x=.ref a/\Nm H1 a/\ty σ H1 λy H2=>tx σ H2 λz H3=>∃kvs k b,H3 a=!(.dT kvs)/\y=.ref b/\H3 b=!(.tup (k.map kV))/\kvs.length<sizeLine/\(∀v,bQ kvs k=!v->Q v H3)/\(bQ kvs k=none->Q z (upd H3 a (.dT (kvs++[(k,z)]))))
section
variable{X:Cx} {o e f:Expr} {apos cpos:Pos} {td ty tx:TE}
theorem JF (J:X.A.units+1<cLine) (K:PE X o td) (L:PE X e ty) (m:M1 X o "pop" apos e cpos):PE X (.Call (.Attribute o "pop" apos) [e] [] cpos) (DW td ty):=by
 intro c s g H Q I h;show Ν m.base m.few m.line Ķ PySem.F.slot_dict_pop PySem.F.type_dict_pop (bM (K c s g H _ I h) λu G ⟨x,H1,i,p,a,w,d,n⟩=>?_);subst w;obtain rfl:u=Value.ref a:=p;let#[C,M,_]:=BR i d;show#[C,M,?_];rw[m.trees];show Ĕ rfl (ō (į (bM (L c G g H1 _ i n) λE O ⟨y,H2,t,B,kvs,k,b,v,j,q,D,l,r⟩=>ũ ?_)));subst q;cases(show E=Value.ref b from B);show Ou J t j D l λP N z f=>#[v,_,z,f,r]
theorem JG (G:X.A.units+1<cLine) (J:PE X o td) (K:PE X e ty) (B:PE X f tx) (m:M2 X o "setdefault" apos e f cpos):PE X (.Call (.Attribute o "setdefault" apos) [e,f] [] cpos) (DX td ty tx):=by
 intro c s i H Q I h;show Ν m.base m.few m.line Ķ PySem.F.slot_dict_setdefault PySem.F.type_dict_setdefault (bM (J c s i H _ I h) λu E ⟨x,H1,n,M,a,S,d,L⟩=>?_);subst S;obtain rfl:u=Value.ref a:=M;let#[U,Z,_]:=BR n d;show#[U,Z,?_];rw[m.trees];show Ĕ rfl (ō (į (bM (K c E i H1 _ n L) λD O ⟨y,H2,R,T,t⟩=>į (bM (B c O i H2 _ R t) λfv s3 ⟨z,H3,C,p,kvs,k,b,q,N,W,r,Y,P⟩=>ũ ?_))));subst N
 cases(show D=Value.ref b from T);show Ov G C q W r p (λv w' w l g j=>#[v,H3,g,j,Y v l]) λw l g=>#[z,_,g,p,P l]
end
end L2
end
section
namespace Nk
open PySem
variable{x:Value} {E Q:Value->Shared->Prop}
section
variable{prog:Program} {w:World} {A:Around} {R:Result->Shared->Prop} {I S:Addr} {fp wr:List Addr} {n:Nat} {P:Nat->Value->Prop} {St:Nat->Heap->Prop} {bt:Nat->Nat->Bool}
def Lb (prog:Program) (w:World) (A:Around) (P:Nat->Value->Prop) (St:Nat->Heap->Prop) (bt:Nat->Nat->Bool):Prop:=∀m i j x y (s:Shared) (Q:Value->Shared->Prop) (E:Value->Shared->Prop),St m s.heap->P i x->P j y->Q (.bool (bt i j)) s->wpAny (model prog w) A (richCompare .Lt x y) Q E s
theorem lY:(toString "min"++toString ".loop":String)="min.loop":=by decide
theorem JH (W:Walks prog w A.in1 I fp wr n P St) (C:Lb prog w A.in1 P St bt) (q:S∉fp):∀(k j:Nat) (s:Shared) (x:Value) (c:Nat),n=j+1+k->St (j+1) s.heap->P (argBest bt j) x->s.heap.get? S=!{cls:=.type "list",dict:=none,data:=.seq ([x,x].toArray) c,slots:=([].toArray)}->(∀v h' tk,P (argBest bt (n-1)) v->(∀b o,b∉wr->b≠S->s.heap.get? b=!o->h'.get? b=!o)->R (.ok (.ret v)) {s with heap:=h',toks:=tk})->codeAny (model prog w) A (.builtin "min.loop" #[[.ref I,.none,.ref S],[]]) R s:=by
 have t:S∉wr:=λh=>q (W.sub _ h);intro k;induction k with|zero=>intro j s x c J st u r B;have L:j+1=n:=J.symm;show Ō F.entry_min_loop ?_;rw[Ġ ŀ _];show Qr (ĉ r rfl (Qr (Ι (W.done s _ _ (L▸st) λh' tk p=>?_))));have g:=p S _ t r;show Qr (ν g rfl (Qr (ő (Zy (B x _ tk (by rw[<-L];show u) λb o m a e=>?_)))));rw[ś _ _ (Ne.symm a)];show p b o m e|succ k ih=>
  intro j s x c J st u r B;show Ō F.entry_min_loop ?_;rw[Ġ ŀ _];show Qr (ĉ r rfl (Qr (Ι (W.item (j+1) s _ _ () st λy h' tk K l p=>?_))));have g:=p S _ t r;have off:∀{f:Obj->Obj} {b:Addr} {o:Obj},b≠S->h'.get? b=!o->(h'.update S f).get? b=!o:=λm e=>by rw[ś _ _ (Ne.symm m)];show e
  change wpAny _ A.in1 (tryCatch (holding [y,y] (richCompare .Lt y x>>=_)) _>>=_) _ _ _;show Qr (Ι (ą (Qr (C _ (j+1) (argBest bt j) y x _ _ _ l K u (Qr (ą (Č (Qr (ő (Zy ?_))))))))));cases m:bt (j+1) (argBest bt j)with|true=>simp only[Ģ];show Qr (ν g rfl (Qr (ő ?_)));rw[lY];show Zy #[plainId_quiet ŀ _,ih (j+1) _ y _ () (W.frame _ _ _ l λb D o e=>off (λz=>q (z▸D)) e) (by rw[argBest,if_pos m];show K) (Ĭ _ g rfl) λv H i G E=>B v H i G λb o d a e=>E b o d a (off a (p b o d e))]|false=>simp only[â,ă];show Qr (ő ?_);rw[lY];show Zy #[plainId_quiet ŀ _,ih (j+1) _ x c () l (by rw[argBest,if_neg (by rw[m];decide)];show u) g λv H i G E=>B v H i G λb o d a e=>E b o d a (p b o d e)]
theorem DY {s:Shared}(h:wpAny (model prog w) A.in1 (pyIter x) (λit s₂=>∃I fp wr n P St bt,it=.ref I/\Walks prog w A.in1 I fp wr n P St/\St 0 s₂.heap/\(∀b∈fp,b<s₂.heap.objs.size)/\0<n/\Lb prog w A.in1 P St bt/\∀v h' tk,P (argBest bt (n-1)) v->(∀b o,b∉wr->s₂.heap.get? b=!o->h'.get? b=!o)->Q v {s₂ with heap:=h',toks:=tk}) E s):wpAny (model prog w) A (call (.builtin "min") [x]) Q E s:=by
 show call_function_tree F.kind_min F.plain_min F.entry_min (F.args_min1 _) ?_;change wpAny _ A.in1 (Builtin.Builtins.bindParams "min" ["key","default"] 0 #[[],[]]>>=_) _ _ s;show Qr (wpAny_of_eq (a:=[none,none]) rfl (Qr (Zy (Qr (Ď h (λit s₂ j=>?_) λ_ _ e=>e)))));let#[I,fp,wr,n,P,St,bt,rfl,W,st,p,H,l,D]:=j;show Qr (õ ?_);have c:s₂.heap.objs.size∉fp:=λC=>ü _ (p _ C);have r:s₂.heap.objs.size∉wr:=λh=>c (W.sub _ h);rw[lY];show Zy #[plainId_quiet ŀ _,Ō F.entry_min_loop ?_];rw[Ġ ŀ _];have t:(s₂.heap.push {cls:=.type "list",data:=.seq ([].toArray)}).get? s₂.heap.objs.size=!{cls:=.type "list",dict:=none,data:=.seq ([].toArray) 0,slots:=([].toArray)}:=Ë _ rfl;show Qr (ĉ t rfl (Qr (Ι (W.item 0 _ _ _ H (W.frame _ _ _ st λb _ o e=>Yf _ e) λy h' tk K q u=>?_))));have i:=u s₂.heap.objs.size _ r t;have off:∀{f:Obj->Obj} {b:Addr} {o:Obj},b≠s₂.heap.objs.size->h'.get? b=!o->(h'.update s₂.heap.objs.size f).get? b=!o:=λB e=>by rw[ś _ _ (Ne.symm B)];show e
 change wpAny _ A.in1 (updateSeq s₂.heap.objs.size (λ_=>([y,y].toArray))>>=_) _ _ _;show Qr (ν i rfl ?_);rw[lY];show Zy #[plainId_quiet ŀ _,JH W l c (n-1) 0 _ y _ () (W.frame _ _ _ q λb m o e=>off (λz=>c (z▸m)) e) K (Ĭ _ i rfl) λv L k J G=>D v L k J λb o d e=>?_];have g:b≠s₂.heap.objs.size:=ã (Ç e);show G b o d g (off g (u b o d (Yf _ e)))
end
end Nk
namespace L2
open PySem PySem.Spec PyProof.Rows Nk
theorem ud (f:Nat->List Int):∀k,argBest (λi j=>HT.lexLt (f i) (f j)) k<=k/\∀j,j<=k->HT.lexLt (f j) (f (argBest (λi j=>HT.lexLt (f i) (f j)) k))=false
 |0=>#[Nat.le_refl _,λj a=>by rw[Nat.le_zero.mp a];show jU _]|k+1=>by
  let#[d,c]:=ud f k;rw[argBest];split
  .rename_i b;show#[Nat.le_refl _,λj a=>?_];rcases ż a with a|rfl;.show vI (nH b) (c j ())
   .show jU _
  .rename_i b;show#[(),λj a=>?_];rcases ż a with a|rfl;.show c j ()
   .show Ρ.mpr b
def Ea:List V->Hp->VK->Prop:=λvs H Q=>∃(a:Addr) (kvs:List (List Int×V)),vs=[.ref a]/\H a=!(.dT (kvs.map λp=>(p.1.map Sum.inl,p.2)))/\kvs≠[]/\∀b k,H b=!(.tup (k.map V.int))->k∈kvs.map (·.1)->(∀k'∈kvs.map (·.1),HT.lexLt k' k=false)->Q (.ref b) H
theorem zU {X:Cx} (hc:X.calm=true) (hu:X.A.units+1<cLine):bY X (.builtin "min") Ea:=by
 intro ad s σ H vs us Q I rv h;let#[a,kvs,rfl,ea,U,q]:=h;let#[u,rfl,ru]:=rv.one;cases(show u=Value.ref a from ru);let#[z,hd,xs,J,dd]:=pH I.hok ea;let#[o,es,ep,N,T,E,he,_,hn]:=dd;have C:kvs.length=xs.length:=by have:=Ċ J;rw[Qb]at this;show this
 have ae:es.size=kvs.length:=by rw[<-ø,he,Qb,C]
 have M:0<kvs.length:=List.length_pos_iff.mpr U;have d:∀{i:Nat} {x},xs[i]?=!x->∃p,kvs[i]?=!p/\H x.2.1=!(.tup (p.1.map V.int)):=λ{i x} f=>by
  have hi:i<kvs.length:=by rw[C];show(É.mp f).1
  let#[p,y,h1,h2,h3,h4,_]:=gP i J (by rw[Qb];show hi);rw[f]at h2;cases h2;rw[Xs]at h1;let#[R,D,rfl]:=á.mp h1;show#[R,D,?_];rw[h4,Á];rfl
 have tup:∀{i:Nat} {x p},xs[i]?=!x->kvs[i]?=!p->∃c:List Value,IsTup s.heap x.2.1 c.toArray/\IntsAre c p.1:=λ{i x p} f l=>by let#[R,D,P]:=d f;rw[l]at D;cases D;let#[c,r,ht,_]:=I.tuple (SqT.of (K:=X.K) P);show#[c,ht,iB r]
 let#[G,n]:∃G:Nat->List Int,∀{i p},kvs[i]?=!p->G i=p.1:=⟨λi=>((kvs[i]?).map λp=>p.1).getD [],λ{i p} l=>by dsimp only;rw[l];rfl⟩;show DY (j5 hd ⟨o,N,T.1⟩ N E ⟨s.heap.objs.size,s.heap.objs.size::a::xs.map (·.2.1),[s.heap.objs.size],kvs.length,(λi v=>∃x,xs[i]?=!x/\v=.ref x.2.1),(λi h=>h.IsKeyIter s.heap.objs.size a i es.size ep/\h.get? a=!o/\∀x∈xs,∀ob,s.heap.get? x.2.1=!ob->h.get? x.2.1=!ob),(λi j=>HT.lexLt (G i) (G j)),rfl,?W,⟨⟨_,Ë _ rfl,rfl,rfl⟩,Yf _ N,λx _ ob e=>Yf _ e⟩,?lt,M,?cmp,λv h' tk hv kp=> ?fin⟩)
 case lt=>
  intro b g;rw[show(s.heap.push {cls:=.type "dict_keyiterator",data:=.fields ([.ref a,.int 0 0,.int es.size 0,.int ep 0].toArray)}).objs.size=s.heap.objs.size+1 from ģ ..];rcases Å.mp g with rfl|g;.show ľ _
  rcases Å.mp g with rfl|g;.show Ę (Ç N)
  let#[x,t,rfl]:=Zl.mp g;let#[i,hi]:=ņ.mp t;let#[p,l,_]:=d hi;let#[c,#[ob,D,_],_]:=tup hi l;show Ę (Ç D)
 case cmp=>rintro m i j x y s' Z Y ⟨_,_,hk⟩ ⟨x',f,rfl⟩ ⟨y',hy,rfl⟩ F;let#[p1,L,_]:=d f;let#[p2,O,_]:=d hy;let#[i1,#[o1,g1,r1],n1]:=tup f L;let#[i2,#[o2,g2,r2],n2]:=tup hy O;dsimp only at F;rw[n L,n O]at F;show HT.jA (A:=X.A.in1) #[o1,hk x' (Zs f) _ g1,r1] #[o2,hk y' (Zs hy) _ g2,r2] n1 n2 (by change X.A.units+1<cLine;show hu) F
 case W=>
  have na:a≠s.heap.objs.size:=ã (Ç N);have nx:∀x∈xs,x.2.1≠s.heap.objs.size:=λx t=>by let#[i,hi]:=ņ.mp t;let#[p,l,_]:=d hi;let#[c,#[ob,D,_],_]:=tup hi l;show ã (Ç D)
  show#[λb g=>by rw[Zp.mp g];show Ì,λi h h' st k=>#[st.1.at λob e=>k _ Ì ob e,k a (Í _ Ì) _ st.2.1,λx t ob e=>k _ (Í _ (Í _ (Zl.mpr #[x,t,rfl]))) _ (st.2.2 x t ob e)],λi s' Z Y hi st F=>?_,λs' Z Y st F=>?_,λi s' Z Y st hq=>ū st.1 hq]
  .show jP st.1 st.2.1 E () λh' a1 S=>F _ h' s'.toks ?_ #[a1,(S.2 a na).trans st.2.1,λx t ob e=>(S.2 _ (nx x t)).trans (st.2.2 x t ob e)] λb ob g e=>(S.2 b λz=>g (by rw[z];simp)).trans e;have f:xs[i]?=!(xs[i]'(by rfl')):=Zz ();show#[_,f,?_];have:es.toList[i]?=!(entryOfKey (tupleKind (bN X.prog X.w)) (xs[i]'(by rfl'))):=by rw[he,Xs,f];rfl
   rw[î,ö ()]at this;rw[Ô this];rfl
  .show lV (I.ok.hd hc) st.1 st.2.1 E () λh' eb=>F h' s'.toks λb ob g e=>eb b ob (λz=>g (by rw[z];simp)) e
 case fin=>
  let#[x,f,rfl]:=hv;let#[p,l,P]:=d f;let#[b1,b2]:=ud G (kvs.length-1);show#[.ref x.2.1,H,I.kept (t':=tk) λb ob e=>kp b ob (λz=>?_) (Yf _ e),rfl,q _ _ P (Zl.mpr #[p,Zs l,rfl]) λk' mk=>?_];.show absurd (Zp.mp z) (ã (Ç e))
  .obtain ⟨R,B,rfl⟩:=Zl.mp mk;let#[j,hj]:=ņ.mp B;have af:=(É.mp hj).1;have:=b2 j ();rw[n hj,n l]at this;show this
end L2
end
section
namespace Nk
open PySem PySem.Spec PyProof PyProof.Rows
variable{A:Around} {E:Value->Shared->Prop}
mutual def qP:PyData->PyData->Bool
 |.int a,.int b=>decide (a<b)|.str x,.str y=>decide (x.cps.toList<y.cps.toList)|.tuple xs,.tuple ys=>qQ xs ys|_,_=>false def qQ:List PyData->List PyData->Bool|[],[]=>false|[],_::_=>true|_::_,[]=>false|x::xs,y::ys=>if PyData.eqv x y=true then qQ xs ys else qP x y end
mutual inductive CmpD:PyData->PyData->Prop where|int (a b:Int):CmpD (.int a) (.int b)|str (x y:Str):CmpD (.str x) (.str y)|tup {xs ys:List PyData}:CmpDs xs ys->CmpD (.tuple xs) (.tuple ys)inductive CmpDs:List PyData->List PyData->Prop where|nil {ys:List PyData}:CmpDs [] ys|over {xs:List PyData}:CmpDs xs []|cons {x y:PyData} {xs ys:List PyData}:CmpD x y->CmpDs xs ys->CmpDs (x::xs) (y::ys)end
section
variable{prog:Program} {w:World} {s:Shared}
theorem vN {h:Heap}:∀{vs:List Value} {ds:List PyData} {as:List Addr},ReadsAll h vs ds as->vs.length=ds.length
 |_,_,_,.nil=>rfl|_,_,_,.cons _ r=>ß (· +1) (vN r)
theorem Ow {m:Nat} {h:Type} {f:Value×Value->h->Sem (ForInStep h)} {i:h} {g:Bool->h}(p:∀x y d e as bs (Q:ForInStep h->Shared->Prop),d.depth<=m->Reads s.heap x d as->Reads s.heap y e bs->CmpD d e->PyData.canLay0 d=true->PyData.canLay0 e=true->(if PyData.eqv d e=true then Q (.yield i) s else Q (.done (g (qP d e))) s)->wpAny (model prog w) A (f (x,y) i) Q E s):∀(xs ys:List Value) (ds es:List PyData) (as bs:List Addr) (Q:h->Shared->Prop),PyData.depthAll ds<=m->ReadsAll s.heap xs ds as->ReadsAll s.heap ys es bs->CmpDs ds es->PyData.canLayAll0 ds=true->PyData.canLayAll0 es=true->(qQ ds es=decide (ds.length<es.length)->Q i s)->Q (g (qQ ds es)) s->wpAny (model prog w) A (forIn (xs.zip ys) i f) Q E s:=by intro xs;induction xs with
 |nil=>intro ys ds es as bs Q n l o c j k a b;cases l;rw[List.zip_nil_left,ĳ];show Zy (a ?_);cases es<;>simp[qQ]|cons x xs ih=>intro ys ds es as bs Q n l o c j k a b;cases l with|cons r1 r2=>cases o with
   |nil=>rw[List.zip_nil_right,ĳ];show Zy (a (by simp[qQ]))|cons k1 k2=>cases c with|cons c1 c2=>
     simp only[PyData.canLayAll0,Ą]at j k;simp only[PyData.depthAll]at n;rw[Ź,ï];show Qr (p _ _ _ _ _ _ _ () r1 k1 c1 j.1 k.1 ?_);rw[qQ]at a b;split
     .rename_i e;rw[if_pos e]at a b;show ih _ _ _ _ _ Q () r2 k2 c2 j.2 k.2 (λz=>a (by rw[z];show Ω.mpr (by simp))) b
     .rename_i e;rw[if_neg e]at b;show Zy b
theorem JK:∀(n:Nat) (d e:PyData) (A:Around) (a b:Value) (as bs:List Addr) (Q:Value->Shared->Prop) (E:Value->Shared->Prop),d.depth<=n->CmpD d e->Reads s.heap a d as->Reads s.heap b e bs->PyData.canLay0 d=true->PyData.canLay0 e=true->A.units+n+1<cLine->Q (.bool (qP d e)) s->wpAny (model prog w) A (richCompare .Lt a b) Q E s:=by intro n;induction n with
 |zero=>
  intro d e A a b as bs Q E q c k h p l C f;cases c with
  |int i j=>cases k;cases h;rw[qP]at f;show wpAny_lt_int (A:=A) (Q:=Q) f|str x y=>cases k;cases h;rw[qP]at f;show lt_str (A:=A) (Q:=Q) f|tup c=>simp[PyData.depth]at q
 |succ n ih=>
  intro d e A a b as bs Q E q c k h p l C f
  cases c with|int i j=>cases k;cases h;rw[qP]at f;show wpAny_lt_int (A:=A) (Q:=Q) f|str x y=>cases k;cases h;rw[qP]at f;show lt_str (A:=A) (Q:=Q) f|tup c=>cases k with|tuple e1 c1 d1 r1=>cases h with|tuple e2 c2 d2 r2=>
     rw[qP]at f;simp only[PyData.depth]at q;simp only[PyData.canLay0]at p l;show wpAny_richCompare_same_room (op:=.Lt) #[_,e1,c1] #[_,e2,c2] Υ
      (ê Υ #[_,e1,c1] PySem.F.entry_tuple_lt ?_ (PySem.F.args_tuple_lt_2 _ _)) ();change wpAny _ _ (isInstance (.ref _) (.type "tuple")>>=_) _ _ s;show Qr (Ŀ #[_,e2,c2] ŧ ?_);simp only[ě,â,ă];show Qr (ŝ e1 d1 ?_);show Qr (ŝ e2 d2 ?_);show Qr ?_;show Ow (m:=n) (g:=λb=>#[!(.done (.ret (.bool b))),#[]]) ?_ _ _ _ _ _ _ _ () r1 r2 c p l ?_ ?_
     .intro x y d e as bs H G u B D v t r;show Qr (SeqAt.eqBoolOverData _ _ _ _ _ _ _ _ _ _ _ _ u B v t (by change A.units+1+_<cLine;rfl') ?_);split at r;.rename_i o;rw[o];simp only[ě,â,ă];show Zy r
      .rename_i o;rw[Ρ.mpr o];simp only[Bool.not_false,Ģ];show Qr (ė (Qr ?_));show ih _ _ _ _ _ _ _ _ _ G D u B v t (by change A.units+1+n+1<cLine;rfl') ?_;show Qr (Zy (Zy r))
     .intro z;rw[z]at f;rw[<-vN r1,<-vN r2]at f;show Zy #[_,rfl,(λe=>nomatch e),f]
     .show Zy #[_,rfl,(λe=>nomatch e),f]
end
end Nk
namespace L2
open PySem PySem.Spec PyProof PyProof.Rows Nk
def qR (K:W.Frag):List V->Hp->VK->Prop:=λxs H Q=>∃(a:Addr) (us:List (V×PyData)) (f:PyData->Int),xs=[.ref a]/\SqL K H a (us.map (·.1))/\us≠[]/\(∀u∈us,Dp K H u.1 u.2/\u.2.canLay0=true/\u.2.depth<=8)/\(∀u∈us,∀v∈us,CmpD u.2 v.2/\(qP u.2 v.2=true->f u.2<=f v.2)/\(qP u.2 v.2=false->f v.2<=f u.2))/\∀u∈us,(∀v∈us,f u.2<=f v.2)->Q u.1 H
theorem ue {bt:Nat->Nat->Bool} {f:Nat->Int} {n:Nat} (h:∀i j,i<n->j<n->(bt i j=true->f i<=f j)/\(bt i j=false->f j<=f i)):∀k,k<n->argBest bt k<=k/\∀j,j<=k->f (argBest bt k)<=f j
 |0,_=>#[Nat.le_refl _,λj a=>by rw[Nat.le_zero.mp a];show Int.le_refl _]|k+1,hk=>by
  let#[g,c]:=ue h k ();let#[d,e]:=h (k+1) (argBest bt k) hk ();rw[argBest];split
  .rename_i b;show#[Nat.le_refl _,λj a=>?_];rcases ż a with a|rfl;.show Int.le_trans (d b) (c j ())
   .show Int.le_refl _
  .rename_i b;show#[(),λj a=>?_];rcases ż a with a|rfl;.show c j ()
   .show e (Ρ.mpr b)
theorem vO {X:Cx} (hc:X.calm=true) (hu:X.A.units+12<cLine):bY X (.builtin "min") (qR X.K):=by
 intro ag s σ H xs ah Q I rv h;let#[a,us,f,rfl,hx,ad,P,B,q]:=h;let#[u,rfl,ru]:=rv.one;cases(show u=Value.ref a from ru);let#[c,r,ht,hz]:=I.list hx;have N:us.length=c.length:=by have:=r.length;rw[Qb]at this;show this
 have af:0<us.length:=List.length_pos_iff.mpr ad;have g:∀{i:Nat} {v:Value},c[i]?=!v->∃u∈us,us[i]?=!u/\RelV u.1 v/\∃as,Reads s.heap v u.2 as:=λ{i v} J=>by
  have hi:i<us.length:=by rw[N];show(É.mp J).1
  let#[u,F]:∃u,us[i]?=!u:=#[_,Zz hi];have hm:=Zs F;let#[v',e',l]:=r.get (i:=i) (x:=u.1) (by rw[Xs,F];rfl);rw[J]at e';cases e';show#[u,hm,F,l,(P u hm).1.reads I l]
 let#[D,d]:∃D:Nat->PyData,∀{i u},us[i]?=!u->D i=u.2:=#[λi=>((us[i]?).map λp=>p.2).getD .none,λ{i u} hp=>by dsimp only;rw[hp];rfl];have O:a<s.heap.objs.size:=by let#[_,e,_]:=ht.isList;show Ç e
 have U:a≠s.heap.objs.size:=ã O;have hsz:c.toArray.size=c.length:=Î;have W:=Walks.list (prog:=X.prog) (w:=X.w) (A:=X.A.in1) (I.ok.hd hc) s.heap.objs.size a U c.toArray;show DY (wpAny_pyIter_list ht.isList #[s.heap.objs.size,List.range (s.heap.objs.size+1),[s.heap.objs.size],c.length,(λi v=>c[i]?=!v),(λi h=>(h.IsListIter s.heap.objs.size a i/\h.IsList a c.toArray)/\∀b o,s.heap.get? b=!o->h.get? b=!o),(λi j=>qP (D i) (D j)),rfl,?W,#[#[#[_,Ë _ rfl,rfl,rfl],ht.isList.push _],λb o e=>Yf _ e],?lt,(),?cmp,?fin])
 case lt=>intro b C;rw[show(s.heap.push {cls:=.type "list_iterator",data:=.fields ([.ref a,.int 0 0].toArray)}).objs.size=s.heap.objs.size+1 from ģ ..];show í.mp C
 case cmp=>rintro m i j x y s' L G ⟨_,hk⟩ hx hy t;let#[u,M,E,_,as,ra]:=g hx;let#[v,mv,Z,_,bs,rb]:=g hy;dsimp only at t;rw[d E,d Z]at t;show JK 8 u.2 v.2 _ x y as bs _ _ (P u M).2.2 (B u M v mv).1 (Reads.keeps hk ra) (Reads.keeps hk rb) (P u M).2.1 (P v mv).2.1 (by change X.A.units+1+8+1<cLine;rfl') t
 case W=>
  have new:∀{h h':Heap},(∀b o,s.heap.get? b=!o->h.get? b=!o)->(∀b o,b∉[s.heap.objs.size]->h.get? b=!o->h'.get? b=!o)->∀b o,s.heap.get? b=!o->h'.get? b=!o:=λh1 h2 b o e=>h2 b o (λz=>by rw[Zp.mp z]at e;show ü _ (Ç e)) (h1 b o e)
  show#[λb C=>by rw[Zp.mp C];show í.mpr (ľ _),λi h h' st k=>#[W.frame i h h' st.1 λb C o e=>k b (í.mpr ?_) o e,λb o e=>k b (í.mpr (Ę (Ç e))) o (st.2 b o e)],λi s' L G hi st t=>W.item i s' L G (by rw[hsz];show hi) st.1 λv h' tk J ae k=>t v h' tk (by rw[<-Ā];show J) #[ae,new st.2 k] k,λs' L G st t=>W.done s' L G (by rw[hsz];show st.1) t,λi s' L G st t=>W.self i s' L G st.1 t];rcases Å.mp C with rfl|C;.show ľ _
  .rw [Zp.mp C];show Ę O
 case fin=>
  intro v h' tk J kp;let#[u,M,E,l,_]:=g J;let#[b1,b2]:=ue (bt:=λi j=>qP (D i) (D j)) (f:=λi=>f (D i)) (n:=c.length) (λi j hi R=>by let#[x,Y,S,_]:=g (Zz hi);let#[y,my,T,_]:=g (Zz R);rw[d S,d T];show(B x Y y my).2) (c.length-1) ();show#[u.1,H,I.kept (t':=tk) λb ob e=>kp b ob (λz=>?_) (Yf _ e),l,q u M λx Y=>?_];.rw [Zp.mp z]at e;show ü _ (Ç e)
  .obtain ⟨j,R⟩:=ņ.mp Y;have ai:=(É.mp R).1;have:=b2 j ();rw[d R,d E]at this;show this
theorem uf {X:Cx} (K:W.Frag) (a:X.K=K) (c:X.calm=true) (b:X.A.units+12<cLine):bY X (.builtin "min") (qR K):=a▸vO c b
end L2
end
section
namespace L2
open PySem PySem.Spec PyProof.Rows Nk
variable{c v:Value} {Q:Value->Shared->Prop}
section
variable{X:Cx} {pins:List (Addr×Obj)} {σ:St} {H:Hp} {s:Shared} {a:Addr} {y:V} {u:Value} {o:Option V} {A:Around} {E:Value->Shared->Prop}
theorem JL (q:A.units+2<cLine) (I:Inv X pins σ H s) (g:SGet H a y o) (j:RelV y u) (h:∀d s',Inv X pins σ H s'->RelV (o.getD .non) d->Q d s'):wpAny (model X.prog X.w) A (call (.builtin "dict.get") [.ref a,u]) Q E s:=by
 let#[kvs,k,b,e,i,m,n,l]:=g;subst m;cases(show u=Value.ref b from j);let#[z,p,xs,c,f]:=nG I.hok e i;show call_meetsIn Ũ f.typeIs PySem.F.entry_dict_get (PySem.F.args_dict_get_2 _ _) (meetsH_dict_get (iz X.prog X.w) a b p) #[(show A.units+1+1<cLine by rfl'),k,xs,nF I.hok n,f,h _ _ (I.tok _) ?_];rw[l];show(c.val k).getD rfl
end
def vP (td ty:TE):TE:=λσ H Q=>td σ H λx H1=>∃a kvs,x=.ref a/\Rd H1 a (bA a kvs)/\ty σ H1 λy H2=>∃o,SGet H2 a y o/\Q (o.getD .non) H2
theorem Ec {X:Cx} {o e:Expr} {c b:Pos} {n r:TE} (J:X.A.units+2<cLine) (K:PE X o n) (L:PE X e r) (m:M1 X o "get" c e b):PE X (.Call (.Attribute o "get" c) [e] [] b) (vP n r):=by intro f s j H Q I h;show Ν m.base m.few m.line Ķ Ũ PySem.F.type_dict_get (bM (K f s j H _ I h) λu G ⟨x,H1,l,v,a,kvs,C,d,t⟩=>?_);subst C;obtain rfl:u=Value.ref a:=v;let#[#[_,lo,_,_,k,es,N,p,q,R,_],_]:=yw l.hok d;show#[#[k,p,q.1],λa1 B=>by cases B;show#[k,p,q.2.1],?_];rw[m.trees];show Ĕ rfl (ō (į (bM (L f G j H1 _ l t) λS O ⟨y,H2,z,E,ov,g,w⟩=>ũ ?_)));show JL J z g E λP M D i=>#[_,H2,D,i,w]
section
variable{X:Cx} {pins:List (Addr×Obj)} {σ:St} {H:Hp} {s:Shared} {a:Addr} {ss:List Str} {its:List Value}
theorem jo (r:Vals (ss.map V.str) its) {i:Nat} (h:its[i]?=!v):∃x t,ss[i]?=!x/\v=.str x t:=by
 have hi:i<ss.length:=by have:=r.length;rw[Qb]at this;rw[this];show(É.mp h).1
 let#[x,b]:∃x,ss[i]?=!x:=#[_,Zz hi];let#[d,c,a]:=r.get (i:=i) (x:=.str x) (by rw[Xs,b];rfl);rw[h]at c;cases c;let#[t,rfl]:=a;show#[x,t,b,rfl]
theorem yC {h':Heap} {d:Data} (a:∀b o,b∉[s.heap.objs.size]->(s.heap.push {cls:=c,data:=d}).get? b=!o->h'.get? b=!o):∀b o,s.heap.get? b=!o->h'.get? b=!o:=λb o e=>by show a b o (λf=>?_) (Yf _ e);rw[Zp.mp f]at e;show ü _ (Ç e)
end
def Ed (K:W.Frag):List V->Hp->VK->Prop:=λxs H Q=>∃(a:Addr) (s t:Str),xs=[.ref a]/\SqT K H a [.str s,.str t]/\Q (.str (if t.cps.toList<s.cps.toList then t else s)) H
def Ef (K:W.Frag):List V->Hp->VK->Prop:=λxs H Q=>∃(a:Addr) (s t:Str),xs=[.ref a]/\SqT K H a [.str s,.str t]/\Q (.str (if s.cps.toList<t.cps.toList then t else s)) H
theorem zV {X:Cx} (N:X.calm=true):bY X (.builtin "min") (Ed X.K):=by
 intro D s P H xs us Q I rv h;let#[a,o,n,rfl,w,q]:=h;let#[f,g]:∃f,f=[o,n]:=#[_,rfl];replace w:SqT X.K H a (f.map V.str):=by rw[g];show w
 let#[u,rfl,J]:=rv.one;cases(show u=Value.ref a from J);let#[d,r,B,hz]:=I.tuple w;have m:f.length=d.length:=by have:=r.length;rw[Qb]at this;show this
 have p:f.length=2:=by rw[g];rfl
 have C:s.heap.IsTuple a d.toArray:=B;have l:a<s.heap.objs.size:=by let#[_,e,_]:=B;show Ç e
 show call_min_walk (Ł C ⟨_,[_,a],[_],_,_,_,λi j=>decide (((f[i]?).getD default).cps.toList<((f[j]?).getD default).cps.toList),rfl,Walks.tuple (A:=X.A.in1) (I.ok.hd N) _ a (ã l) d.toArray,⟨⟨_,Ë _ rfl,rfl,rfl⟩,C.push _⟩,λc k=>?_,by simpa using(show 0<d.length by rfl'),λi j S O s' T R hi M h=>?_,λv h' E G L=>?_⟩)
 .show c<(s.heap.push _).objs.size;rw[ģ];rcases Å.mp k with rfl|k;.show ľ _
  .rw [Zp.mp k];show Ę l
 .obtain ⟨x,t,b,rfl⟩:=jo r (by simpa using hi);let#[y,t',z,rfl]:=jo r (by simpa using M);dsimp only at h;rw[b,z]at h;show richCompare_gives (op:=.Lt) (typeIs_str s' x t) (typeIs_str s' y t') F.slot_str_lt F.entry_str_lt (F.args_str_lt_2 _ _) (gives_str_lt x y t t') (λx=>nomatch x) h
 .obtain ⟨x,t,b,rfl⟩:=jo r (by rw[<-Ā];show G);show#[.str x,H,I.kept (t':=E) (yC L),#[t,rfl],?_];rw[Î,<-m,p,g]at b;change[o,n][if decide (n.cps.toList<o.cps.toList)=true then 1 else 0]?=!x at b;by_cases c:n.cps.toList<o.cps.toList;.rw [if_pos (Ö c)]at b;rw[if_pos c]at q;cases b;show q
  .rw [if_neg (by rw[È c];show Ê)]at b;rw[if_neg c]at q;cases b;show q
theorem zW {X:Cx} (N:X.calm=true):bY X (.builtin "max") (Ef X.K):=by
 intro D s P H xs us Q I rv h;let#[a,o,n,rfl,w,q]:=h;let#[f,g]:∃f,f=[o,n]:=#[_,rfl];replace w:SqT X.K H a (f.map V.str):=by rw[g];show w
 let#[u,rfl,J]:=rv.one;cases(show u=Value.ref a from J);let#[d,r,B,hz]:=I.tuple w;have m:f.length=d.length:=by have:=r.length;rw[Qb]at this;show this
 have p:f.length=2:=by rw[g];rfl
 have C:s.heap.IsTuple a d.toArray:=B;have l:a<s.heap.objs.size:=by let#[_,e,_]:=B;show Ç e
 show call_max_walk (Ł C ⟨_,[_,a],[_],_,_,_,λi j=>decide (((f[j]?).getD default).cps.toList<((f[i]?).getD default).cps.toList),rfl,Walks.tuple (A:=X.A.in1) (I.ok.hd N) _ a (ã l) d.toArray,⟨⟨_,Ë _ rfl,rfl,rfl⟩,C.push _⟩,λc k=>?_,by simpa using(show 0<d.length by rfl'),λi j S O s' T R hi M h=>?_,λv h' E G L=>?_⟩)
 .show c<(s.heap.push _).objs.size;rw[ģ];rcases Å.mp k with rfl|k;.show ľ _
  .rw [Zp.mp k];show Ę l
 .obtain ⟨x,t,b,rfl⟩:=jo r (by simpa using hi);let#[y,t',z,rfl]:=jo r (by simpa using M);dsimp only at h;rw[b,z]at h;show richCompare_gives (op:=.Gt) (typeIs_str s' x t) (typeIs_str s' y t') F.slot_str_gt F.entry_str_gt (F.args_str_gt_2 _ _) (gives_str_gt x y t t') (λx=>nomatch x) h
 .obtain ⟨x,t,b,rfl⟩:=jo r (by rw[<-Ā];show G);show#[.str x,H,I.kept (t':=E) (yC L),#[t,rfl],?_];rw[Î,<-m,p,g]at b;change[o,n][if decide (o.cps.toList<n.cps.toList)=true then 1 else 0]?=!x at b;by_cases c:o.cps.toList<n.cps.toList;.rw [if_pos (Ö c)]at b;rw[if_pos c]at q;cases b;show q
  .rw [if_neg (by rw[È c];show Ê)]at b;rw[if_neg c]at q;cases b;show q
theorem vQ {X:Cx} (K:W.Frag) (a:X.K=K) (b:X.calm=true):bY X (.builtin "min") (Ed K):=a▸zV b
theorem vR {X:Cx} (K:W.Frag) (a:X.K=K) (b:X.calm=true):bY X (.builtin "max") (Ef K):=a▸zW b
theorem yD {X:Cx} (K:W.Frag) (a:X.K=K):IxR X (T9 K):=a▸N6
end L2
end
set_option linter.all false
namespace Mm
variable{k:Nat}
theorem lZ (x:Int) (m:Nat) (h:0<m):∃n:Nat,x%(m:Int)=(n:Int)/\n<m:=by have a:=ĩ x (b:=(m:Int)) ();have c:=Ğ x (b:=(m:Int)) ();show#[(x%(m:Int)).toNat,(),()]
noncomputable def col (h:Nat) (i:Int):Nat:=(i*2862933555777941757/16%2^h).toNat
theorem JM (k:Nat):(0:Int)<1*2^k:=by rw[Int.one_mul];show Int.pow_pos (by decide)
theorem j7 {a b:Type} (f:a->Option b) (xs:List a) (x:a):(xs++[x]).filterMap f=xs.filterMap f++(f x).toList:=by
 rw[List.filterMap_append];cases h:f x<;>simp[h]
noncomputable def cellAt (ns:List Int) (k:Nat):Int:=ns.getD k 0
noncomputable def hgt (c:Int):Nat:=if c%2=0 then(1+c/2%6).toNat else(1+c/2%60).toNat
noncomputable def dw:List Nat->List Nat->Nat
 |x::xs,y::ys=>Bm.pop (x^^^y)+dw xs ys|_,_=>0
theorem ug:∀xs ys:List Nat,((List.zipWith (λx y=>((Bm.pop (x^^^y):Nat):Int)) xs ys).sum:Int)=(dw xs ys:Nat)
 |[],_=>by simp[dw]|_::_,[]=>by simp[dw]
 |x::xs,y::ys=>by rw[List.zipWith_cons_cons,Ť,ug xs ys,dw];rfl'
theorem jq:∀xs ys:List Nat,dw xs ys=dw ys xs
 |[],[]=>rfl|[],_::_=>rfl|_::_,[]=>rfl|x::xs,y::ys=>by rw[dw,dw,jq xs ys,Nat.xor_comm]
theorem pX:∀xs:List Nat,dw xs xs=0
 |[]=>rfl|x::xs=>by rw[dw,pX xs,Nat.xor_self,Bm.jM]
theorem pY:∀(xs ys:List Nat) (x y:Nat),xs.length=ys.length->dw (xs++[x]) (ys++[y])=dw xs ys+Bm.pop (x^^^y)
 |[],[],x,y,_=>by simp[dw]|[],_::_,_,_,h=>by simp at h|_::_,[],_,_,h=>by simp at h
 |a::xs,b::ys,x,y,h=>by rw[ŕ,ŕ,dw,dw,pY xs ys x y (by simpa using h)];rfl'
theorem getD_some {ns:List Int} {z:Int} (h:ns[k]?=!z):cellAt ns k=z:=by unfold cellAt;rw[Æ,h];rfl
theorem getD_none {ns:List Int} (h:ns.length<=k):cellAt ns k=0:=by unfold cellAt;rw[Æ,Ņ h];rfl
def On (h n:Nat) (s:Int×Int):Prop:=0<=s.1/\s.1<n/\0<=s.2/\s.2<h
instance decOn (h n:Nat) (s:Int×Int):Decidable (On h n s):=by unfold On;show inferInstance
end Mm
section
namespace L2
open PySem
variable{c:TT} {t:TA} {u:TS} {n:Nat} {wi:TI} {A:Prop} {b:Bool} {ds:L2S} {H H':Hp} {v x y:V} {a p:Addr} {d:PyData} {i j k:Int} {cs:List Nat} {es:List Int} {qs:List Addr} {xs ys:List V} {f:Int->Int->V} {C:Int->Int->Prop} {R:Bool->Hp->Prop} {hi lo:Option Int} {κ:List (Option Nat)} {ta tb td te tk to tv ty:TE}
theorem Uc {B:Prop} (h:B):if(not true)=true then A else B:=Bw h
theorem Ud {B:Prop} (h:A):if(not false)=true then A else B:=By h
theorem gb {p B:Prop} [Decidable p] (a:p->A) (b:¬p->B):if decide p=true then A else B:=by
 by_cases h:p;.rw [Ö h];show By (a h)
 .rw [È h];show Bw (b h)
theorem pZ {p B:Prop} [Decidable p] (a:¬p->A) (b:p->B):if(not (decide p))=true then A else B:=by
 by_cases h:p;.rw [Ö h];show Bw (b h)
 .rw [È h];show By (a h)
theorem Ox {B:Prop} (c:b=true->A) (a:b=false->B):if b=true then A else B:=by
 cases b with
 |true=>show By (c rfl)|false=>show Bw (a rfl)
theorem uh {p B:Prop} [Decidable p] (a:p) (h:A):if decide p=true then A else B:=gb (λ_=>h) λn=>absurd a n
theorem q9 {p B:Prop} [Decidable p] (a:¬p) (h:B):if decide p=true then A else B:=gb (λn=>absurd n a) λ_=>h
theorem nQ {p B:Prop} [Decidable p] (a:p) (h:B):if(not (decide p))=true then A else B:=pZ (λn=>absurd a n) λ_=>h
theorem Ue {b:Type} [DecidableEq b] {a:b} {B:Prop} (h:A):if decide (a=a)=true then A else B:=uh rfl h
theorem Oz {b:Type} [DecidableEq b] {a:b} {B:Prop} (h:B):if(not (decide (a=a)))=true then A else B:=nQ rfl h
theorem Same.new {a:Hp} {o:HO} (e:Same a H) (h:H p=none):Same a (upd H p o):=λb u q=>by rw[az (aW (e b u q) h)];show e b u q
theorem Same.tup {K:W.Frag} (e:Same H H') (h:SqT K H a xs):SqT K H' a xs:=by
 rcases h with(h|⟨o,h⟩)|h;.show .inl (.inl (e _ _ h))
 .show .inl (.inr #[o,e _ _ h])
 .show .inr h
theorem Xu {r:St}:pK (none::r) (some v::r):=⟨rfl,λj u z=>by match j,z with|j+1,z=>show z⟩
theorem ext2 {r:St} {w:V}:pK (none::none::r) (some v::some w::r):=⟨rfl,λj u z=>by match j,z with|j+2,z=>show z⟩
theorem Ld (a b:Int):decide (V.int a=V.int b)=decide (a=b):=by simp
theorem vU (h:0<=k):fM xs none (!k)=xs.take k.toNat:=by
 unfold fM;change(xs.drop 0).take ((if k<0 then(k+(xs.length:Int)).toNat else min k.toNat xs.length)-0)=_;rw[if_neg (),List.drop_zero,Nat.sub_zero];rcases υ k.toNat xs.length with q|q;.rw [š q]
 .rw [ŗ q,è (Ã _),è q]
theorem gR (h:0<=k):fM xs (!k) none=xs.drop k.toNat:=by
 unfold fM;change(xs.drop (if k<0 then(k+(xs.length:Int)).toNat else min k.toNat xs.length)).take (xs.length-(if k<0 then(k+(xs.length:Int)).toNat else min k.toNat xs.length))=_;rw[if_neg ()];rcases υ k.toNat xs.length with q|q;.rw [š q,è (by rw[ô];rfl')]
 .rw [ŗ q,Ş (Ã _),Ş q];simp
theorem JN (h:0<=k) (a:0<=j):fM xs (!k) (!j)=(xs.take j.toNat).drop k.toNat:=by
 unfold fM;change(xs.drop (if k<0 then(k+(xs.length:Int)).toNat else min k.toNat xs.length)).take ((if j<0 then(j+(xs.length:Int)).toNat else min j.toNat xs.length)-(if k<0 then(k+(xs.length:Int)).toNat else min k.toNat xs.length))=_;rw[if_neg (Int.not_lt.mpr h),if_neg (Int.not_lt.mpr a),List.drop_take];generalize k.toNat=k;generalize j.toNat=j;rcases υ k xs.length with c|c
 .rw [š c,List.take_eq_take_iff,ô];rcases υ j xs.length with d|d;.rw [š d]
  .rw [ŗ d,Nat.min_self,ŗ (Nat.sub_le_sub_right d k)]
 .rw [ŗ c,Ş (Ã _),Ş c,List.take_nil,List.take_nil]
theorem iC (i:Int) (ns:List Int):inV (.int i) (ns.map V.int)=decide (i∈ns):=by unfold inV;rw[List.any_map];induction ns with
 |nil=>simp
 |cons n r ih=>
  rw[ţ,ih];by_cases h:n=i;.subst h;simp[Ah]
  .simp [Ah,h,Ne.symm h]
theorem gf (ns:List Int):(ns.map V.int).all fG=true:=by rw[Θ];simp[Τ,fG]
theorem OD {b:Type} {xs:List b} (c:0<=i) (a:i.toNat<xs.length):xV xs i=some xs[i.toNat]:=by have e:=aX (xs:=xs) (j:=i.toNat) (v:=xs[i.toNat]) (Zz a);rwa[show((i.toNat:Nat):Int)=i by rfl']at e
section
variable{σ:St} {H:Hp} {Q:VK} {D:Ends} {K:W.Frag}
theorem yE {t:TS} (h:t {D with nx:=u D} σ H):aF t u D σ H:=h
theorem Ug {g:TG} (h:te σ H λx H1=>g x σ H1 D.nx):aP te g D σ H:=h
theorem Uh (h:te σ H D.rt):b7 te D σ H:=h
theorem OJ (h:D.nx σ H):bh D σ H:=h
theorem P0 (h:te σ H λ_ H1=>D.nx σ H1):du te D σ H:=h
theorem Ui {t:TS} (h:c σ H λb H1=>if b=true then t D σ H1 else u D σ H1):bW c t u D σ H:=h
theorem Uj {i:Nat} (e:σ[i]?=!(!v)) (h:Q v H):aa i σ H Q:=#[v,e,h]
theorem Z1 (h:Q v H):tC v σ H Q:=h
theorem Xv {r:R2} (h:ta σ H λx H1=>tb σ H1 λy H2=>r x y H2 Q):aH r ta tb σ H Q:=h
theorem Xw {r:List V->Hp->VK->Prop} (h:t σ H λvs H1=>r vs H1 Q):cF r t σ H Q:=h
theorem s_call {sp:Sp} {E:XK} (h:t σ H λvs H1=>sp vs H1 Q E):aR sp [] E t σ H Q:=by unfold aR;simpa only[å]using h
theorem Uk {R:List V->Hp->Prop} (h:R [] H):aA σ H R:=h
theorem Pa {a:TA} {R:List V->Hp->Prop} (h:ta σ H λx H1=>a σ H1 λxs H2=>R (x::xs) H2):aj ta a σ H R:=h
theorem Pb (h:te σ H λx H'=>∃k,x=.bl k/\R k H'):aZ te σ H R:=h
theorem Ul (h:te σ H λx H'=>∃k,Ba K x H' k/\R k H'):jw K te σ H R:=h
theorem Xx {R:Bool->Prop} (h:R b):∃k,V.bl b=.bl k/\R k:=#[b,rfl,h]
theorem Um {R:Bool->Prop} (h:R b):∃k,Ba K (.bl b) H k/\R k:=#[b,rfl,h]
theorem Uo {t:TT} (h:t σ H λc H1=>R (not c) H1):jJ t σ H R:=h
theorem Uq {t u:TT} (h:t σ H λc H1=>if c=true then u σ H1 R else R false H1):jH t u σ H R:=h
theorem Xy {t u:TT} (h:t σ H λc H1=>if c=true then R true H1 else u σ H1 R):uH t u σ H R:=h
theorem Ph (h:ta σ H λx H1=>∃c,x=.bl c/\if c=true then tb σ H1 Q else Q (.bl false) H1):iU ta tb σ H Q:=h
theorem Pj (h:ta σ H λx H1=>∃c,x=.bl c/\Q (.bl (not c)) H1):Al ta σ H Q:=h
theorem Xz {t:TT} (h:t σ H λc H1=>if c=true then ta σ H1 Q else tb σ H1 Q):WX t ta tb σ H Q:=h
theorem Ur (h:R true H):fu σ H R:=h
theorem JP {i:Nat} {R:St->Hp->Prop} (h:R (σ.set i !v) H):au i v σ H R:=h
theorem Pk {R:St->Hp->Prop} (h:R σ H):iQ [] σ H R:=#[rfl,h]
theorem JQ {t:TG} {u:HR} {r:List V} {R:St->Hp->Prop} (h:t v σ H λσ' H'=>u r σ' H' R):bC t u (v::r) σ H R:=#[v,r,rfl,h]
theorem dh {t:HR} {R:St->Hp->Prop} (b:SqT K H a xs) (c:xs.length=n) (h:t xs σ H R):gZ K n t (.ref a) σ H R:=#[a,xs,rfl,b,c,h]
theorem Us {i:Nat} {a:Mf} (e:σ[i]?=!(!x)) (h:te σ H λy H1=>a x y H1 λz H2=>D.nx (σ.set i !z) H2):Mp i te a D σ H:=#[x,e,h]
theorem XC {f:Int->Int->Int} (h:Q (.int (f i j)) H):X4 f (.int i) (.int j) H Q:=#[i,j,rfl,rfl,h]
theorem Ut (h:Q (f i j) H):rO f (.int i) (.int j) H Q:=#[i,j,rfl,rfl,h]
theorem XD (c:C i j) (h:Q (f i j) H):rI C f (.int i) (.int j) H Q:=#[i,j,rfl,rfl,c,h]
theorem s_eq (e:My x y=true) (h:Q (.bl (decide (x=y))) H):oH x y H Q:=#[e,h]
theorem Uu (h:Q (.bl (decide (i=j))) H):oH (.int i) (.int j) H Q:=#[rfl,by rw[Ld];show h]
theorem Uv (h:Q (.bl (not (decide (i=j)))) H):Mz (.int i) (.int j) H Q:=#[rfl,by rw[Ld];show h]
theorem Uw (h:t σ H λxs H1=>xs.length<=sizeLine/\∀p,H1 p=none->Q (.ref p) (upd H1 p (.tup xs))):bZ t σ H Q:=h
theorem Ux (h:t σ H λxs H1=>xs.length<=sizeLine/\∀p,H1 p=none->Q (.ref p) (upd H1 p (.lst xs))):gG t σ H Q:=h
theorem Uy {a b:St} {P:Prop} (e:pK a b) (h:P):pK a b/\P:=#[e,h]
theorem UG {P:Prop} (e:n<=1000) (h:P):n<=sizeLine/\P:=#[small e,h]
theorem XF {r:V->Option Int->Option Int->Hp->VK->Prop} {b a:TO} (h:te σ H λx H1=>b σ H1 λl H2=>a σ H2 λu H3=>r x l u H3 Q):uU r te b a σ H Q:=h
theorem Eg {R:Option Int->Hp->Prop} (h:R none H):cU σ H R:=h
theorem Pn {t:TE} {R:Option Int->Hp->Prop} (h:t σ H λx H1=>∃i,x=.int i/\R (!i) H1):fD t σ H R:=h
theorem Pq {R:Int->Prop} (h:R i):∃k,V.int i=.int k/\R k:=#[i,rfl,h]
theorem XH {T:String} {r:V->List V->Hp->VK->Prop} (h:to σ H λx H1=>N8 K T x H1/\t σ H1 λxs H2=>r x xs H2 Q):oO K T r to t σ H Q:=h
theorem UJ {T:String} {r:V->List V->Hp->VK->Prop} (h:to σ H λx H1=>N8 K T x H1/\r x [] H1 Q):Iw K T r to σ H Q:=h
theorem dI {P:Prop} (e:SqL K H a xs) (h:P):N8 K "list" (.ref a) H/\P:=#[.inl #[rfl,xs,e],h]
def oU (g:TG) (tb:TS) (D:Ends) (σ:St):It->Hp->Prop:=λJ H1=>∃W:Nat->Nat->St->Hp->Prop,(∃m,W 0 m σ H1)/\∀i m σ H,W i m σ H->(J.stop i H/\D.nx σ H)\/(J.go i H/\∃N:St->Hp->Prop,(∀σ' H',N σ' H'->∃m',m'<m/\W (i+1) m' σ' H')/\∀x H',J.yld i H x H'->g x σ H' λσ2 H2=>tb {D with nx:=N,ct:=N,bk:=D.nx} σ2 H2)
theorem UT {g:TG} {a:TS} (h:wi σ H (oU g a D σ)):d9 wi g a D σ H:=h
def HW (κ:List (Option Nat)) (g:TG) (tc:TT) (te:TE) (σ:St) (Q:VK):It->Hp->Prop:=λJ H1=>∃W:Nat->Nat->List V->Hp->Prop,(∃m,W 0 m [] H1)/\∀i m ys H,W i m ys H->(J.stop i H/\∀p,H p=none->Q (.ref p) (upd H p (.lst ys)))\/(J.go i H/\ys.length<sizeLine/\∃N:List V->Hp->Prop,(∀ys' H',N ys' H'->∃m',m'<m/\W (i+1) m' ys' H')/\∀x H',J.yld i H x H'->g x (cap κ σ) H' λσ2 H2=>pK (cap κ σ) σ2/\tc σ2 H2 λb H3=>if b=true then te σ2 H3 λy H4=>N (ys++[y]) H4 else N ys H3)
theorem XJ {g:TG} {a:TT} (h:wi σ H (HW κ g a te σ Q)):oR κ wi g a te σ H Q:=h
def iL (K:W.Frag) (R:It->Hp->Prop) (x:V) (H:Hp):Prop:=∃a,x=.ref a/\(∃xs,SqL K H a xs)/\R (Ie K a) H
def iT (K:W.Frag) (R:It->Hp->Prop) (x:V) (H:Hp):Prop:=∃a,x=.ref a/\(∃xs,SqT K H a xs)/\R (RZ K a) H
def iR (R:It->Hp->Prop) (vs:List V) (H:Hp):Prop:=∃j:Int,vs=[.int j]/\-(2^62)<=j/\j<2^62/\R (yX 0 j.toNat) H
def Zc (R:It->Hp->Prop) (vs:List V) (H:Hp):Prop:=∃i j:Int,vs=[.int i,.int j]/\(-(2^62)<=i/\i<2^62/\-(2^62)<=j/\j<2^62)/\R (yX i (j-i).toNat) H
theorem JR {a:TE} {R:It->Hp->Prop} (h:a σ H (iL K R)):cO K a σ H R:=h
theorem Pr {a:TE} {R:It->Hp->Prop} (h:a σ H (iT K R)):lJ K a σ H R:=h
theorem JS {a:TA} {R:It->Hp->Prop} (h:a σ H (iR R)):iJ a σ H R:=h
def iS (R:It->Hp->Prop) (x:V) (H:Hp):Prop:=∃z,x=.str z/\R (Xb z) H
theorem Pu {a:TE} {R:It->Hp->Prop} (h:a σ H (iS R)):Nv a σ H R:=h
def iZ (K:W.Frag) (R:It->Hp->Prop) (vs:List V) (H:Hp):Prop:=∃a b xs ys,vs=[.ref a,.ref b]/\SqL K H a xs/\SqL K H b ys/\R (Yj K a b) H
end
section
variable{σ:St} {H:Hp} {Q:VK} {D:Ends} {K:W.Frag} {g:TG} {tb:TS} {κ:List (Option Nat)} {tc:TT} {te:TE}
theorem gD {e:Type} (c:e->V) {zs:List e} (k:SqL K H a (zs.map c)) (b:Nat->St->Hp->Prop) (l:b 0 σ H) (f:∀i σ H',b i σ H'->SqL K H' a (zs.map c))(j:∀(i:Nat) z σ H',zs[i]?=!z->b i σ H'->g (c z) σ H' λd H2=>tb {D with nx:=b (i+1),ct:=b (i+1),bk:=D.nx} d H2) (m:∀σ H',b zs.length σ H'->D.nx σ H'):iL K (oU g tb D σ) (.ref a) H:=by
 show#[a,rfl,#[_,k],Av (K:=K) (a:=a) (xs:=zs.map c) b l (λi σ H _ h=>f i σ H h) ?_ ?_];.intro i x σ H' hi p;rw[Xs]at hi;let#[z,hz,rfl]:=á.mp hi;show j i z σ H' hz p
 .intro σ H' p;rw[Qb]at p;show m σ H' p
theorem yF {e:Type} (c:e->V) {zs:List e} (k:SqT K H a (zs.map c)) (b:Nat->St->Hp->Prop) (l:b 0 σ H) (f:∀i σ H',b i σ H'->SqT K H' a (zs.map c))(j:∀(i:Nat) z σ H',zs[i]?=!z->b i σ H'->g (c z) σ H' λd H2=>tb {D with nx:=b (i+1),ct:=b (i+1),bk:=D.nx} d H2) (m:∀σ H',b zs.length σ H'->D.nx σ H'):iT K (oU g tb D σ) (.ref a) H:=by
 show#[a,rfl,#[_,k],Ih (K:=K) (a:=a) (xs:=zs.map c) b l (λi σ H _ h=>f i σ H h) ?_ ?_];.intro i x σ H' hi p;rw[Xs]at hi;let#[z,hz,rfl]:=á.mp hi;show j i z σ H' hz p
 .intro σ H' p;rw[Qb]at p;show m σ H' p
theorem nR {n:Int} (m:Nat) (e:n.toNat=m) (j:m<=1000000000) (h:-1000000000<=n) (a:Nat->St->Hp->Prop) (d:a 0 σ H)(c:∀(i:Nat) σ H',i<m->a i σ H'->g (.int (i:Int)) σ H' λb H2=>tb {D with nx:=a (i+1),ct:=a (i+1),bk:=D.nx} b H2) (f:∀σ H',a m σ H'->D.nx σ H'):iR (oU g tb D σ) [.int n] H:=by show#[n,rfl,(),(),?_];rw[e];show z7 a d (λi σ H' hi p=>?_) f;rw[Int.zero_add];show c i σ H' hi p
theorem Px {n:Int} (m:Nat) (e:n.toNat=m) (d:m<=1000000) (l:-1000000000<=n) (a:Nat->List V->Hp->Prop) (j:a 0 [] H) (hz:∀i ys H',a i ys H'->ys.length<=i)(h:∀(i:Nat) ys H',i<m->a i ys H'->g (.int (i:Int)) (cap κ σ) H' λc H2=>pK (cap κ σ) c/\tc c H2 λb H3=>if b=true then te c H3 λy f=>a (i+1) (ys++[y]) f else a (i+1) ys H3)(k:∀ys H',a m ys H'->∀p,H' p=none->Q (.ref p) (upd H' p (.lst ys))):iR (HW κ g tc te σ Q) [.int n] H:=by show#[n,rfl,(),(),?_];rw[e];show Cd a j (Û d (by decide)) hz (λi ys H' hi p=>?_) k;rw[Int.zero_add];show h i ys H' hi p
theorem UV {n:Int} (m:Nat) (e:n.toNat=m) (d:m<=1000000) (l:-1000000000<=n) (f:Nat->V)(k:∀i,i<m->∀(A:VK),A (f i) H->g (.int (i:Int)) (cap κ σ) H λa H2=>pK (cap κ σ) a/\te a H2 A)(r:∀p,H p=none->Q (.ref p) (upd H p (.lst ((List.range m).map f)))):iR (HW κ g fu te σ Q) [.int n] H:=by
 show Px m e d l (λi b c=>c=H/\b=(List.range i).map f) #[rfl,rfl] ?_ ?_ ?_;.rintro i b _ ⟨rfl,rfl⟩;simp
 .rintro i b c hi ⟨o,rfl⟩;subst o;have q:=k i hi (λy j=>j=c/\(List.range i).map f++[y]=(List.range (i+1)).map f) #[rfl,by rw[Ţ,Wp];rfl];simpa only[fu,Ģ]using q
 .rintro b _ ⟨rfl,rfl⟩ p h;show r p h
theorem zX {f:Type} (c:f->V) {zs:List f} (l:SqL K H a (zs.map c)) (m:zs.length<=1000000) (d:Nat->List V->Hp->Prop) (n:d 0 [] H) (h:∀i ys H',d i ys H'->SqL K H' a (zs.map c)) (hz:∀i ys H',d i ys H'->ys.length<=i)(k:∀(i:Nat) z ys H',zs[i]?=!z->d i ys H'->g (c z) (cap κ σ) H' λe H2=>pK (cap κ σ) e/\tc e H2 λb H3=>if b=true then te e H3 λy j=>d (i+1) (ys++[y]) j else d (i+1) ys H3)(o:∀ys H',d zs.length ys H'->∀p,H' p=none->Q (.ref p) (upd H' p (.lst ys))):iL K (HW κ g tc te σ Q) (.ref a) H:=by
 show#[a,rfl,#[_,l],J2 (K:=K) (a:=a) (xs:=zs.map c) d n (by rw[Qb];show Û m (by decide)) (λi ys H' _ p=>h i ys H' p) hz ?_ ?_];.intro i x ys H' hi p;rw[Xs]at hi;let#[z,hz,rfl]:=á.mp hi;show k i z ys H' hz p
 .intro ys H' p;rw[Qb]at p;show o ys H' p
theorem Ei {e:Type} (c:e->V) {zs:List e} (j:SqL K H a (zs.map c)) (n:zs.length<=1000000) (f:e->V)(m:∀(i:Nat) z,zs[i]?=!z->∀(A:VK),A (f z) H->g (c z) (cap κ σ) H λd H2=>pK (cap κ σ) d/\te d H2 A)(s:∀p,H p=none->Q (.ref p) (upd H p (.lst (zs.map f)))):iL K (HW κ g fu te σ Q) (.ref a) H:=by
 show zX c j n (λi b h=>h=H/\b=(zs.take i).map f) #[rfl,rfl] ?_ ?_ ?_ ?_;.rintro i b _ ⟨rfl,_⟩;show j
 .rintro i b _ ⟨rfl,rfl⟩;rw[Qb,Ñ];rfl'
 .rintro i z b h hz ⟨o,rfl⟩;subst o;have r:zs.take (i+1)=zs.take i++[z]:=by rw[Ø,hz];rfl
  have q:=m i z hz (λy l=>l=h/\(zs.take i).map f++[y]=(zs.take (i+1)).map f) #[rfl,by rw[r,Wp];rfl];simpa only[fu,Ģ]using q
 .rintro b _ ⟨rfl,rfl⟩ p k;rw[ä];show s p k
end
section
variable{σ:St} {H:Hp} {Q:VK} {D:Ends} {K:W.Frag} {g:TG} {tb:TS} {κ:List (Option Nat)} {tc:TT} {te:TE}
theorem UW {z:Str} (a:Nat->St->Hp->Prop) (f:a 0 σ H)(l:∀(i:Nat) c σ H',z.cps[i]?=!c->a i σ H'->g (.str #[([c].toArray)]) σ H' λd H2=>tb {D with nx:=a (i+1),ct:=a (i+1),bk:=D.nx} d H2) (o:∀σ H',a z.cps.size σ H'->D.nx σ H'):iS (oU g tb D σ) (.str z) H:=by
 show#[z,rfl,λi m σ H=>m=z.cps.size-i/\i<=z.cps.size/\a i σ H,#[z.cps.size,by simp,ñ _,f],?_];rintro i m σ H ⟨rfl,hi,p⟩;by_cases b:i<z.cps.size;.show .inr #[b,a (i+1),λj H' k=>#[z.cps.size-(i+1),(),rfl,b,k],λx H' y=>?_];let#[e,c,n,h]:=y;subst e h;show l i c σ _ n p
 .have e:i=z.cps.size:=();subst e;show .inl #[rfl,o σ H p]
end
def Thing (H:Hp):V->Prop
 |.non=>True|.bl _=>True|.int _=>True|.str x=>x.length<=100000|.ref a=>(∃xs,H a=!(.lst xs))\/(∃xs,H a=!(.tup xs))\/∃kvs,H a=!(.dK kvs)|_=>False
noncomputable def isI:V->Bool
 |.int _=>true|_=>false
theorem jC {K:W.Frag} {Q:VK} {T:String} {t:Value} (a:TyOf K H x t) (e:PySem.W.kitOne K t (.type T)=!b) (h:Q (.bl b) H):dN K [x,.ty T] H Q:=#[T,x,t,b,rfl,a,e,h]
section
variable{σ:St} {H:Hp} {Q:VK} {D:Ends} {K:W.Frag}
theorem Py (a b:Str):decide (V.str a=V.str b)=decide (a=b):=by simp
theorem V0 {a b:Str} (h:Q (.bl (decide (a=b))) H):oH (.str a) (.str b) H Q:=#[rfl,by rw[Py];show h]
theorem nT {i j:Str} (e:i.length+j.length<=1000000) (h:Q (.str (i++j)) H):fV (.str i) (.str j) H Q:=#[i,j,rfl,rfl,Û e (by decide),h]
theorem fB (e:SqL K H a xs) (h:Q (.int xs.length) H):cg K [.ref a] H Q:=#[_,_,rfl,.inl #[xs,e,rfl],h]
theorem bL (e:SqT K H a xs) (h:Q (.int xs.length) H):cg K [.ref a] H Q:=#[_,_,rfl,.inr #[xs,e,rfl],h]
theorem qT {x:Str} (e:x.length<=1000000) (h:Q (.int x.length) H):cg K [.str x] H Q:=#[_,_,rfl,#[Nat.le_trans e (by decide),rfl],h]
theorem dU (e:SqL K H a xs) (b:xV xs i=!v) (h:Q v H):fj K (.ref a) (.int i) H Q:=#[a,xs,i,v,rfl,rfl,e,b,h]
theorem dW (e:SqT K H a xs) (b:xV xs i=!v) (h:Q v H):aO K (.ref a) (.int i) H Q:=#[a,xs,i,v,rfl,rfl,e,b,h]
theorem V1 {x:Str} {c:Nat} (e:x.length<=1000000) (a:xV x.cps.toList i=!c) (h:Q (.str #[([c].toArray)]) H):Iu (.str x) (.int i) H Q:=#[x,i,c,rfl,rfl,Û e (by decide),a,h]
theorem Pz (h:Q (.int (if b then 1 else 0)) H):La [.bl b] H Q:=.inr #[b,rfl,h]
theorem JT (h:∀p,H p=none->Q (.ref p) (upd H p (.dK []))):qw σ H Q:=h
theorem JV (h:∀p,H p=none->tk σ (upd H p (.dT [])) λx H1=>tv σ H1 λv H2=>H2 p=!(.dT [])/\∃k b,x=.ref b/\H2 b=!(.tup (k.map kV))/\Q (.ref p) (upd H2 p (.dT [(k,v)]))):vA tk tv σ H Q:=h
theorem JW (h:∀p,H p=none->tk σ (upd H p (.dK [])) λx H1=>tv σ H1 λy H2=>H2 p=!(.dK [])/\∃kvs:List (Key×V),[(x,y)]=kvs.map (λa=>(kV a.1,a.2))/\kvs.length<=15/\Q (.ref p) (upd H2 p (.dK (ir [] kvs)))):BP [(tk,tv)] σ H Q:=h
theorem JX (h:∀p,H p=none->Q (.ref p) (upd H p (.dT []))):vd σ H Q:=h
theorem m5 {f:TS} (e:St->Hp->Prop) (a:St->Hp->Nat) (h:e σ H)(i:∀σ H,e σ H->c σ H λb H1=>if b=true then f {D with nx:=λσ' H'=>e σ' H'/\a σ' H'<a σ H,ct:=λσ' H'=>e σ' H'/\a σ' H'<a σ H,bk:=D.nx} σ H1 else D.nx σ H1)(d:∀σ H Q g,(∀b H1,Q b H1->g b H1)->c σ H Q->c σ H g):fc c f D σ H:=sr e a h i d
end
section
variable{σ:St} {H:Hp} {Q:VK} {R:Bool->Hp->Prop} {b c:Bool}
theorem PB (a:∀R:VK,R (.bl b) H->ta σ H R) (d:∀R:VK,R (.bl c) H->tb σ H R) (h:Q (.bl (b&&c)) H):iU ta tb σ H Q:=by show a _ #[b,rfl,?_];cases b with
 |true=>rw[if_pos rfl];rw[Bool.true_and]at h;show d _ h|false=>rw[if_neg Ê];rw[Bool.false_and]at h;show h
theorem JZ {t u:TT} (a:∀R:Bool->Hp->Prop,R b H->t σ H R) (d:∀R:Bool->Hp->Prop,R c H->u σ H R) (h:R (b&&c) H):jH t u σ H R:=by show a _ ?_;cases b with
 |true=>rw[if_pos rfl];rw[Bool.true_and]at h;show d _ h|false=>rw[if_neg Ê];rw[Bool.false_and]at h;show h
end
def Sb (ps:List Addr) (H H':Hp):Prop:=∀b o,b∉ps->H b=!o->H' b=!o
theorem Sb.of {ps:List Addr} (s:Same H H'):Sb ps H H':=λb o _ e=>s b o e
theorem Sb.same {ps:List Addr} {H1 H2:Hp} (e:Sb ps H H1) (s:Same H1 H2):Sb ps H H2:=λb o n q=>s b o (e b o n q)
theorem Sb.new {ps:List Addr} {H1:Hp} {o:HO} (e:Sb ps H H1) (h:H1 p=none):Sb ps H (upd H1 p o):=e.same (aB h o)
theorem Sb.set {ps:List Addr} {H1:Hp} {o:HO} (e:Sb ps H H1) (h:p∈ps):Sb ps H (upd H1 p o):=λb u n q=>by rw[az (show b≠p fromλz=>n (by rw[z];show h))];show e b u n q
theorem Sb.get {ps:List Addr} {H1:Hp} {o:HO} (e:Sb ps H H1) (n:a∉ps) (h:H a=!o):H1 a=!o:=e a o n h
theorem Sb.more {ps:List Addr} {H1:Hp} (e:Sb ps H H1) (h:∀p∈ps,p∈qs):Sb qs H H1:=λb o n q=>e b o (λz=>n (h b z)) q
theorem Sb.seq {ps:List Addr} {K:W.Frag} {H1:Hp} (e:Sb ps H H1) (c:∀p∈ps,H p=none) (h:SqL K H a xs):SqL K H1 a xs:=by
 have b:∀o,H a=!o->a∉ps:=λo q z=>by rw[c a z]at q;cases q
 rcases h with(h|⟨o,h⟩)|h;.show .inl (.inl (e a _ (b _ h) h))
 .show .inl (.inr #[o,e a _ (b _ h) h])
 .show .inr h
theorem Sb.at {ps:List Addr} {H H1:Hp} {a:Addr} {o:HO} (e:Sb ps H H1) (b:∀p∈ps,H p=none) (h:H a=!o):H1 a=!o:=e a o (λz=>by rw[b a z]at h;cases h) h
section
variable{σ:St} {H:Hp} {Q:VK} {D:Ends} {K:W.Frag} {g:TG} {tb:TS} {κ:List (Option Nat)} {tc:TT} {te:TE}
def Zd (R:It->Hp->Prop) (vs:List V) (H:Hp):Prop:=∃(i j c:Int) (n:Nat),vs=[.int i,.int j,.int c]/\c≠0/\Builtin.Range.small i j c=true/\Builtin.divisionGoesByPylong (j-i) c=false/\Builtin.Range.rangeSize i j c=(n:Int)/\R (Tg i c n) H
end
section
variable{σ:St} {H:Hp} {Q:VK} {D:Ends} {K:W.Frag}
theorem V2 {ns:List Int} (e:SqL K H a (ns.map V.int)) (h:Q (.int ns.sum) H):NB K [.ref a] H Q:=#[a,ns,rfl,e,h]
theorem V3 (h:Q (.int (if j<i then j else i)) H):kW [.int i,.int j] H Q:=#[i,j,rfl,h]
theorem fH {l:Addr} (e:H l=!(.lst xs)) (n:xs.length<=1000000) (h:Q .non (upd H l (.lst (xs++[y])))):cA (.ref l) [y] H Q:=#[l,xs,y,rfl,rfl,e,Ù n (by decide),h]
end
mutual theorem eqv_refl:∀d:PyData,d.canLay0=true->PyData.eqv d d=true
 |.none,_=>by simp[PyData.eqv]|.bool b,_=>by simp[PyData.eqv]|.int i,_=>by simp[PyData.eqv]|.str x,_=>by simp[PyData.eqv]|.list xs,h=>by simp only[PyData.eqv];show eqvAll_refl xs (by simpa only[PyData.canLay0]using h)|.tuple xs,h=>by simp only[PyData.eqv];show eqvAll_refl xs (by simpa only[PyData.canLay0]using h)|.dict kvs,h=>by simp[PyData.canLay0]at h theorem eqvAll_refl:∀ds:List PyData,PyData.canLayAll0 ds=true->PyData.eqvAll ds ds=true
 |[],_=>by simp[PyData.eqvAll]|d::r,h=>by simp only[PyData.canLayAll0,Ą]at h;simp only[PyData.eqvAll,eqv_refl d h.1,eqvAll_refl r h.2,Bool.and_self]end
def Sh (n:Nat) (d:PyData):Prop:=d.canLay0=true/\d.depth<=n
theorem Ej {n:Nat}:∀{ds:List PyData},(∀d∈ds,Sh n d)->PyData.canLayAll0 ds=true/\PyData.depthAll ds<=n
 |[],_=>#[by simp[PyData.canLayAll0],by simp[PyData.depthAll]]|d::r,h=>by
  let#[a,g]:=h d Ì;let#[c,f]:=Ej (ds:=r) λe b=>h e (Í _ b);show#[by simp[PyData.canLayAll0,a,c],by simp only[PyData.depthAll];rfl']
theorem gh {ds:List PyData} (h:∀d∈ds,Sh n d):Sh (n+1) (.tuple ds):=by let#[a,b]:=Ej h;show#[by simp only[PyData.canLay0];show a,by simp only[PyData.depth];rfl']
theorem dZ (n:Nat) (i:Int):Sh n (.int i):=#[by simp[PyData.canLay0],by simp[PyData.depth]]
theorem Sh.shaped (h:Sh n d) (a:n<=64):SeqAt.shaped d=true:=by unfold SeqAt.shaped;rw[h.1,Ö (Û h.2 a)];rfl
section
variable{H:Hp} {Q:VK} {K:W.Frag} {x y:V} {d:PyData} {n:Nat}
theorem rNeD.same (c:Dp K H x d) (e:Dp K H y d) (a:Sh n d) (b:n<=64) (q:Q (.bl false) H):rNeD K x y H Q:=#[d,d,c,e,a.shaped b,a.shaped b,by rw[eqv_refl d a.1];show q]
structure RefF (K:W.Frag) (C B:Addr) (ds es:List Addr):Prop where
 ex:ExcK K C
 em:PySem.W.exmOne K (.ref C) (.ref C)=!true
 kb:PySem.W.kitOne K (.ref C) (.ref B)=!true
 kv:PySem.W.kitOne K (.ref C) (.type "ValueError")=!true
 k1:PySem.W.kitAny K (.ref C) (ds.map Value.ref)=!false
 k2:PySem.W.kitAny K (.ref C) (es.map Value.ref)=!false
theorem Le (e:SqL K H a xs) (h:∀p,H p=none->Q (.ref p) (upd H p (.lst (fM xs lo hi)))):Bp K (.ref a) lo hi H Q:=#[a,xs,rfl,e,h]
end
theorem Sb.off {ps:List Addr} (e:Sb ps H H') (a:∀p∈ps,H p=none):Same H H':=λb o q=>e.at a q
def Ze (K:W.Frag) (H:Hp) (q:Addr) (ss:List (Int×Int)):Prop:=∃zs:List (Addr×Int×Int),zs.map (·.2)=ss/\SqL K H q (zs.map λz=>V.ref z.1)/\∀z∈zs,SqT K H z.1 [.int z.2.1,.int z.2.2]
theorem nU {t:TS} {D:Ends} {a:St} (J:St->Hp->Prop) (c:∀σ' H',J σ' H'->u D σ' H') (b:∀N:St->Hp->Prop,(∀σ' H',J σ' H'->N σ' H')->t {D with nx:=N} a H):aF t u D a H:=b _ c
noncomputable def tx (cs:List Nat):Str:=#[cs.toArray]
theorem Ek (a b:List Nat):tx a++tx b=tx (a++b):=by change(#[a.toArray++b.toArray]:Str)=#[(a++b).toArray];simp
theorem gJ (cs:List Nat):(tx cs).length=cs.length:=by change cs.toArray.size=_;simp
theorem nW (cs:List Nat):(tx cs).cps.toList=cs:=rfl
theorem PJ {a b:List Nat}:tx a=tx b↔a=b:=by
 constructor;.intro h;have:=ß (λs:Str=>s.cps.toList) h;simpa[tx]using this
 .intro h;rw[h]
theorem V4 {j:Nat} (h:j<=cs.length):Txt.slice (tx cs) none (!(j:Int))=tx (cs.take j):=by have:=beq_iff_eq.mp (PyProof.Rows.slice_closes_to (x:=tx cs) (j:=(j:Int)) #[(),by rw[nW];rfl']);rw[this];simp[tx]
theorem K1 {j:Nat} (h:j<=cs.length):Txt.slice (tx cs) (!(j:Int)) none=tx (cs.drop j):=by have:=beq_iff_eq.mp (PyProof.Rows.slice_closes_from (x:=tx cs) (i:=(j:Int)) #[(),by rw[nW];rfl']);rw[this,nW];change tx _=tx _;rw[Ó,è (by rw[ô];rfl')]
section
variable{σ:St} {H:Hp} {Q:VK} {D:Ends} {K:W.Frag} {g:TG} {κ:List (Option Nat)} {tc:TT} {te:TE}
theorem Lf {s:Str} (e:s.length<=1000000) (h:Q (.str (Txt.slice s lo hi)) H):J9 (.str s) lo hi H Q:=#[s,rfl,Û e (by decide),h]
def iE (K:W.Frag) (R:It->Hp->Prop) (vs:List V) (H:Hp):Prop:=∃a xs,vs=[.ref a]/\SqL K H a xs/\R (Xe K a) H
theorem K3 {a:TA} {R:It->Hp->Prop} (h:a σ H (iE K R)):yg K a σ H R:=h
end
theorem PK (n:Nat) (h:∀c∈cs,c<1114112):Sh n (.str (tx cs)):=by show#[?_,by simp[PyData.depth]];simp only[PyData.canLay0,PyData.strOk];change cs.toArray.all _=true;simp;show h
theorem K4 {a:Type} {xs:List a} (b:0<=i) (c:i<xs.length):∃v,v∈xs/\xV xs i=!v:=#[_,ì (),OD b ()]
section
variable{σ:St} {H:Hp} {Q:VK} {D:Ends} {K:W.Frag} {g:TG} {tb:TS}
def iD (R:It->Hp->Prop):V->Hp->Prop:=λx H1=>∃a kvs,x=.ref a/\H1 a=!(.dT kvs)/\∀od,R (Yl od a) (upd H1 a (.frz od (.dT kvs)))
theorem PN (h:tv σ H λv H1=>td σ H1 λx H2=>ty σ H2 λy H3=>∃a b,x=.ref a/\SPut H3 a y v b/\D.nx σ b):nM td ty tv D σ H:=h
theorem PP (h:tv σ H λv H1=>td σ H1 λx H2=>ty σ H2 λy H3=>∃a b,x=.ref a/\DPut H3 a y v b/\D.nx σ b):pI td ty tv D σ H:=h
theorem PQ (h:td σ H λx H1=>ty σ H1 λy H2=>∃a v,x=.ref a/\DGet H2 a y !v/\Q v H2):gw td ty σ H Q:=h
theorem El {l b:Addr} {zs:List V} (a:H l=!(.lst xs)) (c:H b=!(.lst zs)) (d:xs.length+zs.length<=1000000) (h:Q .non (upd H l (.lst (xs++zs)))):qu (.ref l) [.ref b] H Q:=#[l,b,xs,zs,rfl,rfl,a,c,Û d (by decide),h]
def Zf (H:Hp) (zs:List (Addr×Int×Int)):Prop:=∀z∈zs,H z.1=!(.tup [.int z.2.1,.int z.2.2])
end
section
variable{σ:St} {H:Hp} {Q:VK} {D:Ends} {K:W.Frag}
theorem XM (h:te σ H λx H'=>∃k,x=.bl k/\R k H'):tB te σ H R:=h
theorem V5 (h:Q (.bl (decide (x=.non))) H):iK x .non H Q:=#[rfl,h]
theorem PX (h:Q (.bl (not (decide (x=.non)))) H):vh x .non H Q:=#[rfl,h]
theorem iG (e:SqL K H p ys) (h:∀l,H l=none->Q (.ref l) (upd H l (.tup ys))):dM K [.ref p] H Q:=#[p,ys,rfl,.inl #[e,h]]
theorem V6 (h:ty σ H λy H1=>td σ H1 λx H2=>∃a o,x=.ref a/\SGet H2 a y o/\Q (.bl o.isSome) H2):Ol ty td σ H Q:=h
theorem Em (h:ty σ H λy H1=>td σ H1 λx H2=>∃a o,x=.ref a/\SGet H2 a y o/\Q (.bl (not o.isSome)) H2):jm ty td σ H Q:=h
theorem Q0 (h:td σ H λx H1=>ty σ H1 λy H2=>∃a v,x=.ref a/\SGet H2 a y !v/\Q v H2):gQ td ty σ H Q:=h
theorem Q3 (h:∀p,H p=none->Q (.ref p) (upd H p (bA p []))):nJ σ H Q:=h
theorem V7 (h:ty σ H λy H1=>td σ H1 λx H2=>∃a o,x=.ref a/\DGet H2 a y o/\Q (.bl o.isSome) H2):uZ ty td σ H Q:=h
theorem En (h:ty σ H λy H1=>td σ H1 λx H2=>∃a o,x=.ref a/\DGet H2 a y o/\Q (.bl (not o.isSome)) H2):lR ty td σ H Q:=h
theorem Eo (e:SqL K H p xs\/SqT K H p xs) (b:fG x=true) (a:xs.all fG=true) (h:Q (.bl (inV x xs)) H):xX K false x (.ref p) H Q:=#[p,xs,rfl,e,b,a,h]
theorem qU (e:SqL K H p xs\/SqT K H p xs) (b:fG x=true) (a:xs.all fG=true) (h:Q (.bl (not (inV x xs))) H):xX K true x (.ref p) H Q:=#[p,xs,rfl,e,b,a,h]
theorem K5 {ns:List Int} (d:SqL K H a (ns.map V.int)) (c:ns.length<64) (h:∀r (b:List Int),b.Perm ns->b.Pairwise (· <= ·)->H r=none->Q (.ref r) (upd H r (.lst (b.map V.int)))):qF K [.ref a] H Q:=#[a,ns,rfl,d,c,h]
end
theorem K6 (s:Str) (ns:List Str):inV (.str s) (ns.map V.str)=decide (s∈ns):=by unfold inV;rw[List.any_map];induction ns with
 |nil=>simp|cons n r ih=>
  rw[ţ,ih];by_cases h:n=s;.subst h;simp[Ah]
  .simp [Ah,h,Ne.symm h]
theorem zY (ns:List Str):(ns.map V.str).all fG=true:=by rw[Θ];simp[Τ,fG]
noncomputable def ov:Option Int->V
 |none=>.non|some i=>.int i
def DrT (K:W.Frag) (H:Hp) (a:Addr) (ps:L1S):Prop:=∃zs:List (Addr×Str×Int),zs.map (·.2)=ps/\H a=!(.tup (zs.map λz=>V.ref z.1))/\∀z∈zs,H z.1=!(.tup [.str z.2.1,.int z.2.2])
theorem DrT.same {K:W.Frag} {ps:L1S} (h:DrT K H a ps) (s:Same H H'):DrT K H' a ps:=by let#[zs,e,b,c]:=h;show#[zs,e,s.get b,λz hz=>s.get (c z hz)]
def HsT (K:W.Frag) (H:Hp) (a:Addr) (ds:L2S) (es:List Int):Prop:=∃(d e:Addr) (rs:List (Addr×L1S)),H a=!(.tup [.ref d,.ref e])/\rs.map (·.2)=ds/\H d=!(.tup (rs.map λr=>V.ref r.1))/\(∀r∈rs,DrT K H r.1 r.2)/\H e=!(.tup (es.map V.int))
theorem HsT.same {K:W.Frag} (h:HsT K H a ds es) (s:Same H H'):HsT K H' a ds es:=by let#[d,e,f,i,j,k,g,b]:=h;show#[d,e,f,s.get i,j,s.get k,λr c=>(g r c).same s,s.get b]
def DrG (K:W.Frag) (H:Hp) (a:Addr) (ps:L1S):Prop:=∃zs:List (Addr×Str×Int),zs.map (·.2)=ps/\SqT K H a (zs.map λz=>V.ref z.1)/\∀z∈zs,H z.1=!(.tup [.str z.2.1,.int z.2.2])
theorem DrT.g {K:W.Frag} {ps:L1S} (h:DrT K H a ps):DrG K H a ps:=by let#[zs,e,b,c]:=h;show#[zs,e,SqT.of b,c]
theorem DrG.same {K:W.Frag} {ps:L1S} (h:DrG K H a ps) (s:Same H H'):DrG K H' a ps:=by let#[zs,e,b,c]:=h;show#[zs,e,s.tup b,λz hz=>s.get (c z hz)]
def HsG (K:W.Frag) (H:Hp) (a:Addr) (ds:L2S) (es:List Int):Prop:=∃(d e:Addr) (rs:List (Addr×L1S)),H a=!(.tup [.ref d,.ref e])/\rs.map (·.2)=ds/\SqT K H d (rs.map λr=>V.ref r.1)/\(∀r∈rs,DrG K H r.1 r.2)/\H e=!(.tup (es.map V.int))
theorem HsT.g {K:W.Frag} (h:HsT K H a ds es):HsG K H a ds es:=by let#[d,e,f,j,k,l,i,b]:=h;show#[d,e,f,j,k,SqT.of l,λr c=>(i r c).g,b]
theorem HsG.same {K:W.Frag} (h:HsG K H a ds es) (s:Same H H'):HsG K H' a ds es:=by let#[d,e,f,i,j,k,g,b]:=h;show#[d,e,f,s.get i,j,s.tup k,λr c=>(g r c).same s,s.get b]
theorem Dp.intsT {K:W.Frag} (h:SqT K H a (es.map V.int)):Dp K H (.ref a) (.tuple (es.map PyData.int)):=.tup h (DpAll.ints es)
noncomputable def hsD (ds:L2S) (es:List Int):PyData:=.tuple [.tuple (ds.map λps=>.tuple (ps.map λs=>.tuple [.str s.1,.int s.2])),.tuple (es.map PyData.int)]
end L2
namespace Hs
open PySem L2
noncomputable def dr (ps:L1S) (s:Str):Option Int:=(ps.find? λp=>decide (p.1=s)).map (·.2)
noncomputable def stp (ds:L2S) (o:Option Int) (s:Str):Option Int:=o.bind λr=>dr (ds.getD r.toNat []) s
noncomputable def go (ds:L2S) (cs:List Nat):Option Int:=cs.foldl (λo c=>stp ds o (tx [c])) !0
structure Wf (ds:L2S):Prop where
 pos:0<ds.length
 rm:∀ps∈ds,∀p∈ps,0<=p.2/\p.2<ds.length
noncomputable def K7:Str:=Str.ofString " !\"#$&'()*+,-./0123456789:;<=>?@ABCDEFGHIJKLMNOPQRSTUVWXYZ[\\]^_`"++Str.ofString "abcdefghijklmnopqrstuvwxyz{|}~"
noncomputable def WK (n:Int):Nat:=K7.cps.toList.getD (n%94).toNat 0
def Sg (s:Str):Prop:=∃n:Int,s=tx [WK n]
def YB (many i:Nat) (r:List (Addr×Str×Int)):Prop:=(r.map (·.2.1)).Nodup/\r.length<=i/\∀z∈r,Sg z.2.1/\0<=z.2.2/\z.2.2<many
end Hs
namespace L2
open PySem
variable{H:Hp} {j:Nat} {a:Addr}
abbrev Dz:=Addr×Str×Int
variable{rows:List (Addr×List Dz)}
def Rws (H:Hp) (rows:List (Addr×List Dz)):Prop:=(rows.map (·.1)).Nodup/\∀row∈rows,H row.1=!(.lst (row.2.map λz:Dz=>V.ref z.1))/\∀z∈row.2,H z.1=!(.tup [.str z.2.1,.int z.2.2])
theorem Rws.same {c:Hp} (h:Rws H rows) (s:Same H c):Rws c rows:=#[h.1,λa b=>#[s.get (h.2 a b).1,λz hz=>s.get ((h.2 a b).2 z hz)]]
theorem Rws.setO {l:Addr} {xs c:List V} (h:Rws H rows) (e:H l=!(.lst xs)) (n:l∉rows.map (·.1)):Rws (upd H l (.lst c)) rows:=⟨h.1,λa b=>⟨by rw[az (λq:a.1=l=>n (q▸Zl.mpr #[a,b,rfl]))];show(h.2 a b).1,λz hz=>by rw[az (bD ((h.2 a b).2 z hz) e (by intro q;cases q))];show(h.2 a b).2 z hz⟩⟩
theorem yG (a:j<rows.length) (b:List Dz):(rows.set j (rows[j].1,b)).map (·.1)=rows.map (·.1):=by
 apply List.ext_getElem?;intro k;rw[Xs,Xs,List.getElem?_set];by_cases e:j=k;.subst e;rw[if_pos rfl,if_pos a,Zz a];rfl
 .rw [if_neg e]
theorem Rws.app {t:Addr} {s:Str} {r:Int} (h:Rws H rows) (g:j<rows.length) (d:H t=!(.tup [.str s,.int r])):Rws (upd H rows[j].1 (.lst ((rows[j].2++[(t,s,r)]).map λz:Dz=>V.ref z.1))) (rows.set j (rows[j].1,rows[j].2++[(t,s,r)])):=by
 show#[by rw[yG g];show h.1,λl i=>?_];have a:rows[j]∈rows:=ì g;have c:=(h.2 _ a).1;rcases List.mem_or_eq_of_mem_set i with m|rfl
 .obtain ⟨k,f,e⟩:=ó.mp i;rw[List.getElem_set]at e;by_cases q:j=k
  .rw [if_pos q]at e;subst e;show#[ao,λz hz=>?_];rcases Â.mp hz with w|w;.rw [az (bD ((h.2 _ a).2 z w) c (by intro q;cases q))];show(h.2 _ a).2 z w
   .rw [Zp.mp w];rw[az (bD d c (by intro q;cases q))];show d
  .rw [if_neg q]at e;subst e;rw[List.length_set]at f;have n:rows[k].1≠rows[j].1:=by intro z;have:=(List.getElem_inj (h₀:=by simpa using f) (h₁:=by simpa using g) h.1).mp (by rw[İ,İ];show z);show q this.symm
   have b:rows[k]∈rows:=ì f;show#[by rw[az n];show(h.2 _ b).1,λz hz=>?_];rw[az (bD ((h.2 _ b).2 z hz) c (by intro q;cases q))];show(h.2 _ b).2 z hz
 .show #[ao,λz hz=>?_];rcases Â.mp hz with w|w;.rw [az (bD ((h.2 _ a).2 z w) c (by intro q;cases q))];show(h.2 _ a).2 z w
  .rw [Zp.mp w];rw[az (bD d c (by intro q;cases q))];show d
section
variable{σ:St} {H:Hp} {Q:VK} {g:TG} {κ:List (Option Nat)} {te:TE} {K:W.Frag}
theorem Q4 {n:Int} (m:Nat) (e:n.toNat=m) (s:m<=1000000) (r:-1000000000<=n)(u:∀(i:Nat) H',i<m->∀(A:VK),(∀p,H' p=none->A (.ref p) (upd H' p (.lst [])))->g (.int (i:Int)) (cap κ σ) H' λj H2=>pK (cap κ σ) j/\te j H2 A)(v:∀p H' (as:List Addr),Same H H'->H p=none->as.length=m->as.Nodup->p∉as->(∀a∈as,H a=none/\H' a=!(.lst []))->H' p=!(.lst (as.map V.ref))->Q (.ref p) H'):iR (HW κ g fu te σ Q) [.int n] H:=by
 show Px m e s r (λi k H'=>∃as:List Addr,k=as.map V.ref/\as.length=i/\as.Nodup/\Same H H'/\∀a∈as,H a=none/\H' a=!(.lst [])) #[[],rfl,rfl,Γ,Same.refl H,by simp] ?_ ?_ ?_;.rintro i k H' ⟨as,rfl,rfl,_⟩;simp
 .rintro i k H' hi ⟨as,rfl,rfl,l,h,f⟩;have q:=u as.length H' hi (λy o=>∃d:List Addr,as.map V.ref++[y]=d.map V.ref/\d.length=as.length+1/\d.Nodup/\Same H o/\∀a∈d,H a=none/\o a=!(.lst [])) λp c=>by
   show#[as++[p],by simp,by simp,?_,h.new c,λa m=>?_];.rw [ð];show#[l,by simp,λa m b t e=>?_];rw[Zp.mp t]at e;subst e;rw[(f a m).2]at c;cases c
   .rcases Â.mp m with m|m;.show #[(f a m).1,aD c (f a m).2]
    .rw [Zp.mp m];show#[h.free c,ao]
  simpa only[fu,Ģ]using q
 .rintro k H' ⟨as,rfl,w,l,h,f⟩ p c;show v p _ as (h.new c) (h.free c) w l (λm=>?_) (λa m=>#[(f a m).1,aD c (f a m).2]) ao;rw[(f p m).2]at c;cases c
theorem qW {c d:Type} {g:c->d} {l b:List d} (h:l.Perm b):∀{zs:List c},l=zs.map g->∃a:List c,a.Perm zs/\b=a.map g:=by induction h with
 |nil=>intro zs e;show#[zs,.refl _,e]|cons x _ ih=>
  intro zs e
  cases zs with
  |nil=>cases e
  |cons z zs=>
   rw[Ä]at e;injection e with e1 e2;let#[a,p,q]:=ih e2;show#[z::a,p.cons z,by rw[Ä,q,e1]]
 |swap x y l=>
  intro zs e;match zs,e with
  |z1::z2::r,e=>
   rw[Ä,Ä]at e;injection e with e1 e2;injection e2 with e2 e3;show#[z2::z1::r,.swap _ _ _,by rw[Ä,Ä,e1,e2,e3]]
 |trans _ _ ih1 ih2=>intro zs e;let#[a,p,q]:=ih1 e;let#[us,i,f]:=ih2 q;show#[us,i.trans p,f]
theorem lH {a b:Type} {g:a->b} {c:List b} {zs:List a} (h:c.Perm (zs.map g)):∃vs:List a,vs.Perm zs/\c=vs.map g:=qW h.symm rfl
theorem ul {zs:List (Addr×Str×List V)} (e:SqL K H a (zs.map λz=>V.ref z.1)) (hz:∀z∈zs,SqT K H z.1 (.str z.2.1::z.2.2)) (f:(zs.map (·.2.1)).Nodup) (d:zs.length<100000)(h:∀r (c:List (Addr×Str×List V)),c.Perm zs->(c.map (·.2.1)).Pairwise (λa b=>a.cps.toList<b.cps.toList)->H r=none->Q (.ref r) (upd H r (.lst (c.map λz=>V.ref z.1)))):iw K [.ref a] H Q:=#[a,zs,rfl,e,hz,f,d,h]
theorem uo {zs:List Dz} (j:SqL K H a (zs.map λz=>V.ref z.1)) (hz:∀z∈zs,SqT K H z.1 [.str z.2.1,.int z.2.2]) (k:(zs.map (·.2.1)).Nodup) (d:zs.length<100000)(h:∀r (c:List Dz),c.Perm zs->(c.map (·.2.1)).Pairwise (λa b=>a.cps.toList<b.cps.toList)->H r=none->Q (.ref r) (upd H r (.lst (c.map λz=>V.ref z.1)))):iw K [.ref a] H Q:=by
 show ul (zs:=zs.map λz:Dz=>(z.1,z.2.1,[V.int z.2.2])) (by rw[Á];show j) (λz m=>?_) (by rw[Á];show k) (by rw[Qb];show d) λr c i e f=>?_;.obtain ⟨y,g,rfl⟩:=Zl.mp m;show hz y g
 .obtain ⟨vs,pv,rfl⟩:=lH i;rw[Á]at e;have:=h r vs pv e f;rw[Á];show this
end
end L2
namespace Hs
theorem Q5 (n:Int):WK n<1114112:=by
 unfold WK;have h:∀c∈K7.cps.toList,c<1114112:=by ac_nf
 rw[Æ];cases e:K7.cps.toList[(n%94).toNat]?with
 |none=>decide|some c=>show h c (Zs e)
end Hs
namespace L2
open PySem
variable{H:Hp} {a:Addr} {ht:Nat}
abbrev Lz:=Addr×Str×Addr×List Nat
abbrev nv (xs:List Nat):List V:=xs.map λi:Nat=>V.int (i:Int)
def YC (K:W.Frag) (H:Hp) (a:Addr) (ht:Nat) (ls:List (Str×List Nat)):Prop:=∃(l:Addr) (zs:List Lz),H a=!(.tup [.int (ht:Int),.ref l])/\zs.map (λz:Lz=>(z.2.1,z.2.2.2))=ls/\SqT K H l (zs.map λz:Lz=>V.ref z.1)/\∀z∈zs,H z.1=!(.tup [.str z.2.1,.ref z.2.2.1])/\H z.2.2.1=!(.tup (nv z.2.2.2))
def FnF (K:W.Frag) (H:Hp) (a:Addr) (ht:Nat) (ls:List (Str×List Nat)):Prop:=∃(l:Addr) (ob:PySem.Obj) (zs:List Lz),H a=!(.tup [.int (ht:Int),.ref l])/\zs.map (λz:Lz=>(z.2.1,z.2.2.2))=ls/\ob.dict=none/\H l=!(.frz ob (.tup (zs.map λz:Lz=>V.ref z.1)))/\∀z∈zs,H z.1=!(.tup [.str z.2.1,.ref z.2.2.1])/\H z.2.2.1=!(.tup (nv z.2.2.2))
theorem FnF.same {K:W.Frag} {b:Hp} {ls:List (Str×List Nat)} (h:FnF K H a ht ls) (s:Same H b):FnF K b a ht ls:=by let#[l,ob,zs,d,e,g,f,c]:=h;show#[l,ob,zs,s.get d,e,g,s.get f,λz hz=>#[s.get (c z hz).1,s.get (c z hz).2]]
theorem FnF.t {K:W.Frag} {ls:List (Str×List Nat)} (h:FnF K H a ht ls):YC K H a ht ls:=by let#[l,ob,zs,c,d,f,e,b]:=h;show#[l,zs,c,d,.inl (.inr #[ob,e]),b]
end L2
namespace Fo
open PySem L2
noncomputable def lk (ls:List (Str×List Nat)) (s:Str):Option (List Nat):=(ls.find? λp=>decide (p.1=s)).map (·.2)
theorem jX (p:Str×List Nat) (r:List (Str×List Nat)) (s:Str):lk (p::r) s=if p.1=s then !p.2 else lk r s:=by
 unfold lk;by_cases h:p.1=s;.simp [h]
 .simp [h]
theorem nY {s:Str} {c:List Nat}:∀{ls:List (Str×List Nat)},lk ls s=!c->(s,c)∈ls
 |[],h=>by cases h|p::ps,h=>by
  rw[jX]at h;by_cases e:p.1=s
  .rw [if_pos e]at h;cases h;rw[<-e];show Ì
  .rw [if_neg e]at h;show Í _ (nY h)
theorem vV {s:Str}:∀{ls:List (Str×List Nat)},s∈ls.map (·.1)->∃c,lk ls s=!c
 |p::ps,h=>by
  rw[jX];by_cases e:p.1=s
  .show #[_,if_pos e]
  .rw [if_neg e];rcases Å.mp h with h|h;.show absurd h.symm e
   .show vV h
noncomputable def cl (ls:List (Str×List Nat)) (c:Nat):List Nat:=(lk ls (tx [c])).getD []
structure Wf (ht:Nat) (ls:List (Str×List Nat)):Prop where
 pos:0<ls.length
 le:ls.length<=40
 up:(ls.map (·.1)).Pairwise NT
 sg:∀p∈ls,Hs.Sg p.1
 c1:∀p∈ls,1<=p.2.length/\p.2.length<=8
 cb:∀p∈ls,∀x∈p.2,x<2^ht
end Fo
namespace L2
open PySem
variable{i:Int} {a:Addr} {k n:Nat} {ys:List V} {co:List Nat}
abbrev Kz:=Str×Addr×List Nat
noncomputable def Z2 (kvs:List Kz):List (Key×V):=kvs.map λp:Kz=>(Sum.inr p.1,V.ref p.2.1)
section
variable{σ:St} {H:Hp} {Q:VK} {D:Ends} {K:W.Frag} {g:TG} {κ:List (Option Nat)} {tc:TT} {te:TE}
theorem Q6 {p:Addr} (e:SqL K H p ys) (h:∀l (ob:PySem.Obj),ob.dict=none->H l=none->Q (.ref l) (upd H l (.frz ob (.tup ys)))):yj K [.ref p] H Q:=#[p,ys,rfl,e,h]
theorem j8 {ob:PySem.Obj} {zs:List (Addr×Str×V)} (b:ob.dict=none) (c:H a=!(.frz ob (.tup (zs.map λz=>V.ref z.1)))) (d:∀z∈zs,SqT K H z.1 [.str z.2.1,z.2.2]) (f:(zs.map (·.2.1)).Nodup) (e:zs.length<=1000) (h:∀r,H r=none->Q (.ref r) (upd H r (.dK (zs.map λz=>(Sum.inr z.2.1,z.2.2))))):gC K [.ref a] H Q:=#[a,ob,zs,rfl,b,c,d,f,e,h]
theorem Ep {j:Int} {m:Nat} (hi:PySem.Builtin.Int.intBits i<=m) (a:PySem.Builtin.Int.intBits j<=n) (h:m+n<=134217728) (q:Q (.int (i*j)) H):qH (.int i) (.int j) H Q:=#[i,j,rfl,rfl,PyProof.Rows.mulOk_of_bits hi a h,q]
theorem yH (a:k<9000) (q:Q (.int (i/2^k)) H):lX (.int i) (.int (1*2^(k:Int).toNat)) H Q:=by rw[Int.one_mul,Ó];show#[_,_,rfl,rfl,#[Int.pow_pos (by decide),?_],q];rw[Int.natAbs_pow,show(2:Int).natAbs=2 from rfl,Nat.log2_two_pow];show a
theorem vW {i:Nat} (h:i<=1000000):PySem.Builtin.Int.intBits ((i:Nat):Int)<=2^20:=PySem.intBits_le_iff.mpr (by rw[Int.natAbs_natCast];show Ý (Ù h (by decide:1000000<2^20)) (Nat.pow_le_pow_right (by decide) (by decide)))
theorem ur (b:0<k) (h:PySem.Builtin.Int.intBits i<=n):PySem.Builtin.Int.intBits (i/(k:Int))<=n:=by
 show PyProof.Rows.bits_of_natAbs_le ?_ h;have a:=Int.mul_ediv_add_emod i k;have g:=ĩ i (show(k:Int)≠0 by rfl');have j:=Ğ i (show 0<(k:Int)by rfl');generalize i/(k:Int)=q at a⊢;generalize i%(k:Int)=r at*;rcases(show q<0\/0<=q by rfl')with hq|hq
 .have:(k:Int)*q<=q:=by have:=Int.mul_le_mul_of_nonpos_right (show(1:Int)<=k by rfl') (Int.le_of_lt hq);rfl'
  have f:(k:Int)*q<=(k:Int)*(-1):=Int.mul_le_mul_of_nonneg_left () ();rcases(show(k:Int)*q+r<0\/0<=(k:Int)*q+r by rfl')with h5|h5
  .by_cases e:q= -1;.rfl'
   .have d:((k:Int)-1)*(q+1)<=0:=Int.mul_nonpos_of_nonneg_of_nonpos () ();have c:((k:Int)-1)*(q+1)=(k:Int)*q+k-q-1:=by rw[Int.sub_mul,Int.mul_add,Int.mul_one,Int.one_mul];rfl'
    rfl'
  .rfl'
 .have:q<=(k:Int)*q:=by have:=Int.mul_le_mul_of_nonneg_right (show(1:Int)<=k by rfl') hq;rfl'
  rfl'
theorem Q7 {b:Addr} {xs:List V} (c:H a=!(.tup xs)) (d:H b=!(.tup ys)) (f:xs.length+ys.length<=1000000) (h:∀p H',Same H H'->H' p=!(.tup (xs++ys))->Q (.ref p) H'):yu K (.ref a) (.ref b) H Q:=by
 show#[a,b,xs,ys,rfl,rfl,SqT.of c,SqT.of d,Û f (by decide),λe=>?_,λ_ e=>?_,λ_ _ p g=>h p _ (aB g _) ao];.subst e;show h b H (Same.refl _) d
 .subst e;show h a H (Same.refl _) (by rw[å];show c)
end
section
variable{σ:St} {H:Hp} {D:Ends} {u:TS}
theorem Q8 {a:TE} {g:TG} (h:aP a g {D with nx:=u D} σ H):aF (aP a g) u D σ H:=h
end
theorem iH {zs:List Lz} {s:Str} (h:Fo.lk (zs.map λz:Lz=>(z.2.1,z.2.2.2)) s=!co):∃z∈zs,z.2.2.2=co/\bQ (zs.map λz:Lz=>((Sum.inr z.2.1:Key),V.ref z.2.2.1)) (Sum.inr s)=!(.ref z.2.2.1):=by induction zs with
 |nil=>cases h|cons p r ih=>
  rw[Ä,Fo.jX]at h;by_cases e:p.2.1=s
  .rw [if_pos e]at h;cases h;show#[p,Ì,rfl,cP (p:=(Sum.inr p.2.1,V.ref p.2.2.1)) (by rw[e])]
  .rw [if_neg e]at h;let#[q,m,b,a]:=ih h;show#[q,Í _ m,b,(cB (p:=((Sum.inr p.2.1:Key),V.ref p.2.2.1)) (λz=>e (ř z))).trans a]
theorem vX (a:Str):¬NT a a:=List.lt_irrefl _
theorem jY {ns:List Str} (h:ns.Pairwise NT):ns.Nodup:=List.Pairwise.imp (S:=λa b=>a≠b) (λ{a b} (z:NT a b) (e:a=b)=>vX a (by rw[<-e]at z;show z)) h
section
variable{σ:St} {H:Hp} {Q:VK} {D:Ends} {K:W.Frag} {g:TG} {κ:List (Option Nat)} {tc:TT} {te:TE}
theorem Er {o:Type} (c:o->V) {zs:List o} (w:SqT K H a (zs.map c)) (A:zs.length<=1000000) (d:Nat->List V->Hp->Prop) (B:d 0 [] H) (s:∀i ys H',d i ys H'->SqT K H' a (zs.map c)) (hz:∀i ys H',d i ys H'->ys.length<=i)(v:∀(i:Nat) z ys H',zs[i]?=!z->d i ys H'->g (c z) (cap κ σ) H' λj H2=>pK (cap κ σ) j/\tc j H2 λb H3=>if b=true then te j H3 λy u=>d (i+1) (ys++[y]) u else d (i+1) ys H3)(C:∀ys H',d zs.length ys H'->∀p,H' p=none->Q (.ref p) (upd H' p (.lst ys))):iT K (HW κ g tc te σ Q) (.ref a) H:=by
 show#[a,rfl,#[_,w],λi m ys H'=>m=zs.length-i/\i<=zs.length/\d i ys H',#[zs.length,by simp,ñ _,B],?_];rintro i m ys H' ⟨rfl,hi,p⟩;have q:=s i ys H' p;by_cases f:i<zs.length
 .have n:zs[i]?=some zs[i]:=Zz f;show .inr #[#[_,c zs[i],q,by rw[Xs,n];rfl],?_,λk h=>d (i+1) k h,λk h l=>#[zs.length-(i+1),(),rfl,f,l],λx h y=>?_];.show Ù (hz i ys H' p) (Ý f (Û A (by decide)))
  .obtain ⟨e,y⟩:=y;subst e;have r:=y _ q;rw[Xs,n]at r;cases r;show v i _ ys _ n p
 .have e:i=zs.length:=();subst e;show .inl #[#[_,q,by simp],λl t=>C ys H' p l t]
theorem V8 {e:Type} (c:e->V) {zs:List e} (j:SqT K H a (zs.map c)) (n:zs.length<=1000000) (f:e->V)(m:∀(i:Nat) z,zs[i]?=!z->∀(A:VK),A (f z) H->g (c z) (cap κ σ) H λd H2=>pK (cap κ σ) d/\te d H2 A)(s:∀p,H p=none->Q (.ref p) (upd H p (.lst (zs.map f)))):iT K (HW κ g fu te σ Q) (.ref a) H:=by
 show Er c j n (λi b h=>h=H/\b=(zs.take i).map f) #[rfl,rfl] ?_ ?_ ?_ ?_;.rintro i b _ ⟨rfl,_⟩;show j
 .rintro i b _ ⟨rfl,rfl⟩;rw[Qb,Ñ];rfl'
 .rintro i z b h hz ⟨o,rfl⟩;subst o;have r:zs.take (i+1)=zs.take i++[z]:=by rw[Ø,hz];rfl
  have q:=m i z hz (λy l=>l=h/\(zs.take i).map f++[y]=(zs.take (i+1)).map f) #[rfl,by rw[r,Wp];rfl];simpa only[fu,Ģ]using q
 .rintro b _ ⟨rfl,rfl⟩ p k;rw[ä];show s p k
end
end L2
namespace Mm
theorem nZ:∀{a b c d:List Nat},a.length=c.length->dw (a++b) (c++d)=dw a c+dw b d
 |[],b,[],d,_=>by simp[dw]|x::a,b,y::c,d,h=>by rw[ŕ,ŕ,dw,dw,nZ (by simpa using h)];rfl'
end Mm
namespace L2
open PySem
variable{a:Addr} {kvs:List (List Key×V)}
section
variable{σ:St} {H:Hp} {Q:VK} {D:Ends} {K:W.Frag}
theorem Lg {bs:List Bool} (e:SqL K H a (bs.map V.bl)) (h:Q (.bl (bs.all id)) H):Cu K [.ref a] H Q:=#[a,bs,rfl,e,h]
theorem Q9 (e:H a=!(.dT kvs)) (h:Q (.int kvs.length) H):DN [.ref a] H Q:=#[a,kvs,rfl,e,h]
end
theorem j9 {a:Type} {f:a->Key} {g:a->V} {zs:List a} {k:Key} (h:k∉zs.map f):bQ (zs.map λz=>(f z,g z)) k=none:=by induction zs with
 |nil=>rfl|cons z r ih=>rw[Ä]at h⊢;rw[cB (λe=>h (by rw[<-e];show Ì))];show ih (λm=>h (Í _ m))
theorem V9 {s:Str} (n:Nat) (h:Hs.Sg s):Sh n (.str s):=by let#[k,rfl]:=h;show PK n λc a=>by rw[Zp.mp a];show Hs.Q5 k
def Zg (K:W.Frag) (H:Hp) (a:Addr) (ht:Nat) (ls:List (Str×List Nat)):Prop:=∃(l:Addr) (zs:List Lz),H a=!(.tup [.int (ht:Int),.ref l])/\zs.map (λz:Lz=>(z.2.1,z.2.2.2))=ls/\H l=!(.tup (zs.map λz:Lz=>V.ref z.1))/\∀z∈zs,H z.1=!(.tup [.str z.2.1,.ref z.2.2.1])/\H z.2.2.1=!(.tup (nv z.2.2.2))
noncomputable def Zh (ht:Nat) (ls:List (Str×List Nat)):PyData:=.tuple [.int (ht:Int),.tuple (ls.map λp=>.tuple [.str p.1,.tuple ((p.2.map λi:Nat=>(i:Int)).map PyData.int)])]
def Zi (H:Hp) (p:Addr) (zs:List Lz):Prop:=H p=!(.lst (zs.map λz:Lz=>V.ref z.1))/\∀z∈zs,H z.1=!(.tup [.str z.2.1,.ref z.2.2.1])/\H z.2.2.1=!(.lst (nv z.2.2.2))
noncomputable def uI (ls:List (Str×List Nat)):PyData:=.list (ls.map λp=>.tuple [.str p.1,.list ((p.2.map λi:Nat=>(i:Int)).map PyData.int)])
end L2
namespace Fo
open PySem L2
structure GoodL (ht:Nat) (zs:List Lz):Prop where
 pos:1<=zs.length
 le:zs.length<=40
 nd:(zs.map λz:Lz=>z.2.1).Nodup
 sg:∀z∈zs,Hs.Sg z.2.1
 c1:∀z∈zs,1<=z.2.2.2.length/\z.2.2.2.length<=8
 cb:∀z∈zs,∀x∈z.2.2.2,x<2^ht
def Of (zs:List Lz) (ls:List (Str×List Nat)):Prop:=ls.Perm (zs.map λz:Lz=>(z.2.1,z.2.2.2))/\(ls.map (·.1)).Pairwise NT
end Fo
namespace L2
open PySem
variable{H:Hp} {Q:VK} {k:Sk} {σ:St} {tb:TS} {v y:V} {a b:Addr} {xs:List V} {R:It->Hp->Prop} {hi lo:Option Int} {kvs:List (Addr×Sk×V)}
abbrev Gz:=Addr×V×Addr×List V
def Zj (H:Hp) (p:Addr) (gs:List Gz):Prop:=H p=!(.lst (gs.map λg:Gz=>V.ref g.1))/\∀g∈gs,H g.1=!(.tup [g.2.1,.ref g.2.2.1])/\H g.2.2.1=!(.lst g.2.2.2)/\Thing H g.2.1/\(∀v∈g.2.2.2,Thing H v)/\g.2.2.2.length<=1000
noncomputable def Zk (z:Lz):Gz:=(z.1,V.str z.2.1,z.2.2.1,nv z.2.2.2)
theorem Es {c:Int} {n m:Nat} (a:0<n) (e:c%(n:Int)=(m:Int)) (h:Q (.int (m:Int)) H):cL (.int c) (.int (n:Int)) H Q:=#[c,n,rfl,rfl,(),by change Q (.int (c%(n:Int))) H;rw[e];show h]
theorem zZ {K:W.Frag} {l:Addr} {zs:List V} (a:H l=!(.lst xs)) (c:SqT K H b zs) (d:xs.length+zs.length<=1000000) (h:Q .non (upd H l (.lst (xs++zs)))):jR K (.ref l) [.ref b] H Q:=#[l,b,xs,zs,rfl,rfl,a,c,Û d (by decide),h]
section
variable{σ:St} {H:Hp} {Q:VK} {D:Ends} {K:W.Frag} {g:TG} {tb:TS} {κ:List (Option Nat)} {tc:TT} {te:TE}
def Zm (K:W.Frag) (R:It->Hp->Prop) (vs:List V) (H:Hp):Prop:=∃a b xs ys,vs=[.ref a,.ref b]/\SqT K H a xs/\SqL K H b ys/\R (Tr K a b) H
def Zn (R:It->Hp->Prop) (vs:List V) (H:Hp):Prop:=∃i j:Int,vs=[.int i,.int j,.int (-1)]/\(-(2^62)<=i/\i<2^62/\-(2^62)<=j/\j<2^62)/\R (Tt i (i-j).toNat) H
def Zo (K:W.Frag) (R:It->Hp->Prop) (vs:List V) (H:Hp):Prop:=∃a b xs ys,vs=[.ref a,.ref b]/\SqL K H a xs/\SqT K H b ys/\R (U5 K a b) H
def Zq (K:W.Frag) (R:It->Hp->Prop) (vs:List V) (H:Hp):Prop:=∃a xs,vs=[.ref a]/\SqL K H a xs/\R (Tz K a xs.length) H
def Zr (K:W.Frag) (R:It->Hp->Prop) (vs:List V) (H:Hp):Prop:=∃a xs,vs=[.ref a]/\SqT K H a xs/\R (TJ K a xs.length) H
end
theorem ar1 {a:Type} {P:List a->Prop} (h:∀a0:a,P [a0]):∀us:List a,us.length=1->P us|[a0],_=>h a0
theorem ar2 {a:Type} {P:List a->Prop} (h:∀a0 a1:a,P [a0,a1]):∀us:List a,us.length=2->P us|[a0,a1],_=>h a0 a1
theorem Z3 {a:Type} {P:List a->Prop} (h:∀a0 a1 b:a,P [a0,a1,b]):∀us:List a,us.length=3->P us|[a0,a1,b],_=>h a0 a1 b
theorem Z4 {a:Type} {P:List a->Prop} (h:∀a0 a1 b c:a,P [a0,a1,b,c]):∀us:List a,us.length=4->P us|[a0,a1,b,c],_=>h a0 a1 b c
theorem Z5 {a:Type} {P:List a->Prop} (h:∀a0 a1 c d b:a,P [a0,a1,c,d,b]):∀us:List a,us.length=5->P us|[a0,a1,c,d,b],_=>h a0 a1 c d b
structure RefN (K:W.Frag) (C B D1 D2:Addr):Prop where
 ex:ExcK K C
 em:PySem.W.exmOne K (.ref C) (.ref C)=!true
 kb:PySem.W.kitOne K (.ref C) (.ref B)=!true
 kv:PySem.W.kitOne K (.ref C) (.type "ValueError")=!true
 k1:PySem.W.kitOne K (.ref C) (.ref D1)=!false
 k2:PySem.W.kitOne K (.ref C) (.ref D2)=!false
namespace Tn
noncomputable def dv (cs:List Nat):Nat:=PySem.NumText.digitsVal cs
noncomputable def KH (c:Nat):List Nat->List (List Nat)|[]=>[[]]|x::r=>if x=c then []::KH c r else match KH c r with
  |[]=>[[x]]|p::ps=>(x::p)::ps
noncomputable def Et (c:Nat):List (List Nat)->List Nat
 |[]=>[]|[p]=>p|p::q::r=>p++c::Et c (q::r)
end Tn
structure RefC (K:W.Frag) (C B D1 D2:Addr) (b1 b2:Bool):Prop where
 ex:ExcK K C
 em:PySem.W.exmOne K (.ref C) (.ref B)=!true
 kv:PySem.W.kitOne K (.ref C) (.type "ValueError")=!true
 k1:PySem.W.kitOne K (.ref C) (.ref D1)=!b1
 k2:PySem.W.kitOne K (.ref C) (.ref D2)=!b2
def YD (R:It->Hp->Prop):V->Hp->Prop:=λx H1=>∃a kvs,x=.ref a/\((H1 a=!(.dK kvs)/\∀od,R (zK od a) (upd H1 a (.frz od (.dK kvs))))\/∃od,H1 a=!(.frz od (.dK kvs))/\R (zK od a) H1)
section
variable{σ:St} {H:Hp} {Q:VK} {D:Ends} {K:W.Frag} {g:TG} {κ:List (Option Nat)} {tc:TT} {te:TE}
theorem Eu {a:TE} (h:a σ H (YD R)):vq a σ H R:=h
end
noncomputable def kz (kvs:List Kz):List (Str×List Nat):=kvs.map λp:Kz=>(p.1,p.2.2)
def LtL (H:Hp) (d:Addr) (ls:List (Str×List Nat)):Prop:=∃kvs:List Kz,Rd H d (.dK (Z2 kvs))/\(∀p∈kvs,H p.2.1=!(.tup (nv p.2.2)))/\(∀s,Fo.lk (kz kvs) s=Fo.lk ls s)
structure RefD (K:W.Frag) (C B D1 D2 D3:Addr) (b1 b2 b3:Bool) (ds es:List Addr):Prop where
 ex:ExcK K C
 em:PySem.W.exmOne K (.ref C) (.ref B)=!true
 k1:PySem.W.kitOne K (.ref C) (.ref D1)=!b1
 k2:PySem.W.kitOne K (.ref C) (.ref D2)=!b2
 k3:PySem.W.kitOne K (.ref C) (.ref D3)=!b3
 ka:PySem.W.kitAny K (.ref C) (ds.map Value.ref)=!false
 kb:PySem.W.kitAny K (.ref C) (es.map Value.ref)=!false
 kv:PySem.W.kitOne K (.ref C) (.type "ValueError")=!true
namespace Tn
structure GR (W:List Nat->Nat) (wide:Int) (ws rows:List (List Nat)):Prop where
 nil:rows=[]↔ws=[]eq:Et 32 rows=Et 32 ws
 ok:∀r∈rows,r≠[]/\(W r:Int)<=wide
 mx:∀k (h:k+1<rows.length),wide<(W (rows[k]++32::(KH 32 rows[k+1]).headD []):Int)
end Tn
def KL (K:W.Frag) (C:Addr):List (Addr×Bool)->Prop
 |[]=>True|p::r=>PySem.W.kitOne K (.ref C) (.ref p.1)=!p.2/\KL K C r
structure RefG (K:W.Frag) (C B:Addr) (ks:List (Addr×Bool)):Prop where
 ex:ExcK K C
 em:PySem.W.exmOne K (.ref C) (.ref B)=!true
 kv:PySem.W.kitOne K (.ref C) (.type "ValueError")=!true
 kl:KL K C ks
def KA (K:W.Frag) (C:Addr):List (List Addr)->Prop
 |[]=>True
 |p::r=>PySem.W.kitAny K (.ref C) (p.map Value.ref)=!false/\KA K C r
structure RefH (K:W.Frag) (C B:Addr) (ks:List (Addr×Bool)) (ls:List (List Addr)):Prop where
 ex:ExcK K C
 em:PySem.W.exmOne K (.ref C) (.ref B)=!true
 kv:PySem.W.kitOne K (.ref C) (.type "ValueError")=!true
 kl:KL K C ks
 ka:KA K C ls
structure RefE (K:W.Frag) (C B D1 D2:Addr) (b1 b2:Bool) (ds:List Addr):Prop where
 ex:ExcK K C
 em:PySem.W.exmOne K (.ref C) (.ref B)=!true
 k1:PySem.W.kitOne K (.ref C) (.ref D1)=!b1
 k2:PySem.W.kitOne K (.ref C) (.ref D2)=!b2
 kv:PySem.W.kitOne K (.ref C) (.type "ValueError")=!true
 ka:PySem.W.kitAny K (.ref C) (ds.map Value.ref)=!false
def LL (H:Hp) (p:Addr) (rows:List (Addr×List Nat)):Prop:=H p=!(.lst (rows.map λr:Addr×List Nat=>V.ref r.1))/\∀r∈rows,H r.1=!(.lst (nv r.2))
theorem Qa {l:Addr} (e:H l=!(.lst (y::xs))) (h:Q y (upd H l (.lst xs))):uX (.ref l) [.int 0] H Q:=⟨l,y::xs,0,0,y,rfl,rfl,e,by decide,by decide,by unfold seqIndex?;simp,rfl,h⟩
theorem s_pop {l:Addr} (e:H l=!(.lst (xs++[y]))) (h:Q y (upd H l (.lst xs))):Nf (.ref l) [] H Q:=#[l,xs++[y],y,rfl,rfl,e,by simp,by rw[List.dropLast_concat];show h]
section
variable{σ:St} {H:Hp} {Q:VK} {D:Ends} {K:W.Frag} {g:TG} {tb:TS}
def Zt (r:V->V->Hp->VK->Prop) (Q:VK) (vs ks:List V) (H:Hp):Prop:=∃x y,vs=[x]/\ks=[y]/\r x y H Q
def Zu (K:W.Frag) (R:It->Hp->Prop) (vs ks:List V) (H:Hp):Prop:=∃a xs o,vs=[.ref a]/\ks=[.int ((o:Nat):Int)]/\o<=1000000000/\SqL K H a xs/\R (Yt K a o) H
def Zv (K:W.Frag) (R:It->Hp->Prop) (vs:List V) (H:Hp):Prop:=∃a xs,vs=[.ref a]/\SqT K H a xs/\R (U4 K a) H
def Zw (R:It->Hp->Prop) (vs ks:List V) (H:Hp):Prop:=∃x o,vs=[.str x]/\ks=[.int ((o:Nat):Int)]/\o<=1000000000/\R (U3 x o) H
end
def Zx (H:Hp) (p:Addr) (rows:List (List Nat)):Prop:=∃as:List Addr,as.length=rows.length/\H p=!(.lst (as.map V.ref))/\∀(i:Nat) a r,as[i]?=!a->rows[i]?=!r->H a=!(.lst (nv r))
theorem Qc {D:Ends} {g:TG} {kvs:List (Key×V)} (j:Rd H a (.dK kvs)) (c:PySem.Obj->Nat->St->Hp->Prop) (u:∀od H1,Sb [a] H H1->H1 a=!(.frz od (.dK kvs))->c od 0 σ H1) (l:∀od i σ H',c od i σ H'->H' a=!(.frz od (.dK kvs)))(s:∀od (i:Nat) z σ H',kvs[i]?=!z->c od i σ H'->g (kV z.1) σ H' λf H2=>tb {D with nx:=c od (i+1),ct:=c od (i+1),bk:=D.nx} f H2) (C:∀od σ H',c od kvs.length σ H'->D.nx σ H'):YD (oU g tb D σ) (.ref a) H:=by
 have key:∀od H1,Sb [a] H H1->H1 a=!(.frz od (.dK kvs))->oU g tb D σ (zK od a) H1:=by
  intro od H1 sb t;show#[λi m σ H=>m=kvs.length-i/\i<=kvs.length/\c od i σ H,#[kvs.length,by simp,ñ _,u od H1 sb t],?_];rintro i m σ H' ⟨rfl,hi,p⟩;have e:=l od i σ H' p;by_cases d:i<kvs.length;.show .inr #[#[kvs,e,d],c od (i+1),λw H' r=>#[kvs.length-(i+1),(),rfl,d,r],λx E y=>?_];let#[rfl,n]:=y;let#[k,h,v,rfl]:=n kvs e;show s od i (k,h) σ _ v p
  .have A:i=kvs.length:=();subst A;show .inl #[#[kvs,e,Ã _],C od σ H' p]
 rcases j with e|⟨od,e⟩;.show #[a,kvs,rfl,.inl #[e,λod=>key od _ ?_ ao]];intro b o B q;rw[az (by simpa using B)];show q
 .show #[a,kvs,rfl,.inr #[od,e,key od H (λb o _ q=>q) e]]
section
variable{σ:St} {H:Hp} {Q:VK} {D:Ends} {K:W.Frag} {g:TG} {κ:List (Option Nat)} {tc:TT} {te:TE}
def YF (K:W.Frag) (R:It->Hp->Prop) (vs:List V) (H:Hp):Prop:=∃a b xs ys,vs=[.ref a,.ref b]/\SqT K H a xs/\SqT K H b ys/\R (O3 K a b) H
theorem K8 {a:TA} (h:a σ H (YF K R)):yl K a σ H R:=h
theorem Va {C D:Type} (c:C->V) (d:D->V) {xs:List C} {h:List D} (u:SqT K H a (xs.map c)) (w:SqT K H b (h.map d)) (J:xs.length=h.length) (N:xs.length<=1000000) (f:C->D->V)(L:∀(i:Nat) x y p H',xs[i]?=!x->h[i]?=!y->Same H H'->H' p=!(.tup [c x,d y])->∀A:VK,(∀n,Same H' n->A (f x y) n)->g (.ref p) (cap κ σ) H' λr H2=>pK (cap κ σ) r/\te r H2 A)(P:∀p H',Same H H'->H' p=!(.lst (List.zipWith f xs h))->Q (.ref p) H'):YF K (HW κ g fu te σ Q) [.ref a,.ref b] H:=by
 show#[a,b,_,_,rfl,u,w,λi m zs H'=>m=xs.length-i/\i<=xs.length/\Same H H'/\zs=List.zipWith f (xs.take i) (h.take i),#[xs.length,by simp,ñ _,Same.refl H,rfl],?_];rintro i m zs H' ⟨rfl,hi,j,rfl⟩;by_cases k:i<xs.length
 .have B:xs[i]?=some xs[i]:=Zz k;have t:h[i]?=!(h[i]'(by rfl')):=Zz ();show .inr #[#[_,_,c xs[i],d (h[i]'(by rfl')),j.tup u,j.tup w,by rw[Xs,B];rfl,by rw[Xs,t];rfl],?_,λo l=>Same H l/\o=List.zipWith f (xs.take (i+1)) (h.take (i+1)),λo l E=>#[xs.length-(i+1),(),rfl,k,E.1,E.2],λv l y=>?_]
  .have:(List.zipWith f (xs.take i) (h.take i)).length<=i:=by rw[List.length_zipWith,Ñ];rfl'
   show Ù this (Ý k (Û N (by decide)))
  .obtain ⟨p,x,z,s,rfl,rfl,I,M⟩:=y;have G:=I _ (j.tup u);have F:=M _ (j.tup w);rw[Xs,B]at G;rw[Xs,t]at F;cases G;cases F;have q:=L i _ _ p (upd H' p (.tup [c xs[i],d (h[i]'(by rfl'))])) B t (j.new s) ao (λy n=>Same H n/\List.zipWith f (xs.take i) (h.take i)++[y]=List.zipWith f (xs.take (i+1)) (h.take (i+1))) (λn O=>#[(j.new s).trans O,?_]);.simpa only[fu,Ģ]using q
   .rw [Ø,Ø,B,t,List.zipWith_append (by rw[Ñ,Ñ];rfl')];rfl
 .have e:i=xs.length:=();subst e;show .inl #[#[_,_,j.tup u,j.tup w,.inl (by simp)],λp s=>P p _ (j.new s) ?_];rw[ao,ä,J,ä]
end
theorem Lh {K:W.Frag} (e:SqT K H a xs) (h:∀p H',Same H H'->SqT K H' p (fM xs lo hi)->Q (.ref p) H'):lN K (.ref a) lo hi H Q:=⟨a,xs,rfl,e,λp H' c b=>h p H' (by
 rcases c with⟨rfl,rfl,_⟩|⟨hn,rfl⟩;.show Same.refl _
 .show aB hn _) b⟩
theorem lA {K:W.Frag} (e:H a=!(.tup xs)) (h:∀p H',Same H H'->H' p=!(.tup (fM xs lo hi))->Q (.ref p) H'):lN K (.ref a) lo hi H Q:=⟨a,xs,rfl,SqT.of e,λp H' c b=>by
 rcases c with⟨rfl,rfl,z⟩|⟨hn,rfl⟩;.show h _ _ (Same.refl _) (by rw[z];show e)
 .show h _ _ (aB hn _) ao⟩
theorem StA.same {a:Hp} (h:StA H b k) (s:Same H a):StA a b k:=by let#[c,d,e]:=h;show#[c,s.get d,s.get e]
theorem SGet.of (e:H a=!(bA a kvs)) (c:∀p∈kvs,StA H p.1 p.2.1) (d:StA H b k):SGet H a (.ref b) (cR kvs k):=#[kvs,k,b,.inl e,c,rfl,d,rfl]
theorem SPut.of (e:H a=!(bA a kvs)) (c:∀p∈kvs,StA H p.1 p.2.1) (f:StA H b k) (d:kvs.length<=1000000):SPut H a (.ref b) v (upd H a (bA a (qK kvs b k v))):=#[kvs,k,b,e,c,rfl,f,Ù d (by decide),rfl]
theorem jr:cR kvs k=none↔k∉kvs.map (·.2.1):=by
 unfold cR;rw[Ξ,List.find?_eq_none];constructor;.intro h m;let#[p,a,e]:=Zl.mp m;show h p a (Ö e)
 .intro h p a e;show h (Zl.mpr #[p,a,ò e])
theorem qb (h:cR kvs k=!v):∃b,(b,k,v)∈kvs:=by
 unfold cR at h;let#[p,a,rfl]:=á.mp h;have c:=ň a;have d:p.2.1=k:=by have:=ξ a;show ò this
 show#[p.1,by rw[<-d];show c]
theorem jb (h:cR kvs k=none):qK kvs b k v=kvs++[(b,k,v)]:=by unfold qK;rw[h];rfl
section
variable{σ:St} {H:Hp} {Q:VK} {D:Ends} {K:W.Frag} {g:TG} {tb:TS}
theorem Qd {j:Type} (c:j->V) {xs:List j} (s:SqL K H a (xs.map c)) (b:Nat->St->Hp->Prop) (u:b 0 σ H)(t:∀i σ H',b i σ H'->SqL K H' a (xs.map c))(q:∀(i:Nat) x p σ H',xs[i]?=!x->b i σ H'->H' p=none->g (.ref p) σ (upd H' p (.tup [.int (i:Int),c x])) λh H2=>tb {D with nx:=b (i+1),ct:=b (i+1),bk:=D.nx} h H2)(z:∀σ H',b xs.length σ H'->D.nx σ H'):iE K (oU g tb D σ) [.ref a] H:=by
 show#[a,_,rfl,s,λi m σ H=>m=xs.length-i/\i<=xs.length/\b i σ H,#[xs.length,by simp,ñ _,u],?_];rintro i m σ H ⟨rfl,hi,p⟩;have f:=t i σ H p;by_cases d:i<xs.length
 .have l:(xs.map c)[i]?=!(c xs[i]):=by rw[Xs,Zz d];rfl
  show .inr #[#[_,_,f,l],b (i+1),λw H' o=>#[xs.length-(i+1),(),rfl,d,o],λv H' y=>?_];let#[r,B,n,rfl,rfl,A]:=y;have k:=A _ f;rw[l]at k;cases k;show q i _ r σ H (Zz d) p n
 .have e:i=xs.length:=();subst e;show .inl #[#[_,f,by rw[Qb];show Ã _],z σ H p]
end
theorem cW {p q:Addr} {a:List V} {o:HO} (h:H p=!(.tup xs)) (e:H q=!(.lst a)):upd H q o p=!(.tup xs):=by rw[az λz=>by rw[z,e]at h;cases h];show h
theorem jZ {D:Ends} {c:TT} (d:Nat->St->Hp->Prop) (l:Nat) (o:d l σ H)(q:∀m σ H (N:St->Hp->Prop),d m σ H->(∀m' σ' H',m'<m->d m' σ' H'->N σ' H')->c σ H λb H1=>if b=true then tb {D with nx:=N,ct:=N,bk:=D.nx} σ H1 else D.nx σ H1)(e:∀σ H Q n,(∀b H1,Q b H1->n b H1)->c σ H Q->c σ H n):fc c tb D σ H:=by classical
 have a:∀(P:Nat->Prop),(∃m,P m)->∃m,P m/\∀k,P k->m<=k:=λP ⟨m,j⟩=>by induction m using Nat.strongRecOn with|ind m ih=>
   by_cases h:∃k,k<m/\P k;.obtain ⟨k,g,i⟩:=h;show ih k g i
   .show #[m,j,λk i=>Nat.le_of_not_lt λg=>h #[k,g,i]]
 show m5 (λσ H=>∃m,d m σ H) (λσ H=>if h:∃m,d m σ H then(a (λm=>d m σ H) h).choose else 0) #[l,o] ?_ e;intro σ H h;let#[p,r]:=(a (λm=>d m σ H) h).choose_spec;show q _ σ H _ p λm' σ' H' j f=>#[#[m',f],?_];rw[Ů h,Ů #[m',f]];show Ù ((a (λm=>d m σ' H') #[m',f]).choose_spec.2 m' f) j
theorem Aa (h:cR kvs k=none):cR (kvs++[(b,k,v)]) k=!v:=by unfold cR at h⊢;rw[List.find?_append,Ξ.mp h];simp
theorem Ew (h:k∈kvs.map (·.2.1)):∃v,cR kvs k=!v:=by cases e:cR kvs k with
 |none=>show absurd h (jr.mp e)|some v=>show#[v,rfl]
end L2
namespace Mm
section
variable{α:Type}
inductive Rch (bs:List α) (nx:α->List α):α->Prop|base {x:α} (h:x∈bs):Rch bs nx x|step {x y:α} (h:Rch bs nx x) (m:y∈nx x):Rch bs nx y
theorem Rch.all {bs:List α} {nx:α->List α} {P:α->Prop} (a:∀x∈bs,P x) (b:∀x y,P x->y∈nx x->P y):∀{x},Rch bs nx x->P x:=λh=>by induction h with
 |base h=>show a _ h|step h m ih=>show b _ _ ih m
structure Clo (bs:List α) (nx:α->List α) (F W:List α):Prop where
 nd:F.Nodup
 rF:∀x∈F,Rch bs nx x
 rW:∀x∈W,Rch bs nx x
 b:∀x∈bs,x∈F\/x∈W
 c:∀x∈F,∀y∈nx x,y∈F\/y∈W
theorem Clo.start (bs:List α) (nx:α->List α):Clo bs nx [] bs:=#[List.nodup_nil,λx m=>(by cases m),λx m=>.base m,λx m=>.inr m,λx m=>(by cases m)]
theorem Clo.skip {bs:List α} {nx:α->List α} {F W:List α} {x:α} (h:Clo bs nx F (W++[x])) (m:x∈F):Clo bs nx F W:=by
 have k:∀y,y∈F\/y∈W++[x]->y∈F\/y∈W:=λy a=>by
  rcases a with a|a;.show .inl a
  .rcases Â.mp a with a|a;.show .inr a
   .rw [Zp.mp a];show .inl m
 show#[h.nd,h.rF,λy d=>h.rW y (Ü _ d),λy d=>k y (h.b y d),λy d z e=>k z (h.c y d z e)]
theorem Clo.take {bs:List α} {nx:α->List α} {F W:List α} {x:α} (h:Clo bs nx F (W++[x])) (m:x∉F):Clo bs nx (F++[x]) (W++nx x):=by
 have i:=h.rW x (Ï _ (Zp.mpr rfl));have k:∀y,y∈F\/y∈W++[x]->y∈F++[x]\/y∈W++nx x:=λy f=>by
  rcases f with f|f;.show .inl (Ü _ f)
  .rcases Â.mp f with f|f;.show .inr (Ü _ f)
   .show .inl (Ï _ f)
 show#[?_,λy d=>?_,λy d=>?_,λy d=>k y (h.b y d),λy d z g=>?_];.show ð.mpr #[h.nd,by simp,λa j b l e=>m ?_];rw[Zp.mp l]at e;rw[<-e];show j
 .rcases Â.mp d with d|d;.show h.rF y d
  .rw [Zp.mp d];show i
 .rcases Â.mp d with d|d;.show h.rW y (Ü _ d)
  .show .step i d
 .rcases Â.mp d with d|d;.show k z (h.c y d z g)
  .rw [Zp.mp d]at g;show .inr (Ï _ g)
theorem Clo.fin {bs:List α} {nx:α->List α} {F:List α} (h:Clo bs nx F []) (x:α):x∈F↔Rch bs nx x:=by show#[h.rF x,λr=>?_];induction r with
 |base m=>show(h.b _ m).resolve_right (by simp)|step r m ih=>show(h.c _ ih _ m).resolve_right (by simp)
end
end Mm
namespace L2
open PySem
variable{H:Hp} {Q:VK} {a:Addr} {td ty:TE} {R:It->Hp->Prop} {us:List (V×PyData)} {kvs:List (Addr×Sk×V)}
def Ss (t:TE):Prop:=∀σ H (Q Q':VK),(∀v H1,Q v H1->Q' v H1)->t σ H Q->t σ H Q'
def WL (t:TT):Prop:=∀σ H (Q Q':Bool->Hp->Prop),(∀v H1,Q v H1->Q' v H1)->t σ H Q->t σ H Q'
def WM (r:R2):Prop:=∀x y H (Q Q':VK),(∀v H1,Q v H1->Q' v H1)->r x y H Q->r x y H Q'
theorem jD (i:Nat):Ss (aa i):=λa H Q b h ⟨v,e,z⟩=>#[v,e,h _ _ z]
theorem Qe (v:V):Ss (tC v):=λa H Q b h z=>h _ _ z
theorem kh {r:R2} {a b:TE} (d:WM r) (e:Ss a) (c:Ss b):Ss (aH r a b):=λf H Q g h z=>e _ _ _ _ (λx H1 z=>c _ _ _ _ (λy H2 z=>d _ _ _ _ _ h z) z) z
theorem qX (g:Int->Int->V):WM (rO g):=λx y H Q c h ⟨i,j,b,a,z⟩=>#[i,j,b,a,h _ _ z]
theorem yI (C:Int->Int->Prop) (g:Int->Int->V):WM (rI C g):=λx y H Q d h ⟨i,j,b,a,c,z⟩=>#[i,j,b,a,c,h _ _ z]
theorem m6 {t:TE} (a:Ss t):WL (aZ t):=λb H Q c h z=>a _ _ _ _ (λx H1 ⟨k,e,z⟩=>#[k,e,h _ _ z]) z
theorem Qf {t u:TT} (b:WL t) (a:WL u):WL (jH t u):=λd H Q e h z=>b _ _ _ _ (λc H1 z=>by cases c with
 |true=>show a _ _ _ _ h z|false=>show h _ _ z) z
theorem K9 (K:W.Frag):WM (rNeD K):=λx y H Q g h ⟨d,e,b,c,f,a,z⟩=>#[d,e,b,c,f,a,h _ _ z]
def WN (R:It->Hp->Prop):V->Hp->Prop:=λx H1=>∃a kvs,x=.ref a/\((H1 a=!(bA a kvs)/\∀od,R (vK od a kvs) (upd H1 a (.frz od (bA a kvs))))\/∃od,H1 a=!(.frz od (bA a kvs))/\R (vK od a kvs) H1)
def XN (R:It->Hp->Prop):V->Hp->Prop:=λx H1=>∃a kvs,x=.ref a/\((H1 a=!(bA a kvs)/\∀od,R (vM od a kvs) (upd H1 a (.frz od (bA a kvs))))\/∃od,H1 a=!(.frz od (bA a kvs))/\R (vM od a kvs) H1)
section
variable{σ:St} {H:Hp} {Q:VK} {D:Ends} {g:TG} {tb:TS} {κ:List (Option Nat)} {tc:TT} {te:TE} {a:Addr} {kvs:List (Addr×Sk×V)}
theorem ut {a:TE} (h:a σ H (WN R)):nO a σ H R:=h
theorem qd {a:TE} (h:a σ H (XN R)):qO a σ H R:=h
theorem Ex {o:HO}:Sb [a] H (upd H a o):=λb o c q=>by rw[az (by simpa using c)];show q
theorem Li (c:Rd H a (bA a kvs)) (h:∀od H1,Sb [a] H H1->H1 a=!(.frz od (bA a kvs))->R (vK od a kvs) H1):WN R (.ref a) H:=by
 rcases c with e|⟨od,e⟩;.show #[a,kvs,rfl,.inl #[e,λod=>h od _ Ex ao]]
 .show #[a,kvs,rfl,.inr #[od,e,h od H (λb o _ q=>q) e]]
theorem Vb (c:Rd H a (bA a kvs)) (h:∀od H1,Sb [a] H H1->H1 a=!(.frz od (bA a kvs))->R (vM od a kvs) H1):XN R (.ref a) H:=by
 rcases c with e|⟨od,e⟩;.show #[a,kvs,rfl,.inl #[e,λod=>h od _ Ex ao]]
 .show #[a,kvs,rfl,.inr #[od,e,h od H (λb o _ q=>q) e]]
theorem Ey (f:Rd H a (bA a kvs)) (b:PySem.Obj->Nat->St->Hp->Prop) (j:∀od H1,Sb [a] H H1->H1 a=!(.frz od (bA a kvs))->b od 0 σ H1) (e:∀od i σ H',b od i σ H'->H' a=!(.frz od (bA a kvs)))(q:∀od (i:Nat) z σ H',kvs[i]?=!z->b od i σ H'->g (.ref z.1) σ H' λd H2=>tb {D with nx:=b od (i+1),ct:=b od (i+1),bk:=D.nx} d H2) (r:∀od σ H',b od kvs.length σ H'->D.nx σ H'):WN (oU g tb D σ) (.ref a) H:=by
 show Li f λod H1 sb h=>#[λi m σ H=>m=kvs.length-i/\i<=kvs.length/\b od i σ H,#[kvs.length,by simp,ñ _,j od H1 sb h],?_];rintro i m σ H' ⟨rfl,hi,p⟩;by_cases c:i<kvs.length;.show .inr #[#[e od i σ H' p,c],b od (i+1),λl H' o=>#[kvs.length-(i+1),(),rfl,c,o],λx s y=>?_];let#[rfl,z,k,rfl]:=y;show q od i z σ _ k p
 .have n:i=kvs.length:=();subst n;show .inl #[#[e od _ σ H' p,Ã _],r od σ H' p]
theorem Qg (f:Rd H a (bA a kvs)) (b:PySem.Obj->Nat->St->Hp->Prop) (k:∀od H1,Sb [a] H H1->H1 a=!(.frz od (bA a kvs))->b od 0 σ H1) (e:∀od i σ H',b od i σ H'->H' a=!(.frz od (bA a kvs)))(s:∀od (i:Nat) z p σ H',kvs[i]?=!z->b od i σ H'->H' p=none->g (.ref p) σ (upd H' p (.tup [.ref z.1,z.2.2])) λd H2=>tb {D with nx:=b od (i+1),ct:=b od (i+1),bk:=D.nx} d H2) (t:∀od σ H',b od kvs.length σ H'->D.nx σ H'):XN (oU g tb D σ) (.ref a) H:=by
 show Vb f λod H1 sb j=>#[λi m σ H=>m=kvs.length-i/\i<=kvs.length/\b od i σ H,#[kvs.length,by simp,ñ _,k od H1 sb j],?_];rintro i m σ H' ⟨rfl,hi,p⟩;by_cases c:i<kvs.length;.show .inr #[#[e od i σ H' p,c],b od (i+1),λn H' r=>#[kvs.length-(i+1),(),rfl,c,r],λx u y=>?_];let#[q,z,h,l,rfl,rfl]:=y;show s od i z q σ _ l p h
 .have o:i=kvs.length:=();subst o;show .inl #[#[e od _ σ H' p,Ã _],t od σ H' p]
theorem Vc (C:Rd H a (bA a kvs)) (I:kvs.length<=1000000) (f:Addr×Sk×V->Option V)
  (h:∀od H1,Sb [a] H H1->H1 a=!(.frz od (bA a kvs))->(∀(i:Nat) z,kvs[i]?=!z->∀(A:VK) (B:Hp->Prop),(∀y,f z=!y->A y H1)->(f z=none->B H1)->g (.ref z.1) (cap κ σ) H1 λj H2=>pK (cap κ σ) j/\tc j H2 λb H3=>if b=true then te j H3 A else B H3)/\∀p,H1 p=none->Q (.ref p) (upd H1 p (.lst (kvs.filterMap f)))):WN (HW κ g tc te σ Q) (.ref a) H:=by
 show Li C λod H1 sb r=>?_;let#[E,G]:=h od H1 sb r;show#[λi m u q=>m=kvs.length-i/\i<=kvs.length/\q=H1/\u=(kvs.take i).filterMap f,#[kvs.length,by simp,ñ _,rfl,rfl],?_];rintro i m u q ⟨rfl,hi,rfl,rfl⟩;by_cases d:i<kvs.length
 .have s:kvs[i]?=some kvs[i]:=Zz d;have x:kvs.take (i+1)=kvs.take i++[kvs[i]]:=by rw[Ø,s];rfl
  have n:((kvs.take i).filterMap f).length<=1000000:=Û (Ĳ _ _) (by rw[Ñ];rfl');show .inr #[#[r,d],Ù n (by decide),λk c=>c=q/\k=(kvs.take (i+1)).filterMap f,λk c t=>#[kvs.length-(i+1),(),rfl,d,t.1,t.2],λv c y=>?_];let#[rfl,z,w,rfl]:=y;rw[s]at w;have o:kvs[i]=z:=Ô w;show E i z (by rw[s,o]) (λy l=>l=c/\(kvs.take i).filterMap f++[y]=(kvs.take (i+1)).filterMap f) (λl=>l=c/\(kvs.take i).filterMap f=(kvs.take (i+1)).filterMap f)
   (λy e=>#[rfl,by rw[x,Mm.j7,o,e];rfl]) (λe=>#[rfl,by rw[x,Mm.j7,o,e];simp])
 .have F:i=kvs.length:=();subst F;show .inl #[#[r,Ã _],λp D=>?_];rw[ä];show G p D
theorem yJ {tx:TE} (h:td σ H λx H1=>∃a kvs,x=.ref a/\Rd H1 a (bA a kvs)/\ty σ H1 λy H2=>tx σ H2 λz H3=>∃o,SGet H3 a y o/\Q (o.getD z) H3):qN td ty tx σ H Q:=h
theorem EY (h:td σ H λx H1=>∃a,x=.ref a/\Nm H1 a/\ty σ H1 λy H2=>∃kvs k b v,H2 a=!(.dT kvs)/\y=.ref b/\H2 b=!(.tup (k.map kV))/\bQ kvs k=!v/\Q v (upd H2 a (.dT (dH kvs k)))):DW td ty σ H Q:=h
theorem Fb {tx:TE} (h:td σ H λx H1=>∃a,x=.ref a/\Nm H1 a/\ty σ H1 λy H2=>tx σ H2 λz H3=>∃kvs k b,H3 a=!(.dT kvs)/\y=.ref b/\H3 b=!(.tup (k.map kV))/\kvs.length<sizeLine/\(∀v,bQ kvs k=!v->Q v H3)/\(bQ kvs k=none->Q z (upd H3 a (.dT (kvs++[(k,z)]))))):DX td ty tx σ H Q:=h
theorem Qh {kvs:List (List Int×V)} (e:H a=!(.dT (kvs.map λp=>(p.1.map Sum.inl,p.2)))) (c:kvs≠[]) (h:∀b k,H b=!(.tup (k.map V.int))->k∈kvs.map (·.1)->(∀d∈kvs.map (·.1),HT.lexLt d k=false)->Q (.ref b) H):Ea [.ref a] H Q:=#[a,kvs,rfl,e,c,h]
theorem Ab (e:Rd H a (bA a kvs)) (c:∀p∈kvs,StA H p.1 p.2.1) (d:kvs.length<100000) (h:∀r (zs:List (Addr×Sk)),zs.Perm (kvs.map λp=>(p.1,p.2.1))->(zs.map (·.2)).Pairwise (λa b=>Nk.fP a b=true)->H r=none->Q (.ref r) (upd H r (.lst (zs.map λz=>V.ref z.1)))):qM [.ref a] H Q:=#[a,kvs,rfl,e,c,d,h]
theorem SGet.ofR {b:Addr} {k:Sk} (e:Rd H a (bA a kvs)) (c:∀p∈kvs,StA H p.1 p.2.1) (d:StA H b k):SGet H a (.ref b) (cR kvs k):=#[kvs,k,b,e,c,rfl,d,rfl]
end
theorem Ka {K:W.Frag} (f:PyData->Int) (e:SqL K H a (us.map (·.1))) (b:us≠[]) (d:∀u∈us,Dp K H u.1 u.2/\u.2.canLay0=true/\u.2.depth<=8) (c:∀u∈us,∀v∈us,Nk.CmpD u.2 v.2/\(Nk.qP u.2 v.2=true->f u.2<=f v.2)/\(Nk.qP u.2 v.2=false->f v.2<=f u.2)) (h:∀u∈us,(∀v∈us,f u.2<=f v.2)->Q u.1 H):qR K [.ref a] H Q:=#[a,us,f,rfl,e,b,d,c,h]
theorem Kc {b:St} (h:td b H λx H1=>∃a kvs,x=.ref a/\Rd H1 a (bA a kvs)/\ty b H1 λy H2=>∃o,SGet H2 a y o/\Q (o.getD .non) H2):vP td ty b H Q:=h
end L2
end
set_option Elab.async false
set_option linter.all false
set_option maxRecDepth 100000
open L2
local macro_rules | `(tactic| walk_at "si") => `(tactic| first | assumption | (with_reducible exact Mm.big_pos) | (with_reducible exact Int.pow_pos (by decide)) | rfl' | (dsimp only; rfl') | exact ⟨by rfl', by rfl'⟩ | exact Or.inr ⟨by rfl', by rfl'⟩ | exact Or.inl ⟨by rfl', by rfl'⟩ | exact ⟨by rfl', by rfl', by rfl'⟩ | exact ⟨by rfl', by rfl', by decide⟩ | (dsimp only; decide) | exact Mm.JM _ | exact Mm.big_pos | exact Int.pow_pos (by decide))
local macro_rules | `(tactic| walk_at "gp") => `(tactic| repeat (first | walk_at "st" | (with_reducible (refine s_lenA (xs := ?xs) ?e ?_; case e => assumption))))
local macro_rules | `(tactic| symm) => `(tactic| repeat walk_at "st")
local macro_rules | `(tactic| walk_at "gq") => `(tactic| (intro R h; (with_unfolding_all walk_at "gp"); exact h))
local macro_rules | `(tactic| walk_at "sx") => `(tactic| with_reducible first|refine Ug ?_|refine Uh ?_|refine OJ ?_|refine Ui ?_|refine Xv ?_| (refine Uj (v:= ?v) ?e ?_;case e=>with_unfolding_all exact rfl)|refine Z1 ?_|refine JP ?_|refine s_call ?_|refine Pa ?_|refine Uk ?_|refine Ut ?_| (refine XD ?_ ?_;(with_unfolding_all walk_at "si"))|refine Uu ?_|refine Uv ?_|refine Pb ?_|refine XM ?_|refine V5 ?_|refine PX ?_|refine V7 ?_|refine V6 ?_|refine Em ?_|refine Q0 ?_|refine Q3 ?_|refine En ?_|refine Xx ?_|refine Uo ?_|refine Ul ?_|refine Um ?_| (refine JZ (b:= ?b) (c:= ?c) ?h1 ?h2 ?_;(case h1=>walk_at "gq");(case h2=>walk_at "gq"))|refine Uq ?_|refine Xy ?_| (refine PB (b:= ?b) (c:= ?c) ?h1 ?h2 ?_;(case h1=>walk_at "gq");(case h2=>walk_at "gq"))|refine Ph ?_|refine Pj ?_|refine Xz ?_|refine Ur ?_|refine By ?_|refine Bw ?_|refine Uc ?_|refine Ud ?_|refine Ue ?_|refine Oz ?_|refine Xw ?_|refine P0 ?_|refine JQ ?_|refine Pk ?_| (refine Us (x:= ?v) ?e ?_;case e=>with_unfolding_all exact rfl)|refine XC ?_|refine V0 ?_| (refine s_eq ?_ ?_;with_unfolding_all exact rfl)|refine V3 ?_|refine JT ?_|refine JX ?_|refine JV ?_|refine JW ?_|refine Kc ?_|refine yJ ?_|refine EY ?_|refine Fb ?_|refine ut ?_|refine qd ?_|refine Uw ?_|refine Ux ?_| (refine UG ?_ ?_;(with_unfolding_all first | decide|(simp;rfl') | simp))|refine XF ?_|refine Eg ?_|refine Pn ?_|refine Pq ?_|refine XH ?_|refine UJ ?_|refine UT ?_|refine XJ ?_|refine JR ?_|refine Pr ?_|refine JS ?_|refine Pu ?_|refine K8 ?_|refine K3 ?_|refine Eu ?_|refine PP ?_|refine PN ?_|refine PQ ?_| (refine Uy ?_ ?_;(with_unfolding_all first | exact Xu | exact ext2 | exact ext3)))
local macro_rules | `(tactic| walk_at "st") => `(tactic| first | with_reducible refine yE ?_ | walk_at "sx")
local macro_rules | `(tactic| walk_at "sj") => `(tactic| first | with_reducible refine Q8 ?_ | walk_at "sx")
local macro_rules | `(tactic| walk_at "gj") => `(tactic| repeat walk_at "sj")
local macro_rules | `(tactic| walk_at "hp") => `(tactic| first
 | assumption
 | exact ao
 | (refine SqL.of ?_;walk_at "hp")
 | (refine SqT.of ?_;walk_at "hp")
 | (refine seq_new (by assumption) ?_;walk_at "hp")
 | (refine tup_new (by assumption) ?_;walk_at "hp")
 | (refine aD (by assumption) ?_;walk_at "hp")
 | (refine Same.seq (by assumption) ?_;walk_at "hp")
 | (refine Same.tup (by assumption) ?_;walk_at "hp")
 | (refine Same.get (by assumption) ?_;walk_at "hp"))
local macro_rules | `(tactic| walk_at "sm") => `(tactic| first | assumption | exact Same.refl _ | (refine Same.new ?_ (by assumption);walk_at "sm") | (refine Same.trans ?_ (by assumption);walk_at "sm"))
local macro_rules | `(tactic| walk_at "ns") => `(tactic| try dsimp only [L2.start, List.map, List.length, Nat.reduceAdd, Nat.reduceSub, List.reduceReplicate, ŕ, ŷ, List.set])
namespace Pg
open PySem L2
variable{v:V} {Q:VK} {ds:L2S} {H H':Hp} {k:Nat×Nat} {cs:List Nat} {xs ys:List V} {b ba p q:Addr} {o':Option Nat} {M c i j m n:Nat} {es ms rs:List Int} {w:Str×List Nat×Int} {wss:List (List (Str×List Nat×Int))}
noncomputable def WP:Addr:=38
noncomputable def WQ:Addr:=51
variable{K:W.Frag} {vs:List V} {H:Hp} {Q:VK} {E:XK}
theorem cM {a:Addr} (e:H a=!(.tup (v::xs))) (h:Q v H):aO K (.ref a) (.int 0) H Q:=dW (SqT.of e) (aX (j:=0) (v:=v) rfl) h
theorem bV {a:Addr} {v0:V} (e:H a=!(.tup (v0::v::xs))) (h:Q v H):aO K (.ref a) (.int 1) H Q:=dW (SqT.of e) (aX (j:=1) (v:=v) rfl) h
theorem eG {a:Addr} {v0 v1:V} (e:H a=!(.tup (v0::v1::v::xs))) (h:Q v H):aO K (.ref a) (.int 2) H Q:=dW (SqT.of e) (aX (j:=2) (v:=v) rfl) h
inductive sp_f42 (K:W.Frag) (vs:List V) (H:Hp) (Q:VK) (E:XK):Prop|mk (n:Nat) (h0:vs=[.int n]) (h1:Q (.int (Bm.pop n)) H):sp_f42 K vs H Q E
def vY (K:W.Frag) (E:XK) (Eh:XK):TS:=(aF (aP (tC (V.int 0)) (au 1))
  (aF (fc (aZ (aH kO (aa 0) (tC (V.int 0)))) (aF (aP (aH Th (aa 0) (aH jO (aa 0) (tC (V.int 1)))) (au 0))
  (Mp 1 (tC (V.int 1)) J8)))
  (b7 (aa 1))))
theorem Qi (h:sp_f42 K vs H Q E):∃f,vY K E f {nx:=λ_ H'=>Q .non H',rt:=Q} (start ["column","dots"] vs) H:=by
 let#[n,rfl,q]:=h;show#[E0,?_];unfold vY;show yE ?_;symm;show sr (λa H'=>∃m d:Nat,a=[!(.int (m:Int)),!(.int (d:Int))]/\H'=H/\d+Bm.pop m=Bm.pop n) (λa _=>match a with|some (.int m)::_=>m.toNat|_=>0) ⟨n,0,rfl,rfl,()⟩ ?_ ?_
 .rintro _ _ ⟨m,d,rfl,rfl,e⟩;symm;show gb (λc=>?_) (λc=>?_)
  .have b:0<m:=();have s:Builtin.bitAnd (m:Int) ((m:Int)-1)=((m&&&(m-1):Nat):Int):=by rw[show(m:Int)-1=((m-1:Nat):Int)by rfl',Bx.jB]
   symm;rw[s];have lt:=Bm.Nq m b;have pl:=Bm.IW m b;show#[#[m&&&(m-1),d+1,rfl,rfl,()],?_];change((m&&&(m-1):Nat):Int).toNat<(m:Int).toNat;rfl'
  .have b:m=0:=();subst b;rw[Bm.jM]at e;symm;rw[show d=Bm.pop n by rfl'];show q
 .rintro a H Q t p ⟨v,o,i,j,r,g,k,l,z⟩;show#[v,o,i,j,r,g,k,l,p _ _ z]
inductive sp_f41 (K:W.Frag) (vs:List V) (H:Hp) (Q:VK) (E:XK):Prop|mk (a b:Nat) (h0:vs=[.int a,.int b]) (h1:Q (.int (Bm.pop (a^^^b):Nat)) H):sp_f41 K vs H Q E
def vZ (K:W.Frag) (E:XK) (Eh:XK):TS:=(b7 (aR (sp_f42 K) [] E0 (aj (aH KZ (aa 0) (aa 1)) aA)))
theorem Qj (h:sp_f41 K vs H Q E):∃c,vZ K E c {nx:=λ_ H'=>Q .non H',rt:=Q} (start ["one","other"] vs) H:=by let#[a,b,rfl,q]:=h;show#[E0,?_];unfold vZ;symm;rw[Bx.mU];show#[_,rfl,q]
inductive sp_f9 (K:W.Frag) (vs:List V) (H:Hp) (Q:VK) (E:XK):Prop|mk (p q:Addr) (xs ys:List V) (h0:vs=[.ref p,.ref q]) (h1:SqT K H p xs) (h2:SqT K H q ys) (h3:xs.length=ys.length) (h4:Q .non H):sp_f9 K vs H Q E
def Fd (K:W.Frag) (E:XK) (Eh:XK):TS:=(bW (aZ (aH Mz (cF (cg K) (aj (aa 0) aA)) (cF (cg K) (aj (aa 1) aA)))) Ao bh)
theorem Vd (h:sp_f9 K vs H Q E):∃a,Fd K E a {nx:=λ_ H'=>Q .non H',rt:=Q} (start ["one","other"] vs) H:=by let#[e,g,xs,f,rfl,b,c,d,q]:=h;show#[E0,?_];unfold Fd;symm;show bL b ?_;symm;show bL c ?_;symm;show nQ (by rw[d]) ?_;symm;show q
inductive sp_f45 (K:W.Frag) (vs:List V) (H:Hp) (Q:VK) (E:XK):Prop|mk (p q:Addr) (xs ys:List Nat) (h0:vs=[.ref p,.ref q]) (h1:SqT K H p (nv xs)) (h2:SqT K H q (nv ys)) (h3:xs.length=ys.length) (h4:xs.length<=1000) (h5:∀H',Same H H'->Q (.int (Mm.dw xs ys:Nat)) H'):sp_f45 K vs H Q E
def w5 (K:W.Frag) (E:XK) (Eh:XK):TS:=(aF (du (aR (sp_f9 K) [] E0 (aj (aa 0) (aj (aa 1) aA))))
  (b7 (cF (NB K) (aj (oR [none,none] (yl K (aj (aa 0) (aj (aa 1) aA))) (gZ K 2 (bC (au 0) (bC (au 1) iQ))) fu (aR (sp_f41 K) [] E0 (aj (aa 0) (aj (aa 1) aA)))) aA))))
theorem Qk (h:sp_f45 K vs H Q E):∃f,w5 K E f {nx:=λ_ H'=>Q .non H',rt:=Q} (start ["one","other"] vs) H:=by
 let#[k,o,xs,j,rfl,c,d,b,m,q]:=h;show#[E0,?_];unfold w5;symm;show#[_,_,_,_,rfl,c,d,by rw[Qb,Qb,b],?_];symm;show Va (λi:Nat=>V.int (i:Int)) (λi:Nat=>V.int (i:Int)) c d b () (λx y=>V.int ((Bm.pop (x^^^y):Nat):Int)) ?_ ?_;.intro i x y p H' l n e a A g;show dh (SqT.of a) rfl ?_;symm;show#[x,y,rfl,g _ (Same.refl _)]
 .intro p H' e a;symm;show V2 (ns:=List.zipWith (λx y=>((Bm.pop (x^^^y):Nat):Int)) xs j) (SqL.of ?_) ?_;.rw [a,List.map_zipWith]
  .rw [Mm.ug];show q _ e
abbrev Wz:=Addr×Str×List Nat×Int
def WyT (H:Hp) (z:Wz):Prop:=∃ca,H z.1=!(.tup [.str z.2.1,.ref ca,.int z.2.2.2])/\H ca=!(.tup (nv z.2.2.1))
theorem WyT.same {z:Wz} (h:WyT H z) (s:Same H H'):WyT H' z:=by let#[c,a,b]:=h;show#[c,s.get a,s.get b]
def LdT (H:Hp) (p:Addr) (ws:List (Str×List Nat×Int)):Prop:=∃zs:List Wz,zs.map (·.2)=ws/\H p=!(.lst (zs.map λz:Wz=>V.ref z.1))/\∀z∈zs,WyT H z
theorem LdT.same {a:List (Str×List Nat×Int)} (h:LdT H p a) (s:Same H H'):LdT H' p a:=by let#[zs,b,c,e]:=h;show#[zs,b,s.get c,λz d=>(e z d).same s]
noncomputable def aN (ls:List (Str×List Nat)) (ps:L1S):List (Str×List Nat×Int):=ps.filterMap λp=>(Fo.lk ls p.1).map λco=>(p.1,co,p.2)
theorem lB (ls:List (Str×List Nat)) (ps:L1S) (p:Str×Int):aN ls (ps++[p])=aN ls ps++(match Fo.lk ls p.1 with|none=>[]|some co=>[(p.1,co,p.2)]):=by
 unfold aN;rw[List.filterMap_append];congr 1;rw[Ħ,List.filterMap_nil];cases Fo.lk ls p.1<;>rfl
inductive sp_f32 (K:W.Frag) (vs:List V) (H:Hp) (Q:VK) (E:XK):Prop|mk (tb da:Addr) (zs:List Lz) (ps:L1S) (h0:vs=[.ref tb,.ref da]) (h1:H tb=!(.dK (zs.map λz:Lz=>((Sum.inr z.2.1:Key),V.ref z.2.2.1)))) (h2:(∀z∈zs,H z.2.2.1=!(.tup (nv z.2.2.2)))) (h3:DrG K H da ps) (h4:ps.length<=1000) (h5:∀p H',Same H H'->H p=none->LdT H' p (aN (zs.map λz:Lz=>(z.2.1,z.2.2.2)) ps)->Q (.ref p) H'):sp_f32 K vs H Q E
def w6 (K:W.Frag) (E:XK) (Eh:XK):TS:=(b7 (oR [none,none,!0] (lJ K (aa 1)) (gZ K 2 (bC (au 0) (bC (au 1) iQ))) (tB (uZ (aa 0) (aa 2))) (bZ (aj (aa 0) (aj (gw (aa 2) (aa 0)) (aj (aa 1) aA))))))
theorem Ql (h:sp_f32 K vs H Q E):∃M,w6 K E M {nx:=λ_ H'=>Q .non H',rt:=Q} (start ["letters","doors"] vs) H:=by
 let#[G,T,zs,ps,rfl,n,hz,#[L,j,I,S],O,q]:=h;show#[E0,?_];unfold w6;have P:L.length=ps.length:=by rw[<-j,Qb]
 symm;show Er (λz:Addr×Str×Int=>V.ref z.1) (zs:=L) I () (λi r H'=>∃d:List Wz,r=d.map (λz:Wz=>V.ref z.1)/\d.map (·.2)=aN (zs.map λz:Lz=>(z.2.1,z.2.2.2)) (ps.take i)/\d.length<=i/\Same H H'/\∀z∈d,WyT H' z) #[[],rfl,rfl,by simp,Same.refl _,by simp] ?_ ?_ ?_ ?_;.rintro i r H' ⟨d,rfl,_,_,s',_⟩;show s'.tup I
 .rintro i r H' ⟨d,rfl,_,x,_⟩;rw[Qb];show x
 .rintro i ⟨b,s,a⟩ r H' hi ⟨d,rfl,l,x,s',w⟩;have C:ps[i]?=!(s,a):=by rw[<-j,Xs,hi];rfl
  have u:ps.take (i+1)=ps.take i++[(s,a)]:=by rw[Ø,C];rfl
  have J:=s'.get (S _ (Zs hi));dsimp only at J;show dh (SqT.of J) rfl ?_;symm;show#[G,_,rfl,DGet.k (k:=Sum.inr s) (s'.get n),?_];cases hlk:Fo.lk (zs.map λz:Lz=>(z.2.1,z.2.2.2)) s with|none=>
   have N:bQ (zs.map λz:Lz=>((Sum.inr z.2.1:Key),V.ref z.2.2.1)) (Sum.inr s)=none:=j9 (f:=λz:Lz=>(Sum.inr z.2.1:Key)) (g:=λz:Lz=>V.ref z.2.2.1) λm=>by let#[z,o,e]:=Zl.mp m;let#[c,F]:=Fo.vV (ls:=zs.map λz:Lz=>(z.2.1,z.2.2.2)) (s:=s) (by rw[Á];show Zl.mpr #[z,o,ř e]);rw[hlk]at F;cases F
   rw[N];symm;change if false=true then _ else _;symm;show#[d,rfl,by rw[u,lB,l];change _=_++(match Fo.lk (zs.map λz:Lz=>(z.2.1,z.2.2.2)) s with|none=>[]|some co=>[(s,co,a)]);rw[hlk,å],(),s',w]|some co=>
   let#[z,o,R,D]:=iH hlk;rw[D];symm;change if true=true then _ else _;symm;show#[G,.ref z.2.2.1,rfl,by rw[<-D];show DGet.k (k:=Sum.inr s) (s'.get n),?_];symm;intro t B;show#[d++[(t,s,co,a)],by simp,?_,by simp;rfl',s'.new B,λy v=>?_];.rw [u,lB,Wp,l];change _=_++(match Fo.lk (zs.map λz:Lz=>(z.2.1,z.2.2.2)) s with|none=>[]|some co=>[(s,co,a)]);rw[hlk];rfl
   .rcases Â.mp v with v|v;.show (w y v).same (aB B _)
    .rw [Zp.mp v];show#[z.2.2.1,ao,by rw[<-R];show aD B (s'.get (hz z o))]
 .rintro r H' ⟨d,rfl,l,x,s',w⟩ p A;rw[è ()]at l;show q p _ (s'.new A) (s'.free A) #[d,l,ao,λz o=>(w z o).same (aB A _)]
def WsT (H:Hp) (p:Addr) (wss:List (List (Str×List Nat×Int))):Prop:=∃rs:List (Addr×List (Str×List Nat×Int)),rs.map (·.2)=wss/\H p=!(.lst (rs.map λr=>V.ref r.1))/\∀r∈rs,LdT H r.1 r.2
theorem WsT.same (h:WsT H p wss) (s:Same H H'):WsT H' p wss:=by let#[a,b,c,e]:=h;show#[a,b,s.get c,λr d=>(e r d).same s]
inductive sp_f33 (K:W.Frag) (vs:List V) (H:Hp) (Q:VK) (E:XK):Prop|mk (f ha:Addr) (h:Nat) (ls:List (Str×List Nat)) (ds:L2S) (es:List Int) (h0:vs=[.ref f,.ref ha]) (h1:FnF K H f h ls) (h2:Fo.Wf h ls) (h3:HsG K H ha ds es) (h4:ds.length<=1000) (h5:(∀ps∈ds,ps.length<=1000)) (h6:∀p H',Same H H'->H p=none->WsT H' p (ds.map (aN ls))->Q (.ref p) H'):sp_f33 K vs H Q E
def wg (K:W.Frag) (E:XK) (Eh:XK):TS:=(aF (aP (cF (gC K) (aj (aH (aO K) (aa 0) (tC (V.int 1))) aA)) (au 2))
  (b7 (oR [none,!2] (lJ K (aH (aO K) (aa 1) (tC (V.int 0)))) (au 0) fu (aR (sp_f32 K) [] E0 (aj (aa 1) (aj (aa 0) aA))))))
theorem Qm (h:sp_f33 K vs H Q E):∃M,wg K E M {nx:=λ_ H'=>Q .non H',rt:=Q} (start ["font","house","letters"] vs) H:=by
 let#[f,Y,h,ls,ds,es,rfl,P,J,#[d,e,L,a1,G,B,O,a5],R,v,q]:=h;show#[E0,?_];unfold wg;let#[l,ob,zs,S,w,A,T,C]:=id P;have Z:zs.length=ls.length:=by rw[<-w,Qb]
 have W:L.length=ds.length:=by rw[<-G,Qb]
 have t:(zs.map (·.2.1)).Nodup:=by have:=jY J.up;rw[<-w,Á]at this;show this
 symm;show bV S ?_;symm;show j8 (zs:=zs.map λz:Lz=>(z.1,z.2.1,V.ref z.2.2.1)) A (by rw[Á];show T) (λz m=>?_) (by rw[Á];show t) (by rw[Qb];have:=J.le;rfl') λo x=>?_;.obtain ⟨y,U,rfl⟩:=Zl.mp m;show SqT.of (C y U).1
 rw[Á];have c:Same H (upd H o (HO.dK (zs.map ((λz:Addr×Str×V=>((Sum.inr z.2.1:Key),z.2.2))∘λz:Lz=>(z.1,z.2.1,V.ref z.2.2.1))))):=aB x _;have j:upd H o (HO.dK (zs.map ((λz:Addr×Str×V=>((Sum.inr z.2.1:Key),z.2.2))∘λz:Lz=>(z.1,z.2.1,V.ref z.2.2.1)))) o=!(.dK (zs.map λz:Lz=>((Sum.inr z.2.1:Key),V.ref z.2.2.1))):=ao;generalize upd H o (HO.dK (zs.map ((λz:Addr×Str×V=>((Sum.inr z.2.1:Key),z.2.2))∘λz:Lz=>(z.1,z.2.1,V.ref z.2.2.1))))=H1 at c j;symm;show cM (c.get a1) ?_;show Er (λr:Addr×L1S=>V.ref r.1) (zs:=L) (c.tup B) () (λi n H'=>∃a:List (Addr×List (Str×List Nat×Int)),n=a.map (λr=>V.ref r.1)/\a.map (·.2)=(ds.take i).map (aN ls)/\Same H1 H'/\∀r∈a,LdT H' r.1 r.2) #[[],rfl,rfl,Same.refl _,by simp] ?_ ?_ ?_ ?_;.rintro i n H' ⟨a,rfl,_,s',_⟩;show s'.tup (c.tup B)
 .rintro i n H' ⟨a,rfl,g,_⟩;have:=ß List.length g;rw[Qb,Qb,Ñ]at this;rw[Qb];rfl'
 .rintro i ⟨X,ps⟩ n H' hi ⟨a,rfl,g,s',u⟩;have k:ds[i]?=!ps:=by rw[<-G,Xs,hi];rfl
  have I:=c.trans s';symm;show#[o,X,zs,ps,rfl,s'.get j,λz N=>I.get (C z N).2,(O _ (Zs hi)).same I,v ps (Zs k),λp H2 D s F=>?_];symm;rw[w]at F;show#[a++[(p,aN ls ps)],by simp,by rw[Wp,g,Ø,k,Wp];rfl,s'.trans D,λr b=>?_];rcases Â.mp b with b|b;.show (u r b).same D
  .rw [Zp.mp b];show F
 .rintro n H' ⟨a,rfl,g,s',u⟩ p s;rw[è ()]at g;show q p _ ((c.trans s').new s) ((c.trans s').free s) #[a,g,ao,λr b=>(u r b).same (aB s _)]
noncomputable def cst (ys co:List Nat):Nat:=Mm.dw (co.take (min co.length ys.length)) (ys.take (min co.length ys.length))
noncomputable def yK (ys:List Nat) (ls:List (Str×List Nat)):List (Str×Nat):=ls.map λp=>(p.1,cst ys p.2)
noncomputable def yL (cs:List (Str×Nat)):List (Key×V):=cs.map λp=>(Sum.inr p.1,V.int (p.2:Nat))
theorem wj {a:List Nat} {s:Str} {b:List Nat}:∀{ls:List (Str×List Nat)},Fo.lk ls s=!b->bQ (yL (yK a ls)) (Sum.inr s)=!(V.int (cst a b:Nat))
 |[],h=>by cases h|p::r,h=>by
  rw[Fo.jX]at h;change bQ ((Sum.inr p.1,V.int (cst a p.2:Nat))::yL (yK a r)) (Sum.inr s)=_;by_cases e:p.1=s
  .rw [if_pos e]at h;cases h;rw[cP (by change Sum.inr _=Sum.inr _;rw[e])]
  .rw [if_neg e]at h;rw[cB (by intro z;show e (ř z))];show wj h
inductive sp_f11 (K:W.Frag) (vs:List V) (H:Hp) (Q:VK) (E:XK):Prop|mk (f o:Addr) (h:Nat) (ls:List (Str×List Nat)) (ys:List Nat) (h0:vs=[.ref f,.ref o]) (h1:YC K H f h ls) (h2:Fo.Wf h ls) (h3:SqT K H o (nv ys)) (h4:ys.length<=1000) (h5:∀r H',Same H H'->H r=none->H' r=!(.dK (yL (yK ys ls)))->Q (.ref r) H'):sp_f11 K vs H Q E
abbrev Fe (K:W.Frag):TS:=(aF (aP (cF kW (aj (cF (cg K) (aj (aa 4) aA)) (aj (cF (cg K) (aj (aa 1) aA)) aA))) (au 5))
  (pI (aa 2) (aa 3) (aR (sp_f45 K) [] E0 (aj (uU (lN K) (aa 4) cU (fD (aa 5))) (aj (uU (lN K) (aa 1) cU (fD (aa 5))) aA)))))
def wk (K:W.Frag) (E:XK) (Eh:XK):TS:=(aF (aP qw (au 2))
  (aF (d9 (lJ K (aH (aO K) (aa 0) (tC (V.int 1)))) (gZ K 2 (bC (au 3) (bC (au 4) iQ))) (Fe K))
  (b7 (aa 2))))
theorem Qn (h:sp_f11 K vs H Q E):∃Eh,wk K E Eh {nx:=λ_ H'=>Q .non H',rt:=Q} (start ["font","over","costs","sign","columns","wide"] vs) H:=by
 let#[f,o,h,ls,j,rfl,hF,I,T,ae,q]:=h;show#[E0,?_];unfold wk;have x:(ls.map (·.1)).Nodup:=I.up.imp λB e=>by subst e;show List.lt_irrefl _ B
 let#[l,zs,t1,u,R,t4]:=id hF;have A:zs.length=ls.length:=by rw[<-u,Qb]
 have af:=I.le;symm;intro r d;symm;show bV (aD d t1) ?_;have b:∀N∈[r],H N=none:=λN L=>by rw[Zp.mp L];show d
 walk_at "ns";show yF (λz:Lz=>V.ref z.1) ((aB d _).tup R) (λi v H'=>Sb [r] H H'/\H' r=!(.dK (yL (yK j (ls.take i))))/\∃F J C,v=[!(.ref f),!(.ref o),!(.ref r),F,J,C]) #[Sb.of (aB d _),ao,_,_,_,rfl] ?_ ?_ ?_;.rintro i v H' ⟨sb,_⟩;show(sb.off b).tup R
 .rintro i ⟨za,s,ca,c⟩ v H' hi ⟨sb,w,F,J,C,rfl⟩;have S:=sb.off b;have mz:=Zs hi;let#[O,D]:=t4 _ mz;dsimp only at O D;have a:ls[i]?=!(s,c):=by rw[<-u,Xs,hi];rfl
  have c1:=I.c1 _ (Zs a);dsimp only at c1;have ad:i<ls.length:=(É.mp a).1;have t:ls.take (i+1)=ls.take i++[(s,c)]:=by rw[Ø,a];rfl
  have n:s∉(ls.take i).map (·.1):=by have W:((ls.take (i+1)).map (·.1)).Nodup:=Đ ((Ě _ _).map _) x;rw[t,Wp,ð]at W;showλm=>W.2.2 s m s (by simp) rfl
  show dh (SqT.of (S.get O)) rfl ?_;symm;show bL (SqT.of (S.get D)) ?_;rw[Qb];symm;show bL (S.tup T) ?_;rw[Qb];symm;rw[show(if(j.length:Int)<(c.length:Int)then(j.length:Int)else(c.length:Int))=((min c.length j.length:Nat):Int)by split<;>rfl'];walk_at "ns";show Lh (SqT.of (S.get D)) λp1 H1 Z U=>?_;rw[vU (),Ó,nv,<-List.map_take]at U;symm;show Lh ((S.trans Z).tup T) λp2 H2 P M=>?_;rw[vU (),Ó,nv,<-List.map_take]at M;symm;show#[p1,p2,_,_,rfl,P.tup U,M,by rw[Ñ,Ñ];rfl',by rw[Ñ];rfl',λH3 s3=>?_];have Y:=(Z.trans P).trans s3;have G:=Y.get w;have hv:bQ (yL (yK j (ls.take i))) (Sum.inr s)=none:=j9 (f:=λp:Str×Nat=>(Sum.inr p.1:Key)) (g:=λp:Str×Nat=>V.int (p.2:Nat)) λm=>by let#[p,X,e]:=Zl.mp m;let#[y,my,rfl]:=Zl.mp X;show n (Zl.mpr #[y,my,ř e])
  symm;show#[r,_,rfl,DPut.k (k:=Sum.inr s) G (Ù (by unfold yL yK;rw[Qb,Qb,Ñ];rfl':_<=40) (by decide)),?_];rw[j0 _ hv];symm;show#[(sb.same Y).set (by simp),?_,_,_,_,rfl];rw[ao,t];unfold yK yL;rw[Wp,Wp];rfl
 .rintro v H' ⟨sb,w,F,J,C,rfl⟩;rw[A,ä]at w;symm;show q r H' (sb.off b) d w
abbrev cX:=Str×List Nat×Int
variable{z:cX×cX×Int} {p0 p1:List cX}
noncomputable def rP (p:List cX):Int:=(p.getLast?.map (·.2.2)).getD 0
noncomputable def tP (p:List cX):Str:=p.foldl (λt w=>t++w.1) (Str.ofString "")
noncomputable def stP (p:List cX):List Nat:=p.flatMap (·.2.1)
def Wk (wss:List (List cX)) (p:List cX):Prop:=∀i w,p[i]?=!w->w∈wss.getD (rP (p.take i)).toNat []
def Lw (wss:List (List cX)) (t:Str) (r:Int):Prop:=∃p,Wk wss p/\rP p=r/\t=tP p
theorem jc (p:List cX) (w:cX):rP (p++[w])=w.2.2:=by unfold rP;rw[List.getLast?_concat];rfl
theorem jt (p:List cX) (w:cX):tP (p++[w])=tP p++w.1:=by unfold tP;rw[List.foldl_append];rfl
theorem jd (p:List cX) (w:cX):stP (p++[w])=stP p++w.2.1:=by unfold stP;rw[ĺ,ĥ]
theorem Wk.add {a:List (List cX)} {p:List cX} {w:cX} (h:Wk a p) (m:w∈a.getD (rP p).toNat []):Wk a (p++[w]):=λi u e=>by
 by_cases c:i<p.length;.rw [ĕ c]at e;rw[List.take_append_of_le_length (ć c)];show h i u e
 .rw [ú ()]at e;have b:i=p.length/\w=u:=by cases hj:i-p.length with
   |zero=>rw[hj]at e;show#[(),Ô e]|succ j=>rw[hj]at e;simp at e
  rw[b.1,<-b.2,List.take_left'];.show m
  .rfl
section
variable{α:Type} [DecidableEq α]
noncomputable def gn (L qs:List α):List α:=qs.foldl (λL q=>if q∈L then L else L++[q]) L
theorem oh (L:List α):gn L []=L:=rfl
theorem qe (L a:List α) (q:α):gn L (a++[q])=if q∈gn L a then gn L a else gn L a++[q]:=by unfold gn;rw[List.foldl_append];rfl
theorem ou:∀(qs L:List α),∃E,gn L qs=L++E
 |[],L=>#[[],by rw[oh,å]]|q::qs,L=>by
  change ∃E,gn (if q∈L then L else L++[q]) qs=L++E;split;.show ou qs L
  .obtain ⟨E,e⟩:=ou qs (L++[q]);show#[q::E,by rw[e,Þ];rfl]
theorem eX:∀{qs L:List α} {x:α},x∈gn L qs↔x∈L\/x∈qs
 |[],L,x=>by rw[oh];simp|q::qs,L,x=>by
  change x∈gn (if q∈L then L else L++[q]) qs↔_;rw[eX];split
  .rename_i h;constructor
   .rintro (m|m);.show .inl m
    .show .inr (Í _ m)
   .rintro (m|m);.show .inl m
    .rcases Å.mp m with rfl|m;.show .inl h
     .show .inr m
  .rw [Â,Zp,Å,or_assoc]
theorem kj:∀{qs L:List α},L.Nodup->(gn L qs).Nodup
 |[],L,h=>h|q::qs,L,h=>by
  change(gn (if q∈L then L else L++[q]) qs).Nodup;split;.show kj h
  .rename_i d;show kj (ð.mpr #[h,by simp,λa m b c e=>d ?_]);rw[Zp.mp c]at e;rw[<-e];show m
noncomputable def dX (nx:α->List α) (st:α):Nat->List α
 |0=>[st]
 |k+1=>match(dX nx st k)[k]?with
  |none=>dX nx st k|some p=>gn (dX nx st k) (nx p)
theorem gU {nx:α->List α} {st:α} {k:Nat} {p:α} (h:(dX nx st k)[k]?=!p):dX nx st (k+1)=gn (dX nx st k) (nx p):=by rw[dX,h]
theorem Ff {nx:α->List α} {st:α} {k:Nat} (h:(dX nx st k).length<=k):dX nx st (k+1)=dX nx st k:=by rw[dX,Ņ h]
theorem Ac (nx:α->List α) (st:α) (k:Nat):∃E,dX nx st (k+1)=dX nx st k++E:=by cases h:(dX nx st k)[k]?with
 |none=>show#[[],by rw[dX,h,å]]|some p=>rw[gU h];show ou _ _
theorem dY (nx:α->List α) (st:α):∀k,(dX nx st k).Nodup
 |0=>by rw[dX];simp|k+1=>by cases h:(dX nx st k)[k]?with
  |none=>rw[dX,h];show dY nx st k|some p=>rw[gU h];show kj (dY nx st k)
theorem lC {nx:α->List α} {st:α} {k:Nat} (h:(dX nx st k).length<=k):∀j,dX nx st (k+j)=dX nx st k
 |0=>rfl
 |j+1=>by have e:=lC h j;rw[<-Nat.add_assoc,Ff (by rw[e];rfl'),e]
theorem dB {nx:α->List α} {st:α} {P:α->Prop} (a:P st) (b:∀p q,P p->q∈nx p->P q):∀k,∀p∈dX nx st k,P p
 |0,p,m=>by rw[dX,Zp]at m;rw[m];show a|k+1,p,m=>by cases h:(dX nx st k)[k]?with
  |none=>rw[dX,h]at m;show dB a b k p m|some p'=>
   rw[gU h]at m;rcases eX.mp m with m|m;.show dB a b k p m
   .show b p' p (dB a b k p' (Zs h)) m
end
theorem uv (a b:Str):(a++b).length=a.length+b.length:=by change(Str.append a b).length=_;simp[Str.append,Str.length]
theorem cZ {a:Type} [DecidableEq a]:∀{l m:List a},l.Nodup->(∀x∈l,x∈m)->l.length<=m.length
 |[],m,_,_=>ñ _|x::l,m,hn,hs=>by
  have b:=hs x Ì;let#[d,f]:=Ĉ.mp hn;have:=cZ (l:=l) (m:=m.erase x) f λy c=>(List.mem_erase_of_ne (λ(e:y=x)=>d (by rw[<-e];show c))).mpr (hs y (Í _ c));rw[List.length_erase_of_mem b]at this;have:=List.length_pos_of_mem b;rw[é];rfl'
noncomputable def bF (wss:List (List (Str×List Nat×Int))) (k:Nat):List Int:=dX (λr=>(wss.getD r.toNat []).map (·.2.2)) 0 k
theorem qY:∀{ps:List (Int×Str)} {r:Int},r∈ps.map (·.1)->∃t,(r,t)∈ps/\bQ (ps.map λp=>((Sum.inl p.1:Key),V.str p.2)) (Sum.inl r)=!(V.str t)
 |p::ps,r,m=>by
  rw[Ä];by_cases e:p.1=r;.show #[p.2,by rw[<-e];show Ì,by rw[cP (by rw[e])]]
  .obtain ⟨t,a,b⟩:=qY (ps:=ps) (r:=r) (by rcases Å.mp m with z|z;show absurd z.symm e;show z);show#[t,Í _ a,by rw[cB (by intro z;show e (Sum.inl.inj z))];show b]
theorem Kd {ps:List (Int×Str)} {r:Int} (h:r∉ps.map (·.1)):bQ (ps.map λp=>((Sum.inl p.1:Key),V.str p.2)) (Sum.inl r)=none:=j9 (f:=λp:Int×Str=>(Sum.inl p.1:Key)) (g:=λp=>V.str p.2) λm=>by let#[p,a,e]:=Zl.mp m;show h (Zl.mpr #[p,a,Sum.inl.inj e])
inductive sp_f0 (K:W.Frag) (vs:List V) (H:Hp) (Q:VK) (E:XK):Prop|mk (wa:Addr) (wss:List (List (Str×List Nat×Int))) (h0:vs=[.ref wa]) (h1:WsT H wa wss) (h2:0<wss.length) (h3:wss.length<=100) (h4:(∀ws∈wss,ws.length<=1000/\∀w∈ws,w.1.length<=1/\0<=w.2.2/\w.2.2<wss.length)) (h5:∀r H' (N:Nat) (ps:List (Int×Str)),Same H H'->H r=none->ps.map (·.1)=bF wss N->H' r=!(.dK (ps.map λp=>((Sum.inl p.1:Key),V.str p.2)))->(bF wss N).length<=N->(∀p∈ps,p.2.length<=ps.length/\Lw wss p.2 p.1)->Q (.ref r) H'):sp_f0 K vs H Q E
abbrev Ke (K:W.Frag):TS:=(aF (aP (oO K "list" uX (aa 2) (aj (tC (V.int 0)) aA)) (au 3))
  (d9 (cO K (aH (fj K) (aa 0) (aa 3))) (gZ K 3 (bC (au 4) (bC (au 5) (bC (au 6) iQ)))) (bW (tB (lR (aa 6) (aa 1))) (aF (pI (aa 1) (aa 6) (aH fV (gw (aa 1) (aa 3)) (aa 4)))
  (du (oO K "list" cA (aa 2) (aj (aa 6) aA)))) bh)))
def Fg (K:W.Frag) (E:XK) (Eh:XK):TS:=(aF (aP (BP [((tC (V.int 0)),(tC (V.str (Str.ofString ""))))]) (au 1))
  (aF (aP (gG (aj (tC (V.int 0)) aA)) (au 2))
  (aF (fc (aZ (aH kO (cF (cg K) (aj (aa 2) aA)) (tC (V.int 0)))) (Ke K))
  (b7 (aa 1)))))
theorem Ve (h:sp_f0 K vs H Q E):∃Eh,Fg K E Eh {nx:=λ_ H'=>Q .non H',rt:=Q} (start ["ways","texts","waiting","here","sign","columns","room"] vs) H:=by
 let#[wa,a,rfl,hW,bn,bi,af,q]:=h;show#[E0,?_];unfold Fg;have am:∀k,∀r∈bF a k,0<=r/\r<a.length:=λk=>dB (P:=λr:Int=>0<=r/\r<a.length) #[by decide,()] (λp q' hp hq=>by
  let#[w,mw,rfl]:=Zl.mp hq;have:a.getD p.toNat []∈a:=by rw[Æ,Zz ()];show ì _
  show((af _ this).2 w mw).2) k;have W:∀k,(bF a k).length<=a.length:=λk=>by
  have:=cZ (l:=bF a k) (m:=(List.range a.length).map λi:Nat=>(i:Int)) (dY _ _ k) λr mr=>by let#[h0,h1]:=am k r mr;show Zl.mpr #[r.toNat,í.mpr (),()]
  rw[Qb,ù]at this;show this
 let#[rs,ai,a7,a1]:=id hW;have bk:rs.length=a.length:=by rw[<-ai,Qb]
 symm;intro d J;symm;show#[ao,[(Sum.inl 0,V.str (Str.ofString ""))],rfl,by simp,?_];have U:Sb [d] H (upd (upd H d (HO.dK [])) d (HO.dK (ir [] [(Sum.inl 0,V.str (Str.ofString ""))]))):=(Sb.of (aB J _)).set (by simp);have F:upd (upd H d (HO.dK [])) d (HO.dK (ir [] [(Sum.inl 0,V.str (Str.ofString ""))])) d=!(.dK ([((0:Int),(Str.ofString ""))].map λp=>((Sum.inl p.1:Key),V.str p.2))):=by rw[ao];rfl
 generalize upd (upd H d (HO.dK [])) d (HO.dK (ir [] [(Sum.inl 0,V.str (Str.ofString ""))]))=H0 at U F;symm;intro u D;have n1:d≠u:=λe=>by rw[<-e,F]at D;cases D
 have ah:H u=none:=(U.off λp hp=>by rw[Zp.mp hp];show J).free D;have I:∀p∈[d,u],H p=none:=λp hp=>by
  simp only[Å,æ,ď]at hp;rcases hp with rfl|rfl;.show J
  .show ah
 symm;walk_at "ns";show m5 (λN H'=>Sb [d,u] H H'/\∃(k:Nat) (ps:List (Int×Str)) (o1 o2 o3 o4:Option V),k<=(bF a k).length/\ps.map (·.1)=bF a k/\(∀p∈ps,p.2.length<=ps.length/\Lw a p.2 p.1)/\H' d=!(.dK (ps.map λp=>((Sum.inl p.1:Key),V.str p.2)))/\H' u=!(.lst (((bF a k).drop k).map V.int))/\N=[!(.ref wa),!(.ref d),!(.ref u),o1,o2,o3,o4]) (λ_ H'=>match H' u with|some (.lst l)=>(match H' d with|some (.dK m)=>1000-(m.length-l.length)|_=>0)|_=>0) ⟨(Sb.more U (by simp)).new D,0,[(0,Str.ofString "")],_,_,_,_,ñ _,rfl,λp G=>by rw[Zp.mp G];show#[by decide,[],λi w e=>(by simp at e),rfl,rfl],aD D F,ao,rfl⟩ ?_ ?_
 .rintro N H' ⟨sb,k,ps,o1,o2,o3,o4,hk,L,ak,Y,C,rfl⟩;have S':=sb.off I;have bd:ps.length=(bF a k).length:=by rw[<-L,Qb]
  have bg:=W k;symm;show fB (SqL.of C) ?_;rw[Qb,ô];symm;show gb (λc1=>?_) λc1=>?_
  .have ap:k<(bF a k).length:=();let#[r,hr]:∃r,(bF a k)[k]?=!r:=#[_,Zz ap];have a9:(bF a k).drop k=r::(bF a k).drop (k+1):=by rw[Ć ap,(É.mp hr).2]
   have mr:=Zs hr;let#[r0,r1]:=am k r mr;let#[j,rfl]:∃j:Nat,r=(j:Int):=#[r.toNat,()];let#[A,ad]:∃A,rs[j]?=!A:=#[_,Zz ()];have as:a[j]?=!A.2:=by rw[<-ai,Xs,ad];rfl
   have al:a.getD j []=A.2:=by rw[Æ,as];rfl
   have ar:bF a (k+1)=gn (bF a k) (A.2.map (·.2.2)):=by have:=gU hr;change dX _ _ (k+1)=_;rw[this];change gn _ ((a.getD ((j:Int)).toNat []).map _)=_;rw[Ó,al];rfl
   let#[aw,a4]:=af A.2 (Zs as);let#[zs,ez,av,hz]:=a1 A (Zs ad);have bl:zs.length=A.2.length:=by rw[<-ez,Qb]
   symm;show dI (SqL.of C) ?_;symm;rw[a9,Ä]at C;show Qa C ?_;symm;have n2:u≠d:=n1.symm;have S:upd H' u (HO.lst (((bF a k).drop (k+1)).map V.int)) d=!(.dK (ps.map λp=>((Sum.inl p.1:Key),V.str p.2))):=by rw[az n1];show Y
   have Z:=sb.set (p:=u) (o:=HO.lst (((bF a k).drop (k+1)).map V.int)) (by simp);have S1:=Z.off I;have M:upd H' u (HO.lst (((bF a k).drop (k+1)).map V.int)) u=!(.lst (((bF a k).drop (k+1)).map V.int)):=ao;generalize upd H' u (HO.lst (((bF a k).drop (k+1)).map V.int))=H1 at Z S1 S M;show dU (SqL.of (S1.get a7)) (aX (j:=j) (v:=.ref A.1) (by rw[Xs,ad];rfl)) ?_;walk_at "ns";show gD (λz:Wz=>V.ref z.1) (zs:=zs) (SqL.of (S1.get av)) (λi N H2=>Sb [d,u] H H2/\∃(b:List (Int×Str)) (E:List Int) (o2 o3 o4:Option V),b.map (·.1)=gn (bF a k) ((A.2.map (·.2.2)).take i)/\b.map (·.1)=bF a k++E/\(∀p∈b,p.2.length<=b.length/\Lw a p.2 p.1)/\H2 d=!(.dK (b.map λp=>((Sum.inl p.1:Key),V.str p.2)))/\H2 u=!(.lst (((bF a k).drop (k+1)++E).map V.int))/\N=[!(.ref wa),!(.ref d),!(.ref u),!(.int (j:Nat)),o2,o3,o4]) #[Z,ps,[],_,_,_,by rw[List.take_zero,oh];show L,by rw[å];show L,ak,S,by rw[å];show M,rfl] ?_ ?_ ?_;.rintro i N H2 ⟨y,_⟩;show SqL.of ((y.off I).get av)
   .rintro i ⟨za,s,co,c⟩ N H2 hi ⟨y,b,E,o2,o3,o4,B,X,g,f,t,rfl⟩;have S2:=y.off I;let#[ca,v1,v2]:=hz _ (Zs hi);dsimp only at v1 v2;have ae:A.2[i]?=!(s,co,c):=by rw[<-ez,Xs,hi];rfl
    have a6:=(a4 _ (Zs ae)).1;dsimp only at a6;have a5:(A.2.map (·.2.2)).take (i+1)=(A.2.map (·.2.2)).take i++[c]:=by rw[Ø,Xs,ae];rfl
    have bb:b.length<=100:=by
     have h1:=cZ (l:=b.map (·.1)) (m:=bF a (k+1)) (by rw[B];show kj (dY _ _ k)) λx mx=>by
      rw[B]at mx;rw[ar];rcases eX.mp mx with m|m;.show eX.mpr (.inl m)
      .show eX.mpr (.inr (Ē m))
     have h2:=W (k+1);rw[Qb]at h1;rfl'
    rw[a5,qe];show dh (SqT.of (S2.get v1)) rfl ?_;symm;show#[d,_,rfl,DGet.k (k:=Sum.inl c) f,?_];by_cases m:c∈gn (bF a k) ((A.2.map (·.2.2)).take i);.obtain ⟨tt,_,ev⟩:=qY (ps:=b) (r:=c) (by rw[B];show m);rw[ev,if_pos m];symm;change if(not true)=true then _ else _;symm;show#[y,b,E,_,_,_,B,X,g,f,t,rfl]
    .have ev:=Kd (ps:=b) (r:=c) (by rw[B];show m);rw[ev,if_neg m];let#[tj,ax,a3]:=qY (ps:=b) (r:=(j:Int)) (by rw[X];show Ü _ mr);let#[a2,pw,ag,R,O]:=g _ ax;dsimp only at a2 R O;symm;change if(not false)=true then _ else _;symm;show#[d,V.str tj,rfl,by rw[<-a3];show DGet.k (k:=Sum.inl (j:Int)) f,?_];symm;show nT () ?_;symm;show#[d,_,rfl,DPut.k (k:=Sum.inl c) f (Ù (by rw[Qb];rfl':_<=2000) (by decide)),?_];rw[j0 _ ev];symm;have T:∀w,upd H2 d w u=!(.lst (((bF a k).drop (k+1)++E).map V.int)):=λw=>by rw[az n2];show t
     show dI (SqL.of (T _)) ?_;symm;show fH (T _) (by rw[Qb,À,ô];have:=ß List.length X;rw[Qb,À]at this;rfl') ?_;symm;show#[(y.set (by simp)).set (by simp),b++[(c,tj++s)],E++[c],_,_,_,by rw[Wp,B];rfl,by rw[Wp,X,Þ];rfl,λp G=>?_,by rw[az n1,ao,Wp];rfl,by rw[ao,<-Þ,Wp (l₂:=[c])];rfl,rfl];rw[À,Õ];rcases Â.mp G with G|G;.show #[by have:=(g p G).1;rfl',(g p G).2]
     .rw [Zp.mp G];show#[?_,pw++[(s,co,c)],ag.add ?_,jc _ _,?_];.show (tj++s).length<=_;rw[show(tj++s).length=tj.length+s.length from uv _ _];rfl'
      .rw [R,Ó,al];show Zs ae
      .show tj++s=_;rw[O,jt]
   .rintro N H2 ⟨y,b,E,o2,o3,o4,B,X,g,f,t,rfl⟩;rw[è (by rw[Qb];rfl'),<-ar]at B;have eD:(bF a k).drop (k+1)++E=(bF a (k+1)).drop (k+1):=by rw[<-B,X,List.drop_append_of_le_length ()]
    rw[eD]at t;have a8:b.length=(bF a (k+1)).length:=by rw[<-B,Qb]
    have ay:k+1<=(bF a (k+1)).length:=by rw[<-a8];have:=ß List.length X;rw[Qb,À]at this;rfl'
    have be:=W (k+1);show#[#[y,k+1,b,_,_,_,_,ay,B,g,f,t,rfl],?_];change(match H2 u with|some (.lst l)=>(match H2 d with|some (.dK m)=>1000-(m.length-l.length)|_=>0)|_=>0)<(match H' u with|some (.lst l)=>(match H' d with|some (.dK m)=>1000-(m.length-l.length)|_=>0)|_=>0);rw[t,f,C,Y];dsimp only;simp only[Qb,é,ô];rw[show b.length-((bF a (k+1)).length-(k+1))=k+1 by rfl',show ps.length-((bF a k).length-(k+1)+1)=k by rfl'];show Nat.sub_lt_sub_left () (ľ k)
  .symm;show q d H' k ps S' J L Y () ak
 .rintro N H Q Q' hq ⟨v,hv,x,n,e,hl,i,j,e1,e2,k,e3,z⟩;show#[v,hv,x,n,e,hl,i,j,e1,e2,k,e3,hq _ _ z]
noncomputable def m8 (w:Str×List Nat×Int) (ah:Int) (ys:List Nat):Int×Int×List Nat:=if w.2.1.length<=ys.length then(w.2.2,ah,ys.drop w.2.1.length)else(ah,w.2.2,w.2.1.drop ys.length)
def StT (K:W.Frag) (H:Hp) (a:Addr) (st:Int×Int×List Nat):Prop:=∃c,H a=!(.tup [.int st.1,.int st.2.1,.ref c])/\H c=!(.tup (nv st.2.2))
theorem StT.same {K:W.Frag} {a:Addr} {st:Int×Int×List Nat} (h:StT K H a st) (s:Same H H'):StT K H' a st:=by let#[c,b,d]:=h;show#[c,s.get b,s.get d]
inductive sp_f4 (K:W.Frag) (vs:List V) (H:Hp) (Q:VK) (E:XK):Prop|mk (wa o:Addr) (w:Str×List Nat×Int) (ah:Int) (ys:List Nat) (h0:vs=[.ref wa,.int ah,.ref o]) (h1:WyT H (wa,w)) (h2:H o=!(.tup (nv ys))) (h3:∀r H',Same H H'->H r=none->StT K H' r (m8 w ah ys)->Q (.ref r) H'):sp_f4 K vs H Q E
abbrev Kf (K:W.Frag):TS:=(aF (bW (aZ (aH NK (aa 3) (cF (cg K) (aj (aa 2) aA)))) (b7 (bZ (aj (aH (aO K) (aa 0) (tC (V.int 2))) (aj (aa 1) (aj (uU (lN K) (aa 2) (fD (aa 3)) cU) aA))))) bh)
  (b7 (bZ (aj (aa 1) (aj (aH (aO K) (aa 0) (tC (V.int 2))) (aj (uU (lN K) (aH (aO K) (aa 0) (tC (V.int 1))) (fD (cF (cg K) (aj (aa 2) aA))) cU) aA))))))
def Fi (K:W.Frag) (E:XK) (Eh:XK):TS:=(aF (aP (cF (cg K) (aj (aH (aO K) (aa 0) (tC (V.int 1))) aA)) (au 3))
  (Kf K))
theorem Vf (h:sp_f4 K vs H Q E):∃m,Fi K E m {nx:=λ_ H'=>Q .non H',rt:=Q} (start ["way","ahead","over","wide"] vs) H:=by
 let#[p,o,#[s,j,l],n,k,rfl,#[t,b,g],i,q]:=h;show#[E0,?_];unfold Fi;dsimp only at b g;symm;show bV b ?_;symm;show bL (SqT.of g) ?_;rw[Qb];symm;show bL (SqT.of i) ?_;rw[Qb];symm;show gb (λc=>?_) λc=>?_;.symm;show eG b ?_;symm;show lA i λf H1 e d=>?_;rw[gR (),Ó,nv,<-ť]at d;symm;intro r a;show q r _ (e.new a) (e.free a) ?_;unfold m8;rw[if_pos (show j.length<=k.length by rfl')];show#[f,ao,aD a d]
 .symm;show eG b ?_;symm;show bV b ?_;symm;show bL (SqT.of i) ?_;rw[Qb];symm;show lA g λf H1 e d=>?_;rw[gR (),Ó,nv,<-ť]at d;symm;intro r a;show q r _ (e.new a) (e.free a) ?_;unfold m8;rw[if_neg (show¬j.length<=k.length by rfl')];show#[f,ao,aD a d]
noncomputable def Vg (wss:List (List (Str×List Nat×Int))) (r:Int):List ((Str×List Nat×Int)×(Str×List Nat×Int)×Int):=(List.range (wss.getD r.toNat []).length).flatMap λj=>(List.range j).map λk=>((wss.getD r.toNat []).getD k default,(wss.getD r.toNat []).getD j default,r)
noncomputable def lO (wss:List (List (Str×List Nat×Int))) (rs:List Int):List ((Str×List Nat×Int)×(Str×List Nat×Int)×Int):=rs.flatMap (Vg wss)
abbrev Fz:=Addr×Addr×Addr×Addr×((Str×List Nat×Int)×(Str×List Nat×Int)×Int)
def FkA (K:W.Frag) (H:Hp) (z:Fz):Prop:=H z.1=!(.tup [.int (cst z.2.2.2.2.2.1.2.1 z.2.2.2.2.1.2.1:Nat),.ref z.2.1,.int z.2.2.2.2.2.2,.ref z.2.2.1,.ref z.2.2.2.1])/\StT K H z.2.1 (m8 z.2.2.2.2.1 z.2.2.2.2.2.1.2.2 z.2.2.2.2.2.1.2.1)/\WyT H (z.2.2.1,z.2.2.2.2.1)/\WyT H (z.2.2.2.1,z.2.2.2.2.2.1)
theorem FkA.same {K:W.Frag} {z:Fz} (h:FkA K H z) (s:Same H H'):FkA K H' z:=#[s.get h.1,h.2.1.same s,h.2.2.1.same s,h.2.2.2.same s]
theorem FkA.app {K:W.Frag} {z:Fz} {o:HO} (h:FkA K H z) (e:H q=!(.lst ys)):FkA K (upd H q o) z:=by let#[b,#[c,g,i],#[d,l,k],#[f,j,a]]:=h;show#[cW b e,#[c,cW g e,cW i e],#[d,cW l e,cW k e],#[f,cW j e,cW a e]]
theorem Fj {c:List (Str×List Nat×Int)} (h:wss[j]?=!c):Vg wss (j:Int)=(List.range c.length).flatMap λb=>(List.range b).map λa=>(c.getD a default,c.getD b default,(j:Int)):=by unfold Vg;rw[Ó,Æ,h];rfl
def Su (K:W.Frag) (H:Hp) (a:Addr) (fs:List ((Str×List Nat×Int)×(Str×List Nat×Int)×Int)):Prop:=∃zs:List Fz,zs.map (λz:Fz=>z.2.2.2.2)=fs/\H a=!(.lst (zs.map λz:Fz=>V.ref z.1))/\∀z∈zs,FkA K H z
inductive sp_f40 (K:W.Frag) (vs:List V) (H:Hp) (Q:VK) (E:XK):Prop|mk (f wa:Addr) (h:Nat) (ls:List (Str×List Nat)) (wss:List (List (Str×List Nat×Int))) (h0:vs=[.ref f,.ref wa]) (h1:FnF K H f h ls) (h2:Fo.Wf h ls) (h3:WsT H wa wss) (h4:0<wss.length) (h5:wss.length<=100) (h6:(∀ws∈wss,ws.length<=100/\∀w∈ws,Fo.lk ls w.1=!w.2.1/\0<=w.2.2/\w.2.2<wss.length)) (h7:∀p H' N,Same H H'->H p=none->(bF wss N).length<=N->Su K H' p (lO wss (bF wss N))->Q (.ref p) H'):sp_f40 K vs H Q E
abbrev Fl (K:W.Frag):TS:=(aF (aP (aR (sp_f4 K) [] E0 (aj (aa 9) (aj (aH (aO K) (aa 8) (tC (V.int 2))) (aj (aH (aO K) (aa 8) (tC (V.int 1))) aA)))) (au 10))
  (du (oO K "list" cA (aa 5) (aj (bZ (aj (gw (gw (aa 2) (aH (aO K) (aa 8) (tC (V.int 0)))) (aH (aO K) (aa 9) (tC (V.int 0)))) (aj (aa 10) (aj (aa 6) (aj (aa 9) (aj (aa 8) aA)))))) aA))))
abbrev Fp (K:W.Frag):TS:=(aF (d9 (vq (aR (sp_f0 K) [] E0 (aj (aa 1) aA))) (au 6) (d9 (yg K (aj (aH (fj K) (aa 1) (aa 6)) aA)) (gZ K 2 (bC (au 7) (bC (au 8) iQ))) (d9 (cO K (uU (Bp K) (aH (fj K) (aa 1) (aa 6)) cU (fD (aa 7)))) (au 9) (Fl K))))
  (b7 (aa 5)))
def wu (K:W.Frag) (E:XK) (Eh:XK):TS:=(aF (aP qw (au 2))
  (aF (d9 (lJ K (aH (aO K) (aa 0) (tC (V.int 1)))) (gZ K 2 (bC (au 3) (bC (au 4) iQ))) (pI (aa 2) (aa 3) (aR (sp_f11 K) [] E0 (aj (aa 0) (aj (aa 4) aA)))))
  (aF (aP (gG aA) (au 5))
  (Fp K))))
theorem Qo (h:sp_f40 K vs H Q E):∃Eh,wu K E Eh {nx:=λ_ H'=>Q .non H',rt:=Q} (start ["font","ways","costs","sign","columns","found","room","place","later","way","stand"] vs) H:=by
 let#[f,wa,h,ls,c,rfl,hF,wf,hW,c5,cr,U,q]:=h;show#[E0,?_];unfold wu;have c6:(ls.map (·.1)).Nodup:=wf.up.imp λc9 e=>by subst e;show List.lt_irrefl _ c9
 let#[l,zs,t1,b0,t3,t4]:=id hF.t;have cy:zs.length=ls.length:=by rw[<-b0,Qb]
 have dk:=wf.le;have br:∀k,∀r∈bF c k,0<=r/\r<c.length:=λk=>dB (P:=λr:Int=>0<=r/\r<c.length) #[by decide,()] (λp q' hp hq=>by
  let#[w,mw,rfl]:=Zl.mp hq;have:c.getD p.toNat []∈c:=by rw[Æ,Zz ()];show ì _
  show((U _ this).2 w mw).2) k;have cv:∀k,(bF c k).length<=c.length:=λk=>by
  have:=cZ (l:=bF c k) (m:=(List.range c.length).map λi:Nat=>(i:Int)) (dY _ _ k) λr mr=>by let#[h0,h1]:=br k r mr;show Zl.mpr #[r.toNat,í.mpr (),()]
  rw[Qb,ù]at this;show this
 symm;intro X ah;symm;show bV (aD ah t1) ?_;have a2:∀p'∈[X],H p'=none:=λp' ai=>by rw[Zp.mp ai];show ah
 walk_at "ns";show yF (λz:Lz=>V.ref z.1) ((aB ah _).tup t3) (λi x H'=>Sb [X] H H'/\∃(L:List (Str×Addr×List Nat)) (o3 o4:Option V),L.map (λk=>(k.1,k.2.2))=ls.take i/\H' X=!(.dK (L.map λk=>((Sum.inr k.1:Key),V.ref k.2.1)))/\(∀k∈L,k.2.1≠X/\H' k.2.1=!(.dK (yL (yK k.2.2 ls))))/\x=[!(.ref f),!(.ref wa),!(.ref X),o3,o4,none,none,none,none,none,none]) #[Sb.of (aB ah _),[],_,_,rfl,ao,λk R=>(by cases R),rfl] ?_ ?_ ?_;.rintro i x H' ⟨sb,_⟩;show(sb.off a2).tup t3
 .rintro i ⟨za,s,cz,co⟩ x H' hi ⟨sb,L,o3,o4,F,Y,J,rfl⟩;have S:=sb.off a2;let#[u1,u2]:=t4 _ (Zs hi);dsimp only at u1 u2;have a5:ls[i]?=!(s,co):=by rw[<-b0,Xs,hi];rfl
  have c1:=wf.c1 _ (Zs a5);dsimp only at c1;have dc:i<ls.length:=(É.mp a5).1;have al:ls.take (i+1)=ls.take i++[(s,co)]:=by rw[Ø,a5];rfl
  have bw:s∉(ls.take i).map (·.1):=by have h1:((ls.take (i+1)).map (·.1)).Nodup:=Đ ((Ě _ _).map _) c6;rw[al,Wp,ð]at h1;showλm=>h1.2.2 s m s (by simp) rfl
  have c3:L.length<=94:=by have:=ß List.length F;rw[Qb,Ñ]at this;rfl'
  show dh (SqT.of (S.get u1)) rfl ?_;symm;show#[f,cz,h,ls,co,rfl,(hF.same S).t,wf,SqT.of (S.get u2),(),λr H2 s2 hr er=>?_];have bl:r≠X:=λe=>by rw[e,Y]at hr;cases hr
  have hv:bQ (L.map λk=>((Sum.inr k.1:Key),V.ref k.2.1)) (Sum.inr s)=none:=j9 (f:=λk:Str×Addr×List Nat=>(Sum.inr k.1:Key)) (g:=λk:Str×Addr×List Nat=>V.ref k.2.1) λm=>by let#[k,R,e]:=Zl.mp m;show bw (by rw[<-F,Á];show Zl.mpr #[k,R,ř e])
  symm;show#[X,_,rfl,DPut.k (k:=Sum.inr s) (s2.get Y) (Ù (by rw[Qb];show c3:_<=94) (by decide)),?_];rw[j0 _ hv];symm;show#[(sb.same s2).set (by simp),L++[(s,r,co)],_,_,by rw[Wp,F,al];rfl,by rw[ao,Wp];rfl,λk R=>?_,rfl];rcases Â.mp R with R|R;.show #[(J k R).1,by rw[az (J k R).1];show s2.get (J k R).2]
  .rw [Zp.mp R];show#[bl,by rw[az bl];show er]
 .rintro x Hc ⟨sb,L,o3,o4,F,Y,ax,rfl⟩;rw[cy,ä]at F;have J:∀k∈L,Hc k.2.1=!(.dK (yL (yK k.2.2 ls))):=λk R=>(ax k R).2;have SH:=sb.off a2;have ci:=hW.same SH;have a7:∀{s co},Fo.lk ls s=!co->∃k∈L,k.2.2=co/\bQ (L.map λk=>((Sum.inr k.1:Key),V.ref k.2.1)) (Sum.inr s)=!(V.ref k.2.1):=by rw[<-F];clear Y J ax F;induction L with
   |nil=>intro s co h;cases h|cons k L ih=>
    intro s co h;rw[Ä,Fo.jX]at h;rw[Ä];by_cases e:k.1=s;.rw [if_pos e]at h;cases h;show#[k,Ì,rfl,by rw[cP (by rw[e])]]
    .rw [if_neg e]at h;let#[k',m',e1,e2]:=ih h;show#[k',Í _ m',e1,by rw[cB (by intro z;show e (ř z))];show e2]
  symm;intro y a4;symm;walk_at "ns";have S0:Same Hc (upd Hc y (HO.lst [])):=aB a4 _;show#[wa,c,rfl,ci.same S0,c5,cr,λws a6=>#[by have:=(U ws a6).1;rfl',λw mw=>#[?_,((U ws a6).2 w mw).2]],λO H1 N ps s1 bd cf c0 hN _=>?_];.obtain ⟨n,en⟩:=wf.sg _ (Fo.nY ((U ws a6).2 w mw).1);dsimp only at en;rw[en];show Ã 1
  have ce:Hc O=none:=S0.free bd;have bq:y≠O:=λe=>by rw[<-e,ao]at bd;cases bd
  have bp:H1 y=!(.lst []):=s1.get ao;have S1:Same Hc H1:=S0.trans s1;have C:∀p'∈[y,O],Hc p'=none:=λp' ai=>by
   simp only[Å,æ,ď]at ai;rcases ai with rfl|rfl;.show a4
   .show ce
  have dg:ps.length=(bF c N).length:=by rw[<-cf,Qb]
  have dq:=cv N;show Qc (.inl c0) (λod i x H'=>Sb [y,O] Hc H'/\H' O=!(.frz od (.dK (ps.map λp=>((Sum.inl p.1:Key),V.str p.2))))/\Su K H' y (lO c ((bF c N).take i))/\(lO c ((bF c N).take i)).length<=i*10000/\∃o6 o7 o8 o9 u:Option V,x=[!(.ref f),!(.ref wa),!(.ref X),o3,o4,!(.ref y),o6,o7,o8,o9,u]) (λod H2 D e2=>#[λb o n q'=>D b o (λz=>n (by simp only[Zp]at z;rw[z];simp)) (S1 b o q'),e2,#[[],rfl,D.get (by simpa using bq) bp,λz m=>(by cases m)],ñ _,_,_,_,_,_,rfl]) (λod i x H' h=>by let#[_,h,_]:=h;show h) ?_ ?_
  .rintro od i z x H' hz ⟨ap,aw,hT,cm,o6,o7,o8,o9,u,rfl⟩;let#[p,hp,rfl]:∃p,ps[i]?=!p/\z=((Sum.inl p.1:Key),V.str p.2):=by rw[Xs]at hz;let#[p,hp,e]:=á.mp hz;show#[p,hp,e.symm]
   have bb:(bF c N)[i]?=!p.1:=by rw[<-cf,Xs,hp];rfl
   let#[r0,r1]:=br N p.1 (Zs bb);let#[j,hj]:∃j:Nat,p.1=(j:Int):=#[p.1.toNat,()];have dc:i<(bF c N).length:=(É.mp bb).1;let#[rs,w1,w2,w3]:=id ci;have dm:rs.length=c.length:=by rw[<-w1,Qb]
   let#[d,am]:∃d,rs[j]?=!d:=#[_,Zz ()];have b4:c[j]?=!d.2:=by rw[<-w1,Xs,am];rfl
   let#[M,a9,z1,z2]:=w3 d (Zs am);let#[da,bk]:=U d.2 (Zs b4);have ct:M.length=d.2.length:=by rw[<-a9,Qb]
   have al:lO c ((bF c N).take (i+1))=lO c ((bF c N).take i)++(List.range d.2.length).flatMap λb=>(List.range b).map λa=>(d.2.getD a default,d.2.getD b default,(j:Int)):=by rw[Ø,bb];unfold lO;rw[ĺ];congr 1;change[p.1].flatMap _=_;rw[ĥ,hj,Fj b4]
   rw[al];generalize hA:lO c ((bF c N).take i)=A at hT cm⊢;change au 6 (V.int p.1) _ _ _;rw[hj];symm;have S':=ap.off C;show dU (SqL.of (S'.get w2)) (aX (j:=j) (v:=.ref d.1) (by rw[Xs,am];rfl)) ?_;walk_at "ns";show Qd (λz:Wz=>V.ref z.1) (xs:=M) (SqL.of (S'.get z1)) (λb x H2=>Sb [y,O] Hc H2/\H2 O=!(.frz od (.dK (ps.map λp=>((Sum.inl p.1:Key),V.str p.2))))/\Su K H2 y (A++(List.range b).flatMap λb=>(List.range b).map λa=>(d.2.getD a default,d.2.getD b default,(j:Int)))/\(A++(List.range b).flatMap λb=>(List.range b).map λa=>(d.2.getD a default,d.2.getD b default,(j:Int))).length<=i*10000+b*100/\∃o7 o8 o9 u:Option V,x=[!(.ref f),!(.ref wa),!(.ref X),o3,o4,!(.ref y),!(.int (j:Nat)),o7,o8,o9,u]) #[ap,aw,by rw[Ÿ,List.flatMap_nil,å];show hT,by rw[Ÿ,List.flatMap_nil,å];rfl',_,_,_,_,rfl] ?_ ?_ ?_;.rintro b x H2 ⟨D,_⟩;show SqL.of ((D.off C).get z1)
   .rintro b ⟨wb,sw,Z,T⟩ tp x H2 hb ⟨D,I,ak,ae,o7,o8,o9,u,rfl⟩ ad;have a1:d.2[b]?=!(sw,Z,T):=by rw[<-a9,Xs,hb];rfl
    have dt:b<d.2.length:=(É.mp a1).1;have cx:d.2.getD b default=(sw,Z,T):=by rw[Æ,a1];rfl
    have bn:=z2 _ (Zs hb);let#[cb,b1,b2]:=id bn;dsimp only at b1 b2;have b3:=((bk _ (Zs a1)).1);dsimp only at b3;let#[kb,c4,c2,cj]:=a7 b3;have cp:tp≠O:=λe=>by rw[e,I]at ad;cases ad
    have a3:=D.new (o:=.tup [.int (b:Int),.ref wb]) ad;show dh (SqT.of ao) rfl ?_;symm;have W:upd H2 tp (.tup [.int (b:Int),.ref wb]) O=!(.frz od (.dK (ps.map λp=>((Sum.inl p.1:Key),V.str p.2)))):=by rw[az cp.symm];show I
    have ar:Su K (upd H2 tp (.tup [.int (b:Int),.ref wb])) y (A++(List.range b).flatMap λb=>(List.range b).map λa=>(d.2.getD a default,d.2.getD b default,(j:Int))):=by let#[us,u1,u2,u3]:=ak;show#[us,u1,aD ad u2,λz mz=>(u3 z mz).same (aB ad _)]
    generalize upd H2 tp (.tup [.int (b:Int),.ref wb])=H3 at a3 W ar⊢;rw[Ţ,ĺ,ĥ,<-Þ,cx];generalize hB:A++(List.range b).flatMap (λb=>(List.range b).map λa=>(d.2.getD a default,d.2.getD b default,(j:Int)))=B at ar ae⊢;have S3:=a3.off C;show dU (SqL.of (S3.get w2)) (aX (j:=j) (v:=.ref d.1) (by rw[Xs,am];rfl)) ?_;symm;show Le (SqL.of (S3.get z1)) λsl G=>?_;rw[vU (),Ó,<-List.map_take];walk_at "ns";have S4:Same H3 (upd H3 sl (HO.lst ((M.take b).map λz:Wz=>V.ref z.1))):=aB G _;have dl:sl≠O:=λe=>by rw[e,W]at G;cases G
    have be:sl≠y:=λe=>by let#[us,u1,u2,u3]:=ar;rw[e,u2]at G;cases G
    have de:Hc sl=none:=S3.free G;have df:∀p'∈[y,O],upd H3 sl (HO.lst ((M.take b).map λz:Wz=>V.ref z.1)) p'≠none->True:=λ_ _ _=>trivial;have bo:=a3.new (o:=HO.lst ((M.take b).map λz:Wz=>V.ref z.1)) G;have a8:upd H3 sl (HO.lst ((M.take b).map λz:Wz=>V.ref z.1)) sl=!(.lst ((M.take b).map λz:Wz=>V.ref z.1)):=ao;have as:=S4.get W;have b9:Su K (upd H3 sl (HO.lst ((M.take b).map λz:Wz=>V.ref z.1))) y B:=by let#[us,u1,u2,u3]:=ar;show#[us,u1,S4.get u2,λz mz=>(u3 z mz).same S4]
    generalize upd H3 sl (HO.lst ((M.take b).map λz:Wz=>V.ref z.1))=H4 at S4 bo a8 as b9⊢;show gD (λz:Wz=>V.ref z.1) (zs:=M.take b) (SqL.of a8) (λa x H5=>Sb [y,O] Hc H5/\H5 sl=!(.lst ((M.take b).map λz:Wz=>V.ref z.1))/\H5 O=!(.frz od (.dK (ps.map λp=>((Sum.inl p.1:Key),V.str p.2))))/\Su K H5 y (B++(List.range a).map λa=>(d.2.getD a default,(sw,Z,T),(j:Int)))/\∃o9 u:Option V,x=[!(.ref f),!(.ref wa),!(.ref X),o3,o4,!(.ref y),!(.int (j:Nat)),!(.int (b:Nat)),!(.ref wb),o9,u]) #[bo,a8,as,by rw[Ÿ,û,å];show b9,_,_,rfl] ?_ ?_ ?_;.rintro a x H5 ⟨_,h,_⟩;show SqL.of h
    .rintro a ⟨wq,sq,cq,rq⟩ x H5 ha ⟨ag,av,af,⟨us,u1,u2,u3⟩,o9,u,rfl⟩;have db:a<b:=by have:=(É.mp ha).1;rw[Ñ]at this;rfl'
     have b5:M[a]?=!(wq,sq,cq,rq):=by rw[List.getElem?_take,if_pos db]at ha;show ha
     have bg:d.2[a]?=!(sq,cq,rq):=by rw[<-a9,Xs,b5];rfl
     have cn:d.2.getD a default=(sq,cq,rq):=by rw[Æ,bg];rfl
     have ay:=z2 _ (Zs b5);let#[cc,q1,q2]:=id ay;dsimp only at q1 q2;have bi:=((bk _ (Zs bg)).1);dsimp only at bi;have S5:=ag.off C;have dn:us.length<=1000000:=by have:=ß List.length u1;rw[Qb,À,Qb,ù]at this;rfl'
     symm;show eG (S5.get b1) ?_;symm;show bV (S5.get b1) ?_;symm;show#[wq,cb,(sq,cq,rq),T,Z,rfl,ay.same S5,S5.get b2,λst H6 s6 dp hS=>?_];have S6:=S5.trans s6;symm;show dI (SqL.of (s6.get u2)) ?_;symm;show cM (S6.get b1) ?_;symm;show#[X,.ref kb.2.1,rfl,by rw[<-cj];show DGet.k (k:=Sum.inr sw) (S6.get Y),?_];symm;show cM (S6.get q1) ?_;symm;show#[kb.2.1,V.int (cst Z cq:Nat),rfl,by have:=DGet.k (k:=Sum.inr sq) (S6.get (J kb c4));rw[c2,wj bi]at this;show this,?_];symm;intro tq c8;have s7:Same H6 (upd H6 tq (HO.tup [.int (cst Z cq:Nat),.ref st,.int (j:Nat),.ref wq,.ref wb])):=aB c8 _;have e7:upd H6 tq (HO.tup [.int (cst Z cq:Nat),.ref st,.int (j:Nat),.ref wq,.ref wb]) tq=!(.tup [.int (cst Z cq:Nat),.ref st,.int (j:Nat),.ref wq,.ref wb]):=ao;generalize upd H6 tq (HO.tup [.int (cst Z cq:Nat),.ref st,.int (j:Nat),.ref wq,.ref wb])=H7 at s7 e7⊢;have u7:=s7.get (s6.get u2);symm;show fH u7 (by rw[Qb];rfl') ?_;symm;have hz:FkA K H7 (tq,st,wq,wb,((sq,cq,rq),(sw,Z,T),(j:Int))):=#[e7,hS.same s7,(ay.same S6).same s7,(bn.same S6).same s7];show#[((ag.same s6).same s7).set (by simp),by rw[az be];show s7.get (s6.get av),by rw[az bq.symm];show s7.get (s6.get af),#[us++[(tq,st,wq,wb,((sq,cq,rq),(sw,Z,T),(j:Int)))],by rw[Wp,u1,Ţ,Wp,<-Þ,List.map_singleton,List.map_singleton,cn],by rw[ao,Wp];rfl,λz mz=>?_],_,_,rfl];rcases Â.mp mz with mz|mz;.show (((u3 z mz).same s6).same s7).app u7
     .rw [Zp.mp mz];show hz.app u7
    .rintro x H5 ⟨ag,av,af,b6,o9,u,rfl⟩;have eb:(M.take b).length=b:=by rw[Ñ];rfl'
     rw[eb]at b6;show#[ag,af,b6,by rw[À,Qb,ù];rfl',_,_,_,_,rfl]
   .rintro x H2 ⟨D,I,ak,ae,o7,o8,o9,u,rfl⟩;rw[ct]at ak ae;show#[D,I,ak,(),_,_,_,_,_,rfl]
  .rintro od x H' ⟨ap,aw,hT,_,o6,o7,o8,o9,u,rfl⟩;rw[è (by rw[Qb];rfl')]at hT;symm;show q y H' N (SH.trans (ap.off C)) (SH.free a4) hN hT
noncomputable def qZ (ls:List (Str×List Nat)) (st:Int×Int×List Nat) (w:Str×List Nat×Int):Str×Nat×(Int×Int×List Nat):=(w.1,cst st.2.2 w.2.1,m8 w st.2.1 st.2.2)
def SpT (K:W.Frag) (H:Hp) (a:Addr) (x:Str×Nat×(Int×Int×List Nat)):Prop:=∃c,H a=!(.tup [.str x.1,.int (x.2.1:Nat),.ref c])/\StT K H c x.2.2
theorem SpT.same {K:W.Frag} {a:Addr} {x:Str×Nat×(Int×Int×List Nat)} (h:SpT K H a x) (s:Same H H'):SpT K H' a x:=by let#[c,b,d]:=h;show#[c,s.get b,d.same s]
def SsT (K:W.Frag) (H:Hp) (a:Addr) (xs:List (Str×Nat×(Int×Int×List Nat))):Prop:=∃zs:List (Addr×Str×Nat×(Int×Int×List Nat)),zs.map (·.2)=xs/\H a=!(.lst (zs.map λz=>V.ref z.1))/\∀z∈zs,SpT K H z.1 z.2
inductive sp_f31 (K:W.Frag) (vs:List V) (H:Hp) (Q:VK) (E:XK):Prop|mk (wa ca sa:Addr) (ls:List (Str×List Nat)) (wss:List (List (Str×List Nat×Int))) (st:Int×Int×List Nat) (ws:List (Str×List Nat×Int)) (r:Nat) (h0:vs=[.ref wa,.ref ca,.ref sa]) (h1:WsT H wa wss) (h2:H ca=!(.dK (yL (yK st.2.2 ls)))) (h3:StT K H sa st) (h4:st.1=(r:Int)) (h5:wss[r]?=!ws) (h6:(∀w∈ws,Fo.lk ls w.1=!w.2.1)) (h7:ws.length<=1000) (h8:∀p H',Same H H'->H p=none->SsT K H' p (ws.map (qZ ls st))->Q (.ref p) H'):sp_f31 K vs H Q E
def ww (K:W.Frag) (E:XK) (Eh:XK):TS:=(b7 (oR [none,!1,!2] (cO K (aH (fj K) (aa 0) (aH (aO K) (aa 2) (tC (V.int 0))))) (au 0) fu (bZ (aj (aH (aO K) (aa 0) (tC (V.int 0))) (aj (gw (aa 1) (aH (aO K) (aa 0) (tC (V.int 0)))) (aj (aR (sp_f4 K) [] E0 (aj (aa 0) (aj (aH (aO K) (aa 2) (tC (V.int 1))) (aj (aH (aO K) (aa 2) (tC (V.int 2))) aA)))) aA))))))
theorem Qp (h:sp_f31 K vs H Q E):∃R,ww K E R {nx:=λ_ H'=>Q .non H',rt:=Q} (start ["ways","costs","stand"] vs) H:=by
 let#[wa,ca,sa,ls,S,#[s0,F,w],g,r,rfl,#[O,I,Z,w3],o,#[sc,x,M],J,t,C,ad,q]:=h;show#[E0,?_];unfold ww;dsimp only at x M J o;subst J;let#[f,e]:∃f,O[r]?=!f:=#[_,Zz (by have:=(É.mp t).1;rw[<-I,Qb]at this;show this)];have y:f.2=g:=by
  have:(O.map (·.2))[r]?=!f.2:=by rw[Xs,e];rfl
  rw[I,t]at this;show(Ô this).symm
 let#[zs,d,P,z2]:=w3 f (Zs e);rw[y]at d;have T:zs.length=g.length:=by rw[<-d,Qb]
 symm;show cM x ?_;symm;show dU (SqL.of Z) (aX (j:=r) (v:=.ref f.1) (by rw[Xs,e];rfl)) ?_;show zX (λz:Wz=>V.ref z.1) (zs:=zs) (SqL.of P) () (λi vs H'=>Same H H'/\∃us:List (Addr×Str×Nat×(Int×Int×List Nat)),vs=us.map (λz=>V.ref z.1)/\us.map (·.2)=(g.take i).map (qZ ls ((r:Int),F,w))/\∀z∈us,SpT K H' z.1 z.2) #[Same.refl _,[],rfl,rfl,λz m=>(by cases m)] ?_ ?_ ?_ ?_;.rintro i vs H' ⟨s',_⟩;show SqL.of (s'.get P)
 .rintro i vs H' ⟨_,us,rfl,l,_⟩;have:=ß List.length l;rw[Qb,Qb,Ñ]at this;rw[Qb];rfl'
 .rintro i ⟨za,s,n,a⟩ vs H' hi ⟨s',us,rfl,l,G⟩;have u:g[i]?=!(s,n,a):=by rw[<-d,Xs,hi];rfl
  have D:g.take (i+1)=g.take i++[(s,n,a)]:=by rw[Ø,u];rfl
  have Y:=z2 _ (Zs hi);let#[U,v1,v2]:=id Y;dsimp only at v1 v2;have L:=C _ (Zs u);dsimp only at L;symm;show cM (s'.get v1) ?_;symm;show cM (s'.get v1) ?_;symm;show#[ca,V.int (cst w n:Nat),rfl,by have:=DGet.k (k:=Sum.inr s) (s'.get o);rw[wj L]at this;show this,?_];symm;show bV (s'.get x) ?_;symm;show eG (s'.get x) ?_;symm;show#[za,sc,(s,n,a),F,w,rfl,#[U,s'.get v1,s'.get v2],s'.get M,λsb H2 N X B=>?_];symm;intro W b;show#[(s'.trans N).new b,us++[(W,qZ ls ((r:Int),F,w) (s,n,a))],by rw[Wp];rfl,by rw[Wp,l,D,Wp];rfl,λz c=>?_];rcases Â.mp c with c|c;.show (G z c).same (N.new b)
  .rw [Zp.mp c];show#[sb,ao,B.same (aB b _)]
 .rintro vs H' ⟨s',us,rfl,l,G⟩ p A;rw[è ()]at l;show q p _ (s'.new A) (s'.free A) #[us,l,ao,λz c=>(G z c).same (aB A _)]
abbrev Sd:=Int×Int×List Nat
variable{x y:Sd} {e:Nat×Sd} {S:List Sd} {ev:Sd->Prop} {F':Sd->Nat×Nat->Prop} {W':Nat×Nat->Sd->Prop} {B' P':Nat->Sd->Sd->Prop} {kf:Sd->Option (Nat×Nat)} {st:Sd->List (Str×Nat×Sd)}
noncomputable def dG (x:Sd):Sk:=(x.1,x.2.1,x.2.2.map λn:Nat=>(n:Int))
theorem uw:∀{c d:List Nat},(c.map λn:Nat=>(n:Int))=(d.map λn:Nat=>(n:Int))->c=d
 |[],[],_=>rfl|[],_::_,h=>by cases h|_::_,[],h=>by cases h|x::c,y::d,h=>by
  rw[Ä,Ä]at h;injection h with h1 h2;rw[uw h2,show x=y by rfl']
theorem rA (h:dG x=dG y):x=y:=by let#[a,b,c]:=x;let#[g,d,f]:=y;have i:a=g:=ß (λz:Sk=>z.1) h;have j:b=d:=ß (λz:Sk=>z.2.1) h;have e:c=f:=uw (ß (λz:Sk=>z.2.2) h);rw[i,j,e]
theorem StT.a {K:W.Frag} {a:Addr} {st:Sd} (h:StT K H a st):StA H a (dG st):=by let#[c,b,d]:=h;show#[c,b,by rw[d];unfold nv dG;rw[Á];rfl]
theorem StT.keep {K:W.Frag} {k:Sd} {o g:HO} (h:StT K H b k) (e:H p=!o) (f:∀l,o≠.tup l):StT K (upd H p g) b k:=by let#[c,a,d]:=h;show#[c,by rw[az (bD a e λz=>f _ z.symm)];show a,by rw[az (bD d e λz=>f _ z.symm)];show d]
theorem SsT.same {K:W.Frag} {a:Addr} {xs:List (Str×Nat×Sd)} (h:SsT K H a xs) (s:Same H H'):SsT K H' a xs:=by let#[zs,b,c,e]:=h;show#[zs,b,s.get c,λz d=>(e z d).same s]
theorem SsT.keep {K:W.Frag} {a:Addr} {xs:List (Str×Nat×Sd)} {o f:HO} (h:SsT K H a xs) (e:H p=!o) (b:∀l,o≠.tup l) (n:a≠p):SsT K (upd H p f) a xs:=by let#[zs,j,k,m]:=h;show#[zs,j,by rw[az n];show k,λz i=>?_];let#[c,d,g]:=m z i;show#[c,by rw[az (bD d e λz=>b _ z.symm)];show d,g.keep e b]
noncomputable def rQ (ys:List Nat):List Key:=ys.map λn:Nat=>(Sum.inl (n:Int):Key)
theorem wA (a:List Nat):(rQ a).map kV=nv a:=by unfold rQ nv;rw[Á];rfl
theorem rB:∀{c d:List Nat},rQ c=rQ d->c=d
 |[],[],_=>rfl|[],_::_,h=>by cases h|_::_,[],h=>by cases h|x::c,y::d,h=>by
  unfold rQ at h;rw[Ä,Ä]at h;injection h with a h2;have a:=Sum.inl.inj a;rw[rB h2,show x=y by rfl']
theorem Ft {a:List Nat}:∀{cs:List (List Nat×Addr)},a∈cs.map (·.1)->∃b,(a,b)∈cs/\bQ (cs.map λc=>(rQ c.1,V.ref c.2)) (rQ a)=!(V.ref b)
 |c::cs,m=>by
  rw[Ä];by_cases e:c.1=a
  .show #[c.2,by rw[<-e];show Ì,by rw[cP (by rw[e])]]
  .obtain ⟨b,d,f⟩:=Ft (cs:=cs) (by rcases Å.mp m with z|z;show absurd z.symm e;show z);show⟨b,Í _ d,by rw[cB (λz=>e (rB z))];show f⟩
theorem yM {a:List Nat}:∀{cs:List (List Nat×Addr)},a∉cs.map (·.1)->bQ (cs.map λc=>(rQ c.1,V.ref c.2)) (rQ a)=none
 |[],_=>rfl|c::cs,m=>by rw[Ä,cB (λz=>m (by rw[Ä,rB z];show Ì))];show yM λz=>m (Í _ z)
abbrev Uz:=(Addr×Str×Nat×Sd)×Addr
theorem wB {K:W.Frag} {H:Hp}:∀{us:List (Addr×Str×Nat×Sd)},(∀z∈us,SpT K H z.1 z.2)->∃ps:List Uz,ps.map (·.1)=us/\∀p∈ps,H p.1.1=!(.tup [.str p.1.2.1,.int (p.1.2.2.1:Nat),.ref p.2])/\StT K H p.2 p.1.2.2.2
 |[],_=>#[[],rfl,λp m=>(by cases m)]|u::us,h=>by
  let#[ps,d,e]:=wB λz f=>h z (Í _ f);let#[c,b,g]:=h u Ì;show#[(u,c)::ps,by rw[Ä,d],λp a=>?_];rcases Å.mp a with rfl|a;.show #[b,g]
  .show e p a
noncomputable def wC (wss:List (List (Str×List Nat×Int))) (st:Sd):List Sd:=(wss.getD st.1.toNat []).map λw=>m8 w st.2.1 st.2.2
noncomputable def oF (z:(Str×List Nat×Int)×(Str×List Nat×Int)×Int):Sd:=m8 z.1 z.2.1.2.2 z.2.1.2.1
noncomputable def rC (wss:List (List (Str×List Nat×Int))) (N:Nat):List Sd:=(lO wss (bF wss N)).map oF
def InU (n:Nat) (ls:List (Str×List Nat)) (x:Sd):Prop:=(0<=x.1/\x.1<n)/\(0<=x.2.1/\x.2.1<n)/\∃p∈ls,∃d,d<9/\x.2.2=p.2.drop d
noncomputable def UL (n:Nat) (ls:List (Str×List Nat)):List Sd:=(List.range n).flatMap λa:Nat=>(List.range n).flatMap λb:Nat=>ls.flatMap λp=>(List.range 9).map λd:Nat=>((a:Int),(b:Int),p.2.drop d)
theorem rD {a b:Type} (f:a->List b) (k:Nat) (h:∀x,(f x).length=k):∀l:List a,(l.flatMap f).length=l.length*k
 |[]=>by simp|x::l=>by rw[List.flatMap_cons,À,h,rD f k h l,é,Nat.add_mul,Nat.one_mul,Ε]
theorem Fv (n:Nat) (ls:List (Str×List Nat)):(UL n ls).length=n*n*(ls.length*9):=by unfold UL;rw[rD _ (n*(ls.length*9)) λa=>by rw[rD _ (ls.length*9) λb=>by rw[rD _ 9 λp=>by rw[Qb,ù]],ù],ù,Nat.mul_assoc]
theorem InU.mem {ls:List (Str×List Nat)} (h:InU n ls x):x∈UL n ls:=by let#[#[a1,c],#[b1,f],p,b,d,a,e]:=h;show ġ.mpr #[x.1.toNat,í.mpr (),ġ.mpr #[x.2.1.toNat,í.mpr (),ġ.mpr #[p,b,Zl.mpr #[d,í.mpr a,?_]]]];rw[<-e,ų a1,ų b1]
def WOk (ls:List (Str×List Nat)) (n:Nat) (wss:List (List (Str×List Nat×Int))):Prop:=∀ws∈wss,∀w∈ws,((w.1,w.2.1)∈ls/\1<=w.2.1.length/\w.2.1.length<=8)/\0<=w.2.2/\w.2.2<n
theorem WOk.at {ls:List (Str×List Nat)} {n:Nat} {a:List (List (Str×List Nat×Int))} (h:WOk ls n a) {r:Nat} {w:Str×List Nat×Int} (m:w∈a.getD r []):((w.1,w.2.1)∈ls/\1<=w.2.1.length/\w.2.1.length<=8)/\0<=w.2.2/\w.2.2<n:=by
 by_cases c:r<a.length;.rw [Æ,Zz c]at m;show h _ (ì c) w m
 .rw [Æ,Ņ ()]at m;cases m
theorem Fw {ls:List (Str×List Nat)} (g:((w.1,w.2.1)∈ls/\1<=w.2.1.length/\w.2.1.length<=8)/\0<=w.2.2/\w.2.2<n) {a:Int} {e:List Nat} (b:0<=a/\a<n) (f:∃p∈ls,p.2.length<=8/\∃d,e=p.2.drop d):InU n ls (m8 w a e):=by
 let#[#[m,i,j],r]:=g;let#[p,h,k,d,rfl]:=f;unfold m8;split;.rename_i c;rw[ô]at c;show#[r,b,p,h,d+w.2.1.length,(),by change(p.2.drop d).drop _=_;rw[List.drop_drop]]
 .rename_i c;show#[b,r,_,m,(p.2.drop d).length,(),rfl]
theorem Fx {ls:List (Str×List Nat)} (f:∀p∈ls,p.2.length<=8) (h:WOk ls n wss) (x y:Sd) (g:InU n ls x) (m:y∈wC wss x):InU n ls y:=by let#[w,b,rfl]:=Zl.mp m;let#[_,c,p,a,d,_,e]:=g;show Fw (h.at b) c #[p,a,f p a,d,e]
theorem Fy {ls:List (Str×List Nat)} (h:WOk ls n wss) (N:Nat) (x:Sd) (m:x∈rC wss N):InU n ls x:=by
 let#[z,o,rfl]:=Zl.mp m;let#[r,_,q]:=ġ.mp o;let#[b,p,f]:=ġ.mp q;let#[a,e,rfl]:=Zl.mp f;have i:=í.mp p;have e:=í.mp e;have g:∀k,k<(wss.getD r.toNat []).length->(wss.getD r.toNat []).getD k default∈wss.getD r.toNat []:=by generalize wss.getD r.toNat []=l;intro k d;rw[Æ,Zz d];show ì d
 have j:=h.at (g a ());have c:=h.at (g b i);show Fw j c.2 #[_,c.1.1,c.1.2.2,0,rfl]
def Ai (ls:List (Str×List Nat)) (ds:L2S):Prop:=0<ds.length/\ds.length<=50/\(∀ps∈ds,ps.length<=18/\∀p∈ps,0<=p.2/\p.2<ds.length)/\ds.length*ds.length*(ls.length*9)<=50000
theorem rE {h:Nat} {ls:List (Str×List Nat)} (f:Fo.Wf h ls) (sz:Ai ls ds):WOk ls ds.length (ds.map (aN ls)):=λj a w g=>by let#[ps,c,rfl]:=Zl.mp a;let#[p,d,e]:=ý.mp (show w∈ps.filterMap _ from g);let#[i,b,rfl]:=á.mp e;have:=Fo.nY b;show#[#[this,f.c1 _ this],(sz.2.2.1 ps c).2 p d]
abbrev Gz:=Addr×Sd×Addr
variable{bz gz:List Gz}
noncomputable def cu (zs:List Gz):List (Addr×Sk×V):=zs.map λz:Gz=>(z.1,dG z.2.1,V.ref z.2.2)
def GzT (K:W.Frag) (H:Hp) (ls:List (Str×List Nat)) (wss:List (List (Str×List Nat×Int))) (z:Gz):Prop:=StT K H z.1 z.2.1/\SsT K H z.2.2 ((wss.getD z.2.1.1.toNat []).map (qZ ls z.2.1))
theorem GzT.same {K:W.Frag} {ls:List (Str×List Nat)} {z:Gz} (h:GzT K H ls wss z) (s:Same H H'):GzT K H' ls wss z:=#[h.1.same s,h.2.same s]
theorem wD {K:W.Frag} {ls:List (Str×List Nat)} {zs:List Gz} (h:∀z∈zs,GzT K H ls wss z):∀p∈cu zs,StA H p.1 p.2.1:=λp c=>by let#[z,b,rfl]:=Zl.mp c;show(h z b).1.a
theorem gk {zs:List Gz} (h:x∉zs.map (·.2.1)):cR (cu zs) (dG x)=none:=jr.mpr λm=>by unfold cu at m;rw[Á]at m;let#[z,a,e]:=Zl.mp m;show h (Zl.mpr #[z,a,rA e])
theorem je {zs:List Gz} (h:x∈zs.map (·.2.1)):∃v,cR (cu zs) (dG x)=!v:=Ew (by unfold cu;rw[Á];let#[z,a,e]:=Zl.mp h;show Zl.mpr #[z,a,by rw[<-e];rfl])
theorem m9 {a:List (List (Str×List Nat×Int))} (d:∀h∈a,h.length<=18):∀rs:List Int,(lO a rs).length<=rs.length*324
 |[]=>by simp[lO]|r::rs=>by
  have b:=m9 d rs;unfold lO at b⊢;rw[List.flatMap_cons,À,é];have l:(Vg a r).length<=324:=by
   unfold Vg;have f:(a.getD r.toNat []).length<=18:=by
    by_cases c:r.toNat<a.length;.rw [Æ,Zz c];show d _ (ì c)
    .rw [Æ,Ņ ()];simp
   have e:∀(m:Nat) (g:Nat->Nat->(Str×List Nat×Int)×(Str×List Nat×Int)×Int),m<=18->((List.range m).flatMap λj=>(List.range j).map λk=>g j k).length<=m*18:=by intro m g i;induction m with
    |zero=>simp|succ m b=>rw[Ţ,ĺ,À,ĥ,Qb,ù];have:=b ();rfl'
   have:=e _ (λj k=>((a.getD r.toNat []).getD k default,(a.getD r.toNat []).getD j default,r)) f;rfl'
  rfl'
inductive sp_f27 (K:W.Frag) (vs:List V) (H:Hp) (Q:VK) (E:XK):Prop|mk (f ha:Addr) (h:Nat) (ls:List (Str×List Nat)) (ds:L2S) (es:List Int) (h0:vs=[.ref f,.ref ha]) (h1:FnF K H f h ls) (h2:Fo.Wf h ls) (h3:HsG K H ha ds es) (h4:Ai ls ds) (h5:∀r H' N (zs:List Gz),Same H H'->H r=none->(bF (ds.map (aN ls)) N).length<=N->H' r=!(bA r (cu zs))->(∀z∈zs,GzT K H' ls (ds.map (aN ls)) z)->zs.length<=50000->(zs.map (·.2.1)).Nodup->(∀x,x∈zs.map (·.2.1)↔Mm.Rch (rC (ds.map (aN ls)) N) (wC (ds.map (aN ls))) x)->Q (.ref r) H'):sp_f27 K vs H Q E
abbrev FJ (K:W.Frag):TS:=(aF (nM (aa 4) (aa 6) (aR (sp_f31 K) [] E0 (aj (aa 2) (aj (gw (aa 3) (aH (aO K) (aa 6) (tC (V.int 2)))) (aj (aa 6) aA)))))
  (du (oO K "list" qu (aa 5) (aj (oR [none] (cO K (gQ (aa 4) (aa 6))) (au 0) fu (aH (aO K) (aa 0) (tC (V.int 2)))) aA))))
abbrev FN (K:W.Frag):TS:=(aF (aP (Iw K "list" Nf (aa 5)) (au 6))
  (bW (tB (jm (aa 6) (aa 4))) (aF (bW (tB (lR (aH (aO K) (aa 6) (tC (V.int 2))) (aa 3))) (pI (aa 3) (aH (aO K) (aa 6) (tC (V.int 2))) (aR (sp_f11 K) [] E0 (aj (aa 0) (aj (aH (aO K) (aa 6) (tC (V.int 2))) aA)))) bh)
  (FJ K)) bh))
abbrev FP (K:W.Frag):TS:=(aF (aP nJ (au 4))
  (aF (aP (oR [none] (cO K (aR (sp_f40 K) [] E0 (aj (aa 0) (aj (aa 2) aA)))) (au 0) fu (aH (aO K) (aa 0) (tC (V.int 1)))) (au 5))
  (aF (fc (aZ (aH kO (cF (cg K) (aj (aa 5) aA)) (tC (V.int 0)))) (FN K))
  (b7 (aa 4)))))
def wF (K:W.Frag) (E:XK) (Eh:XK):TS:=(aF (aP (aR (sp_f33 K) [] E0 (aj (aa 0) (aj (aa 1) aA))) (au 2))
  (aF (aP vd (au 3))
  (FP K)))
theorem Qq (h:sp_f27 K vs H Q E):∃Eh,wF K E Eh {nx:=λ_ H'=>Q .non H',rt:=Q} (start ["font","house","ways","costs","found","waiting","stand"] vs) H:=by
 let#[f,ha,h,ls,ds,es,rfl,hF,wf,hH,sz,q]:=h;show#[E0,?_];unfold wF;have ae:=rE wf sz;have ct:∀p∈ls,p.2.length<=8:=λp mp=>(wf.c1 p mp).2;let#[ci,b2,b1,dc]:=id sz;have ad:∀ws∈ds.map (aN ls),ws.length<=18:=λws U=>by let#[ps,a2,rfl]:=Zl.mp U;show Û (Ĳ ..) (b1 ps a2).1
 have bi:∀ws∈ds.map (aN ls),∀w∈ws,Fo.lk ls w.1=!w.2.1:=λws U w mw=>by let#[ps,a2,rfl]:=Zl.mp U;let#[p,mp,ep]:=ý.mp (show w∈ps.filterMap _ from mw);let#[M,am,rfl]:=á.mp ep;show am
 symm;show#[f,ha,h,ls,ds,es,rfl,hF,wf,hH,(),λps a2=>by have:=(b1 ps a2).1;rfl',λwa H1 s1 dm hW=>?_];have cc:(ds.map (aN ls)).length=ds.length:=Qb _;generalize ds.map (aN ls)=wss at ae ad hW q cc bi;rw[<-cc]at ae ci b2 dc;symm;intro M bo;symm;intro g bq;have S1:Same H1 (upd (upd H1 M (HO.dT [])) g (bA g [])):=(aB bo _).new bq;have D:upd (upd H1 M (HO.dT [])) g (bA g []) M=!(.dT []):=aD bq ao;have F:upd (upd H1 M (HO.dT [])) g (bA g []) g=!(bA g []):=ao;have be:H1 g=none:=(aB bo _).free bq;generalize upd (upd H1 M (HO.dT [])) g (bA g [])=H2 at S1 D F;symm;show#[f,wa,h,ls,wss,rfl,(hF.same s1).same S1,wf,hW.same S1,ci,(),λws U=>#[by have:=ad ws U;rfl',λw mw=>#[bi ws U w mw,(ae ws U w mw).2]],λfk H3 N s3 dn hN hT=>?_];let#[fz,cj,de,cx]:=hT;have c4:(bF wss N).length<=wss.length:=by
  have c8:∀k,∀r∈bF wss k,0<=r/\r<wss.length:=λk=>dB (P:=λr:Int=>0<=r/\r<wss.length) #[by decide,()] (λp q' hp hq=>by let#[w,mw,rfl]:=Zl.mp hq;show(ae.at mw).2) k;have:=cZ (l:=bF wss N) (m:=(List.range wss.length).map λi:Nat=>(i:Int)) (dY _ _ N) λr mr=>by let#[h0,h1]:=c8 N r mr;show Zl.mpr #[r.toNat,í.mpr (),()]
  rw[Qb,ù]at this;show this
 have da:fz.length<=16200:=by have h1:=m9 ad (bF wss N);rw[<-cj,Qb]at h1;have:=Nat.mul_le_mul_right 324 (Û c4 b2);rfl'
 show Ei (λz:Fz=>V.ref z.1) (zs:=fz) (SqL.of de) () (λz:Fz=>V.ref z.2.1) ?_ λC as=>?_;.rintro i z hi A hA;let#[z1,_]:=cx z (Zs hi);symm;show dW (SqT.of z1) (aX (j:=1) (v:=.ref z.2.1) rfl) hA
 have S3:=(S1.trans s3).new (o:=HO.lst (fz.map λz:Fz=>V.ref z.2.1)) as;have bb:upd H3 C (HO.lst (fz.map λz:Fz=>V.ref z.2.1)) M=!(.dT []):=aD as (s3.get D);have a8:upd H3 C (HO.lst (fz.map λz:Fz=>V.ref z.2.1)) g=!(bA g []):=aD as (s3.get F);have ap:upd H3 C (HO.lst (fz.map λz:Fz=>V.ref z.2.1)) C=!(.lst ((fz.map λz:Fz=>(z.2.1,oF z.2.2.2.2)).map λz:Addr×Sd=>V.ref z.1)):=by rw[ao,Á];rfl
 have ai:∀z∈fz.map λz:Fz=>(z.2.1,oF z.2.2.2.2),StT K (upd H3 C (HO.lst (fz.map λz:Fz=>V.ref z.2.1))) z.1 z.2:=λz s=>by let#[y,my,rfl]:=Zl.mp s;show(cx y my).2.1.same (aB as _)
 have cw:H1 C=none:=(S1.trans s3).free as;generalize upd H3 C (HO.lst (fz.map λz:Fz=>V.ref z.2.1))=H4 at S3 bb a8 ap ai;have bw:(fz.map λz:Fz=>(z.2.1,oF z.2.2.2.2)).map (·.2)=rC wss N:=by rw[Á];unfold rC;rw[<-cj,Á];rfl
 have df:(fz.map λz:Fz=>(z.2.1,oF z.2.2.2.2)).length<=16200:=by rw[Qb];show da
 generalize fz.map (λz:Fz=>(z.2.1,oF z.2.2.2.2))=fs at ap ai bw df;symm;walk_at "ns";have bk:∀p∈[M,g,C],H1 p=none:=λp hp=>by
  simp only[Å,æ,ď]at hp;rcases hp with rfl|rfl|rfl;.show bo
  .show be
  .show cw
 have SH:=s1;show jZ (λm σ H'=>Sb [M,g,C] H1 H'/\∃(zs:List Gz) (fs:List (Addr×Sd)) (cs:List (List Nat×Addr)) (o6:Option V),H' g=!(bA g (cu zs))/\(∀z∈zs,z.2.2≠C/\GzT K H' ls wss z)/\H' C=!(.lst (fs.map λz:Addr×Sd=>V.ref z.1))/\(∀z∈fs,StT K H' z.1 z.2)/\H' M=!(.dT (cs.map λc=>(rQ c.1,V.ref c.2)))/\(∀c∈cs,H' c.2=!(.dK (yL (yK c.1 ls))))/\Mm.Clo (rC wss N) (wC wss) (zs.map (·.2.1)) (fs.map (·.2))/\cs.length<=zs.length/\fs.length<=16200+18*zs.length/\m=(50000-zs.length)*19+fs.length/\σ=[!(.ref f),!(.ref ha),!(.ref wa),!(.ref M),!(.ref g),!(.ref C),o6]) _ #[Sb.of S3,[],fs,[],none,a8,λz m=>(by cases m),ap,ai,bb,λc m=>(by cases m),by rw[bw];show Mm.Clo.start _ _,Ã _,(),rfl,rfl] ?_ ?_
 .rintro m σ H' Nx ⟨sb,zs,fs,cs,o6,a1,ah,J,cf,am,cr,hC,db,ce,rfl,rfl⟩ bn;have S':=sb.off bk;have bp:∀x,Mm.Rch (rC wss N) (wC wss) x->InU wss.length ls x:=λx hx=>Mm.Rch.all (Fy ae N) (Fx ct ae) hx;have c6:zs.length<=50000:=by
   have:=cZ hC.nd λx mx=>(bp x (hC.rF x mx)).mem;rw[Fv,Qb]at this;rfl'
  symm;show fB (SqL.of J) ?_;rw[Qb];symm;show gb (λc1=>?_) λc1=>?_
  .obtain ⟨O,⟨R,st⟩,rfl⟩:∃(O:List (Addr×Sd)) (y:Addr×Sd),fs=O++[y]:=#[fs.dropLast,fs.getLast (λe=>by rw[e]at c1;simp at c1),(List.dropLast_concat_getLast _).symm];rw[Wp]at hC J;rw[À,Õ]at ce bn c1;have cm:=cf _ (Ï _ (Zp.mpr rfl));have c2:∀z∈O,StT K H' z.1 z.2:=λz s=>cf z (Ü _ s);dsimp only at cm;have a9:=bp st (hC.rW st (Ï _ (Zp.mpr rfl)));symm;show dI (SqL.of J) ?_;symm;show s_pop J ?_;symm;have n1:g≠C:=bD a1 J (by intro z;cases z);have n2:M≠C:=bD am J (by intro z;cases z);have n3:M≠g:=bD am a1 (by intro z;cases z);have ar:=sb.set (p:=C) (o:=HO.lst (O.map λz:Addr×Sd=>V.ref z.1)) (by simp);have F:upd H' C (HO.lst (O.map λz:Addr×Sd=>V.ref z.1)) g=!(bA g (cu zs)):=by rw[az n1];show a1
   have D:upd H' C (HO.lst (O.map λz:Addr×Sd=>V.ref z.1)) M=!(.dT (cs.map λc=>(rQ c.1,V.ref c.2))):=by rw[az n2];show am
   have Z:upd H' C (HO.lst (O.map λz:Addr×Sd=>V.ref z.1)) C=!(.lst (O.map λz:Addr×Sd=>V.ref z.1)):=ao;have nt:∀{xs:List V} l,HO.lst xs≠.tup l:=λl z=>by cases z
   have I:∀z∈zs,z.2.2≠C/\GzT K (upd H' C (HO.lst (O.map λz:Addr×Sd=>V.ref z.1))) ls wss z:=λz s=>#[(ah z s).1,(ah z s).2.1.keep J nt,(ah z s).2.2.keep J nt (ah z s).1];have T:StT K (upd H' C (HO.lst (O.map λz:Addr×Sd=>V.ref z.1))) R st:=cm.keep J nt;have X:∀z∈O,StT K (upd H' C (HO.lst (O.map λz:Addr×Sd=>V.ref z.1))) z.1 z.2:=λz s=>(c2 z s).keep J nt;have Y:∀c∈cs,upd H' C (HO.lst (O.map λz:Addr×Sd=>V.ref z.1)) c.2=!(.dK (yL (yK c.1 ls))):=λc mc=>by rw[az (bD (cr c mc) J (by intro z;cases z))];show cr c mc
   generalize upd H' C (HO.lst (O.map λz:Addr×Sd=>V.ref z.1))=H5 at ar F D Z I T X Y⊢;have S5:=ar.off bk;show#[g,_,rfl,SGet.of F (wD λz s=>(I z s).2) T.a,?_];by_cases m:st∈zs.map (·.2.1);.obtain ⟨v,ev⟩:=je m;rw[ev];symm;change if(not true)=true then _ else _;symm;show bn _ _ _ () #[ar,zs,O,cs,_,F,I,Z,X,D,Y,hC.skip m,db,(),rfl,rfl]
   .have ev:=gk m;rw[ev];symm;change if(not false)=true then _ else _;rw[if_pos (show(not false)=true from rfl)];have dk:st.2.2.length<=8:=by let#[_,_,p,mp,d,_,e]:=a9;rw[e,ô];have:=ct p mp;rfl'
    walk_at "ns";with_reducible show nU (λσ H6=>Sb [M,g,C] H1 H6/\∃(cs:List (List Nat×Addr)) (ca:Addr),H6 g=!(bA g (cu zs))/\(∀z∈zs,z.2.2≠C/\GzT K H6 ls wss z)/\H6 C=!(.lst (O.map λz:Addr×Sd=>V.ref z.1))/\(∀z∈O,StT K H6 z.1 z.2)/\StT K H6 R st/\H6 M=!(.dT (cs.map λc=>(rQ c.1,V.ref c.2)))/\(∀c∈cs,H6 c.2=!(.dK (yL (yK c.1 ls))))/\cs.length<=zs.length+1/\(st.2.2,ca)∈cs/\bQ (cs.map λc=>(rQ c.1,V.ref c.2)) (rQ st.2.2)=!(V.ref ca)/\σ=[!(.ref f),!(.ref ha),!(.ref wa),!(.ref M),!(.ref g),!(.ref C),!(.ref R)]) ?_ ?_
    .rintro σ H6 ⟨cb,bg,ca,b4,av,a7,b6,al,B,a3,c0,br,W,rfl⟩;have S6:=cb.off bk;let#[sc,e1,e2]:=id al;let#[#[i1,i2],_,_]:=id a9;let#[r,hr]:∃r:Nat,st.1=(r:Int):=#[st.1.toNat,()];have cy:wss[r]?=!(wss.getD st.1.toNat []):=by rw[hr,Ó,Æ,Zz ()];rfl
     have cn:=Zs cy;have dg:=ad _ cn;symm;show eG e1 ?_;symm;show#[M,.ref ca,rfl,by rw[<-W];show DGet.t (k:=rQ st.2.2) B (by rw[wA];show e2),?_];symm;show#[wa,ca,R,ls,wss,st,_,r,rfl,hW.same S6,a3 _ br,al,hr,cy,bi _ cn,(),λsp H7 s7 b5 b0=>?_];symm;have G:=s7.get b4;have cq:=s7.get a7;have cz:=s7.get B;have bd:=al.same s7;have c3:sp≠C:=λe=>by rw[e,a7]at b5;cases b5
     show#[g,_,rfl,SPut.of G (wD λz s=>(av z s).2.same s7) bd.a (by unfold cu;rw[Qb];rfl'),?_];rw[jb ev];have aw:∀{P:PySem.Heap->Prop} l,HO.ext P≠.tup l:=λl z=>by cases z
     have b9:cu zs++[(R,dG st,V.ref sp)]=cu (zs++[(R,st,sp)]):=by unfold cu;rw[Wp];rfl
     have cv:=(cb.same s7).set (p:=g) (o:=bA g (cu zs++[(R,dG st,V.ref sp)])) (by simp);have ak:upd H7 g (bA g (cu zs++[(R,dG st,V.ref sp)])) g=!(bA g (cu zs++[(R,dG st,V.ref sp)])):=ao;have ag:upd H7 g (bA g (cu zs++[(R,dG st,V.ref sp)])) C=!(.lst (O.map λz:Addr×Sd=>V.ref z.1)):=by rw[az n1.symm];show cq
     have a4:upd H7 g (bA g (cu zs++[(R,dG st,V.ref sp)])) M=!(.dT (bg.map λc=>(rQ c.1,V.ref c.2))):=by rw[az n3];show cz
     have af:StT K (upd H7 g (bA g (cu zs++[(R,dG st,V.ref sp)]))) R st:=bd.keep G aw;have a6:∀z∈O,StT K (upd H7 g (bA g (cu zs++[(R,dG st,V.ref sp)]))) z.1 z.2:=λz s=>((b6 z s).same s7).keep G aw;have a5:∀c∈bg,upd H7 g (bA g (cu zs++[(R,dG st,V.ref sp)])) c.2=!(.dK (yL (yK c.1 ls))):=λc mc=>by have:=s7.get (a3 c mc);rw[az (bD this G (by intro z;cases z))];show this
     have cp:∀{a xs},SsT K H7 a xs->a≠g:=λh=>by let#[us,_,u2,_]:=h;show bD u2 G (by intro z;cases z)
     have L:∀z∈zs++[(R,st,sp)],z.2.2≠C/\GzT K (upd H7 g (bA g (cu zs++[(R,dG st,V.ref sp)]))) ls wss z:=λz s=>by
      rcases Â.mp s with s|s;.have h7:=(av z s).2.same s7;show#[(av z s).1,h7.1.keep G aw,h7.2.keep G aw (cp h7.2)]
      .rw [Zp.mp s];show#[c3,af,b0.keep G aw (cp b0)]
     generalize upd H7 g (bA g (cu zs++[(R,dG st,V.ref sp)]))=H8 at cv ak ag a4 af a6 a5 L⊢;symm;show dI (SqL.of ag) ?_;symm;show#[g,.ref sp,rfl,by rw[<-Aa (b:=R) (v:=V.ref sp) ev];show SGet.of ak (by rw[b9];show wD λz s=>(L z s).2) af.a,?_];symm;let#[us,u1,u2,u3]:=(L _ (Ï _ (Zp.mpr rfl))).2.2;dsimp only at u1 u2;have dp:us.length=(wss.getD st.1.toNat []).length:=by have:=ß List.length u1;rw[Qb,Qb]at this;show this
     let#[ps,ep,b3]:=wB u3;have dq:ps.length=us.length:=by rw[<-ep,Qb]
     show Ei (λp:Uz=>V.ref p.1.1) (zs:=ps) (SqL.of (by rw[u2,<-ep,Á];rfl)) () (λp:Uz=>V.ref p.2) ?_ λnl c5=>?_;.rintro i p hi A hA;symm;show dW (SqT.of (b3 p (Zs hi)).1) (aX (j:=2) (v:=.ref p.2) rfl) hA
     have s9:Same H8 (upd H8 nl (HO.lst (ps.map λp:Uz=>V.ref p.2))):=aB c5 _;have e9:upd H8 nl (HO.lst (ps.map λp:Uz=>V.ref p.2)) nl=!(.lst (ps.map λp:Uz=>V.ref p.2)):=ao;generalize upd H8 nl (HO.lst (ps.map λp:Uz=>V.ref p.2))=H9 at s9 e9⊢;have S:=s9.get ag;symm;show El S e9 (by rw[Qb,Qb];rfl') ?_;symm;have c9:(ps.map λp:Uz=>(p.2,p.1.2.2.2)).map (·.2)=wC wss st:=by
      rw[Á];have:ps.map ((λx:Addr×Sd=>x.2)∘λp:Uz=>(p.2,p.1.2.2.2))=(ps.map (·.1)).map (λu:Addr×Str×Nat×Sd=>u.2.2.2):=by rw[Á];rfl
      rw[this,ep];have:=ß (List.map λx:Str×Nat×Sd=>x.2.2) u1;rw[Á,Á]at this;show this
     show bn ((50000-(zs++[(R,st,sp)]).length)*19+(O++ps.map λp:Uz=>(p.2,p.1.2.2.2)).length) _ _ ?_ #[(cv.same s9).set (by simp),zs++[(R,st,sp)],O++ps.map (λp:Uz=>(p.2,p.1.2.2.2)),bg,_,by rw[az n1,<-b9];show s9.get ak,λz s=>#[(L z s).1,((L z s).2.1.same s9).keep S nt,((L z s).2.2.same s9).keep S nt (L z s).1],by rw[ao,Wp,Á];rfl,λz s=>?_,by rw[az n2];show s9.get a4,λc mc=>by have:=s9.get (a5 c mc);rw[az (bD this S (by intro z;cases z))];show this,?_,by rw[À,Õ];show c0,?_,rfl,rfl]
     .rw [À,Õ,À,Qb];have:zs.length<50000:=by have h1:=cZ (hC.take m).nd λx mx=>(bp x ((hC.take m).rF x mx)).mem;rw[Fv,À,Õ,Qb]at h1;rfl'
      rfl'
     .rcases Â.mp s with s|s;.show ((a6 z s).same s9).keep S nt
      .obtain ⟨p,mp,rfl⟩:=Zl.mp s;show((b3 p mp).2.same s9).keep S nt
     .rw [Wp,Wp,c9];show hC.take m
     .rw [À,Qb,À,Õ];rfl'
    .intro Nj hJ;let#[sc,e1,e2]:=id T;symm;show eG e1 ?_;symm;show#[M,_,rfl,DGet.t (k:=rQ st.2.2) D (by rw[wA];show e2),?_];by_cases mc:st.2.2∈cs.map (·.1);.obtain ⟨ca,br,W⟩:=Ft mc;rw[W];symm;change if(not true)=true then _ else _;symm;show hJ _ _ #[ar,cs,ca,F,I,Z,X,T,D,Y,(),br,W,rfl]
     .have bl:=yM mc;rw[bl];symm;change if(not false)=true then _ else _;symm;show eG e1 ?_;symm;show#[f,sc,h,ls,st.2.2,rfl,((hF.same s1).same S5).t,wf,SqT.of e2,(),λca H6 s6 dl W=>?_];symm;show eG (s6.get e1) ?_;symm;have B:=s6.get D;have ay:∀{xs:List (List Key×V)} l,HO.dT xs≠.tup l:=λl z=>by cases z
      show#[M,_,rfl,DPut.t (k:=rQ st.2.2) B (by rw[wA];show s6.get e2) (Ù (by rw[Qb];rfl':_<=50000) (by decide)),?_];rw[j0 _ bl];symm;show hJ _ _ #[(ar.same s6).set (by simp),cs++[(st.2.2,ca)],ca,by rw[az n3.symm];show s6.get F,λz s=>#[(I z s).1,((I z s).2.1.same s6).keep B ay,((I z s).2.2.same s6).keep B ay ?_],by rw[az n2.symm];show s6.get Z,λz s=>((X z s).same s6).keep B ay,(T.same s6).keep B ay,by rw[ao,Wp];rfl,λc ax=>?_,by rw[À,Õ];rfl',by simp,by rw[Wp];show(pB _ _ _ _ bl).trans (if_pos rfl),rfl];.obtain ⟨us,_,u2,_⟩:=(I z s).2.2;show bD (s6.get u2) B (by intro z;cases z)
      .rcases Â.mp ax with ax|ax;.have:=s6.get (Y c ax);rw[az (bD this B (by intro z;cases z))];show this
       .rw [Zp.mp ax];rw[az (bD W B (by intro z;cases z))];show W
  .have e0:fs=[]:=Ð ();subst e0;symm;show q g H' N zs (s1.trans S') (s1.free be) hN a1 (λz s=>(ah z s).2) c6 hC.nd hC.fin
 .rintro σ H Q Q' hq ⟨v,hv,x,n,e,hl,i,j,e1,e2,k,e3,z⟩;show#[v,hv,x,n,e,hl,i,j,e1,e2,k,e3,hq _ _ z]
abbrev ux (st:Sd->List (Str×Nat×Sd)) (xs:List Sd) (c:Nat) (x y:Sd):Prop:=x∈xs/\∃s,(s,c,y)∈st x
abbrev uJ (ls:List (Str×List Nat)) (wss:List (List (Str×List Nat×Int))) (x:Sd):List (Str×Nat×Sd):=(wss.getD x.1.toNat []).map (qZ ls x)
abbrev Bq:=Addr×Nat×Addr×Sd
variable{u:Bq} {U:Addr->List Bq}
def BqT (K:W.Frag) (H:Hp) (b:Bq):Prop:=H b.1=!(.tup [.int (b.2.1:Nat),.ref b.2.2.1])/\StT K H b.2.2.1 b.2.2.2
theorem di {a b:Type} {f:a->b}:∀{l:List a} {x y:a},(l.map f).Nodup->x∈l->y∈l->f x=f y->x=y
 |z::l,x,y,h,mx,my,e=>by
  rw[Ä,Ĉ]at h;rcases Å.mp mx with ex|mx<;>rcases Å.mp my with ey|my;.rw [ex,ey]
  .show absurd (Zl.mpr #[y,my,by rw[<-e,ex]]) h.1
  .show absurd (Zl.mpr #[x,mx,by rw[e,ey]]) h.1
  .show di h.2 mx my e
theorem fC {ps:List Addr} {H1:Hp} {o:HO} (s:Sb ps H H1) (h:p∈ps\/H p=none):Sb ps H (upd H1 p o):=λb u a e=>by
 rw[az (λz=>by
  rcases h with h|h;.show a (z▸h)
  .rw [z,h]at e;cases e)];show s b u a e
structure BkC (K:W.Frag) (H H':Hp) (ba:Addr) (gz bz:List Gz) (U:Addr->List Bq) (P:Nat->Sd->Sd->Prop) (m:Nat):Prop where
 d:H' ba=!(bA ba (cu bz))
 k:bz.map (λb=>(b.1,b.2.1))=gz.map (λz=>(z.1,z.2.1))n:(bz.map (·.2.2)).Nodup
 f:∀b∈bz,H b.2.2=none/\b.2.2≠ba
 c:∀b∈bz,H' b.2.2=!(.lst ((U b.2.2).map λu=>V.ref u.1))/\(∀u∈U b.2.2,BqT K H' u)/\∀c x,(c,x)∈(U b.2.2).map (λu=>(u.2.1,u.2.2.2))↔P c x b.2.1
 s:(bz.map λb=>(U b.2.2).length).sum<=m
theorem BqT.same {K:W.Frag} (h:BqT K H u) (s:Same H H'):BqT K H' u:=#[s.get h.1,h.2.same s]
theorem BqT.keep {K:W.Frag} {o b:HO} (h:BqT K H u) (e:H p=!o) (a:∀l,o≠.tup l):BqT K (upd H p b) u:=#[by rw[az (λz=>by have:=h.1;rw[z,e]at this;show a _ (Ô this))];show h.1,h.2.keep e a]
theorem BkC.same {K:W.Frag} {H1 H2:Hp} {P:Nat->Sd->Sd->Prop} (h:BkC K H H1 ba gz bz U P m) (s:Same H1 H2):BkC K H H2 ba gz bz U P m:=⟨s.get h.d,h.k,h.n,h.f,λb g=>by let#[a,i,j]:=h.c b g;show⟨s.get a,λu e=>(i u e).same s,j⟩,h.s⟩
theorem BkC.imp {K:W.Frag} {H1:Hp} {P:Nat->Sd->Sd->Prop} {a:Nat} (h:BkC K H H1 ba gz bz U P m) (j:∀c x,∀b∈bz,P c x b.2.1↔P' c x b.2.1) (g:m<=a):BkC K H H1 ba gz bz U P' a:=⟨h.d,h.k,h.n,h.f,λb e=>by let#[i,l,o]:=h.c b e;show⟨i,l,λc x=>(o c x).trans (j c x b e)⟩,Û h.s g⟩
theorem FQ {a:Type} {f:a->Nat}:∀{l:List a} {x:a},x∈l->f x<=(l.map f).sum
 |z::l,x,m=>by
  rw[Ä,Ť];rcases Å.mp m with e|m;.rw [e];rfl'
  .have:=FQ (f:=f) m;rfl'
theorem yN {c:Type} {U:Addr->List c} {u:c} {a:Addr}:∀{bz:List Gz},(bz.map (·.2.2)).Nodup->(bz.map λb=>(if b.2.2=a then U b.2.2++[u]else U b.2.2).length).sum<=(bz.map λb=>(U b.2.2).length).sum+1/\(a∉bz.map (·.2.2)->(bz.map λb=>(if b.2.2=a then U b.2.2++[u]else U b.2.2).length).sum=(bz.map λb=>(U b.2.2).length).sum)
 |[],_=>#[by simp,λ_=>rfl]
 |v::bz,h=>by
  rw[Ä,Ĉ]at h;let#[f,d]:=yN (U:=U) (u:=u) (a:=a) h.2;simp only[Ä,Ť];by_cases e:v.2.2=a;.have:=d (by rw[<-e];show h.1);rw[if_pos e,À,Õ];show#[(),λn=>absurd (Å.mpr (.inl e.symm)) n]
  .rw [if_neg e];show#[(),λn=>by rw[d (λm=>n (Í _ m))]]
theorem BkC.add {K:W.Frag} {H1:Hp} {P:Nat->Sd->Sd->Prop} (h:BkC K H H1 ba gz bz U P m) (E:(bz.map (·.2.1)).Nodup) {b:Gz} (i:b∈bz) (C:BqT K H1 u):BkC K H (upd H1 b.2.2 (.lst (((U b.2.2).map λu=>V.ref u.1)++[V.ref u.1]))) ba gz bz (λa=>if a=b.2.2 then U a++[u]else U a) (λc x y=>P c x y\/(c=u.2.1/\x=u.2.2.2/\y=b.2.1)) (m+1):=by
 let#[j,p,r]:=h.c b i;show#[by rw[az (Ne.symm (h.f b i).2)];show h.d,h.k,h.n,h.f,λv mv=>?_,Û (yN h.n).1 (ζ h.s 1)];by_cases e:v=b
 .subst e;rw[if_pos rfl];show#[by rw[ao,Wp];rfl,λw g=>?_,λc x=>?_]
  .rcases Â.mp g with g|g;.show (p w g).keep j (λl q=>by cases q)
   .rw [Zp.mp g];show C.keep j (λl q=>by cases q)
  .rw [Wp,Â,r];constructor
   .rintro (h|h);.show .inl h
    .rw [Ä,û,Zp]at h;show .inr #[congrArg Prod.fst h,ß Prod.snd h,rfl]
   .rintro (h|⟨A,B,_⟩);.show .inl h
    .show .inr (by rw[A,B];simp)
 .obtain ⟨t,D,F⟩:=h.c v mv;have o:v.2.2≠b.2.2:=λz=>e (di h.n mv i z);rw[if_neg o];show#[by rw[az o];show t,λw g=>(D w g).keep j (λl q=>by cases q),λc x=>?_];rw[F];show#[.inl,λh=>h.elim id λh=>absurd (di E mv i h.2.2) e]
theorem BkC.key {K:W.Frag} {H1:Hp} {P:Nat->Sd->Sd->Prop} (h:BkC K H H1 ba gz bz U P m) {b:Gz} (d:b∈bz):∃y∈gz,y.1=b.1/\y.2.1=b.2.1:=by
 have:(b.1,b.2.1)∈gz.map (λz=>(z.1,z.2.1)):=by rw[<-h.k];show Zl.mpr #[b,d,rfl]
 let#[y,c,a]:=Zl.mp this;show#[y,c,(Ś a).1,(Ś a).2]
theorem BkC.sb {K:W.Frag} {H1 H2:Hp} {o:Addr} {P:Nat->Sd->Sd->Prop} {j:PySem.Obj} {x:HO} (h:BkC K H H1 ba gz bz U P m) (s:Sb [o] H1 H2) (e:H1 o=!(.frz j x)):BkC K H H2 ba gz bz U P m:=by
 have g:∀{a:Addr} {u:HO},(∀j x,u≠.frz j x)->H1 a=!u->H2 a=!u:=λw i=>s.get (λm=>by rw[Zp.mp m,e]at i;show w _ _ (Ô i).symm) i
 show#[g (λ_ _ z=>by cases z) h.d,h.k,h.n,h.f,λb v=>?_,h.s];let#[t,p,q]:=h.c b v;show#[g (λ_ _ z=>by cases z) t,λu l=>?_,q];let#[r,c,y,A]:=p u l;show#[g (λ_ _ z=>by cases z) r,c,g (λ_ _ z=>by cases z) y,g (λ_ _ z=>by cases z) A]
theorem rG {zs:List Gz} {z:Addr×Sk×V} (h:(cu zs)[i]?=!z):∃g,zs[i]?=!g/\z=(g.1,dG g.2.1,V.ref g.2.2):=by
 unfold cu at h;rw[Xs]at h
 cases e:zs[i]?with
 |none=>rw[e]at h;cases h|some g=>rw[e]at h;show#[g,rfl,(Ô h).symm]
theorem Vh {zs:List Gz} {y z:Gz} (h:(zs.map (·.2.1)).Nodup) (hi:zs[i]?=!y) (f:zs[j]?=!z) (e:y.2.1=z.2.1):i=j:=by
 let#[d,c]:=É.mp hi;let#[b,a]:=É.mp f;have:=(List.nodup_iff_pairwise_ne.mp h);rcases Nat.lt_trichotomy i j with l|l|l;.show absurd (by rw[İ,İ,c,a];show e) (Ň.mp h i j (by rw[Qb];show d) (by rw[Qb];show b) l)
 .show l
 .show absurd (by rw[İ,İ,c,a];show e.symm) (Ň.mp h j i (by rw[Qb];show b) (by rw[Qb];show d) l)
theorem fQ {zs:List Gz} {z:Gz} (f:(zs.map (·.2.1)).Nodup) (d:z∈zs):cR (cu zs) (dG z.2.1)=!(V.ref z.2.2):=by let#[v,c]:=je (Zl.mpr #[z,d,rfl]);let#[b,e]:=qb c;let#[y,g,a]:=Zl.mp e;have h:y=z:=di f g d (rA (ß (λp:Addr×Sk×V=>p.2.1) a));subst h;rw[c];show ß some (ß (λp:Addr×Sk×V=>p.2.2) a).symm
inductive sp_f22 (K:W.Frag) (vs:List V) (H:Hp) (Q:VK) (E:XK):Prop|mk (oa:Addr) (gz:List Gz) (st:Sd->List (Str×Nat×Sd)) (h0:vs=[.ref oa]) (h1:Rd H oa (bA oa (cu gz))) (h2:(∀z∈gz,StT K H z.1 z.2.1/\SsT K H z.2.2 (st z.2.1)/\(st z.2.1).length<=18)) (h3:(gz.map (·.2.1)).Nodup) (h4:gz.length<=50000) (h5:(∀z∈gz,∀e∈st z.2.1,e.2.2∈gz.map (·.2.1))) (h6:∀od ba H' (bz:List Gz) (U:Addr->List Bq),Sb [oa] H H'->H' oa=!(.frz od (bA oa (cu gz)))->H ba=none->BkC K H H' ba gz bz U (ux st (gz.map (·.2.1))) 900000->Q (.ref ba) H'):sp_f22 K vs H Q E
abbrev FT (K:W.Frag):TS:=(aF (d9 (qO (aa 0)) (gZ K 2 (bC (au 2) (bC (au 3) iQ))) (d9 (cO K (aa 3)) (gZ K 3 (bC (au 4) (bC (au 5) (bC (au 6) iQ)))) (du (oO K "list" cA (gQ (aa 1) (aa 6)) (aj (bZ (aj (aa 5) (aj (aa 2) aA))) aA)))))
  (b7 (aa 1)))
def wG (K:W.Frag) (E:XK) (Eh:XK):TS:=(aF (aP nJ (au 1))
  (aF (d9 (nO (aa 0)) (au 2) (nM (aa 1) (aa 2) (gG aA)))
  (FT K)))
theorem Qs (h:sp_f22 K vs H Q E):∃Eh,wG K E Eh {nx:=λ_ H'=>Q .non H',rt:=Q} (start ["onward","backward","stand","steps","sign","cost","later"] vs) H:=by
 let#[v,A,st,rfl,hO,hG,hN,hL,hC,q]:=h;show#[E0,?_];unfold wG;symm;intro G Z;symm;have S0:Same H (upd H G (bA G [])):=aB Z _;have be:Rd (upd H G (bA G [])) v (bA v (cu A)):=by
  rcases hO with e|⟨F,e⟩;.show .inl (S0.get e)
  .show .inr #[F,S0.get e]
 have a6:v≠G:=λz=>by rcases hO with e|⟨F,e⟩<;>(rw[z,Z]at e;cases e)
 have ah:∀{H':Hp},Sb [v] H H'->∀{a:Addr} {l:List V},H a=!(.tup l)->H' a=!(.tup l):=λsb a l e=>sb.get (λm=>by rw[Zp.mp m]at e;rcases hO with g|⟨F,g⟩<;>(rw[g]at e;cases e)) e;have T:∀{H':Hp},Sb [v] H H'->∀{a:Addr} {x:Sd},StT K H a x->StT K H' a x:=λsb a x h=>by let#[c,N,e2]:=h;show#[c,ah sb N,ah sb e2]
 have am:∀{H':Hp} {o:HO},Sb [v] H H'->H' v=!o->∀{p:Addr},H' p=none->H p=none:=λ{H' o} sb eo {p} M=>by cases e:H p with
  |none=>rfl|some u=>
   by_cases z:p=v;.rw [z,eo]at M;cases M
   .rw [sb.get (by simpa using z) e]at M;cases M
 show Ey be (λF i J H'=>∃D:List Gz,BkC K H H' G (A.take i) D (λ_=>[]) (λ_ _ _=>False) 0/\Sb [v] H H'/\H' v=!(.frz F (bA v (cu A)))/\∃S O R o4 o5,J=[!(.ref v),!(.ref G),S,O,R,o4,o5]) ?_ ?_ ?_ ?_;.intro F H1 sb N;show#[[],#[?_,rfl,by simp,by simp,by simp,by simp],λb o nb e=>sb b o nb (S0.get e),N,_,_,_,_,_,rfl];show sb.get (by simpa using Ne.symm a6) ao
 .rintro F i J H' ⟨D,_,_,e,_⟩;show e
 .rintro F i z J H' hi ⟨D,C,sb,eo,S,O,R,o4,o5,rfl⟩;let#[g,hg,rfl]:=rG hi;have mg:=Zs hg;symm;intro p M;symm;have ad:=am sb eo M;have W:Same H' (upd H' p (.lst [])):=aB M _;have bl:i<A.length:=(É.mp hg).1;have bn:D.length<=50000:=by have:=ß List.length C.k;rw[Qb,Qb,Ñ]at this;rfl'
  have al:∀b∈D,StT K H b.1 b.2.1:=λb t=>by let#[y,my,ey]:=C.key t;have:=(hG y (Ē my)).1;rw[ey.1,ey.2]at this;show this
  have ev:cR (cu D) (dG g.2.1)=none:=gk λm=>by
   let#[b,t,eb]:=Zl.mp m;let#[y,my,ey]:=C.key t;let#[n,hn,a9]:=List.mem_take_iff_getElem.mp my;have h1:A[n]?=!y:=by rw[Zz (),a9]
   have:=Vh hN h1 hg (ey.2.trans eb);rfl'
  show#[G,_,rfl,SPut.of (W.get C.d) (λq mq=>?_) ((T sb (hG g mg).1).same W).a (by unfold cu;rw[Qb];rfl'),?_];.obtain ⟨b,t,rfl⟩:=Zl.mp mq;show((T sb (al b t)).same W).a
  rw[jb ev];have ar:p≠G:=λz=>by rw[z,C.d]at M;cases M
  have bd:cu D++[(g.1,dG g.2.1,V.ref p)]=cu (D++[(g.1,g.2.1,p)]):=by unfold cu;rw[Wp];rfl
  have ap:A.take (i+1)=A.take i++[g]:=by rw[Ø,hg];rfl
  have bi:∀{P:PySem.Heap->Prop} l,HO.ext P≠.tup l:=λl z=>by cases z
  symm;show#[D++[(g.1,g.2.1,p)],#[by rw[ao,bd],?_,?_,λb t=>?_,λb t=>?_,by rw[Wp,List.sum_append];show Û (ζ C.s _) (by simp)],fC (fC sb (.inr ad)) (.inr Z),by rw[az a6];show W.get eo,_,_,_,_,_,rfl];.rw [ap,Wp,Wp,C.k];rfl
  .rw [Wp,ð];show#[C.n,by simp,λa ma c mc e=>?_];let#[b,t,rfl]:=Zl.mp ma;let#[N,_]:=C.c b t;rw[Ä,û,Zp]at mc;rw[e,mc,M]at N;cases N
  .rcases Â.mp t with t|t;.show C.f b t
   .rw [Zp.mp t];show#[ad,ar]
  .rcases Â.mp t with t|t;.obtain ⟨N,e2,e3⟩:=C.c b t;show#[by rw[az (C.f b t).2];show W.get N,λu mu=>((e2 u mu).same W).keep (W.get C.d) bi,e3]
   .rw [Zp.mp t];show#[by rw[az ar,ao];rfl,λu mu=>(by cases mu),λc x=>by simp]
 .rintro F J H' ⟨D,C,sb,eo,S,O,R,o4,o5,rfl⟩;symm;have ag:A.take (cu A).length=A:=by unfold cu;rw[Qb];show ä
  rw[ag]at C;have hk:=C.k;have aw:(D.map (·.2.1)).Nodup:=by have:=ß (List.map Prod.snd) hk;rw[Á,Á]at this;rw[show D.map (·.2.1)=A.map (·.2.1)from this];show hN
  have al:∀b∈D,StT K H b.1 b.2.1:=λb t=>by let#[y,my,ey]:=C.key t;have:=(hG y my).1;rw[ey.1,ey.2]at this;show this
  show Qg (.inr #[F,eo]) (λF i J H'=>∃U,BkC K H H' G A D U (ux st ((A.take i).map (·.2.1))) (18*i)/\Sb [v] H H'/\H' v=!(.frz F (bA v (cu A)))/\∃S O R o4 o5,J=[!(.ref v),!(.ref G),S,O,R,o4,o5]) ?_ ?_ ?_ ?_;.intro Y H1 I N;show#[_,(C.sb I eo).imp (λc x b t=>by simp) (Ã _),λb o nb e=>I b o nb (sb b o nb e),N,_,_,_,_,_,rfl]
  .rintro F i J H' ⟨_,_,_,e,_⟩;show e
  .rintro Y i z p J H1 hi ⟨U,af,I,X,S,O,R,o4,o5,rfl⟩ M;let#[g,hg,rfl]:=rG hi;have mg:=Zs hg;have ad:=am I X M;have W:Same H1 (upd H1 p (.tup [.ref g.1,.ref g.2.2])):=aB M _;have ax:=af.same W;have ai:Sb [v] H (upd H1 p (.tup [.ref g.1,.ref g.2.2])):=fC I (.inr ad);have a3:=W.get X;show dh (SqT.of ao) rfl ?_;symm;let#[us,u1,u2,u3]:=(hG g mg).2.1;let#[ps,ep,a8]:=wB u3;have ak:ps.map (λp:Uz=>p.1.2)=st g.2.1:=by rw[<-u1,<-ep,Á];rfl
   have bo:ps.length<=18:=by have:=ß List.length ak;rw[Qb]at this;have:=(hG g mg).2.2;rfl'
   have bb:g.2.2≠v:=λz=>by rw[z]at u2;rcases hO with e|⟨F,e⟩<;>(rw[e]at u2;cases u2)
   have av:∀{H':Hp},Sb [v] H H'->SqL K H' g.2.2 (ps.map λp:Uz=>V.ref p.1.1):=λsb=>SqL.of (by rw[sb.get (by simpa using bb) u2,<-ep,Á];rfl);generalize upd H1 p (.tup [.ref g.1,.ref g.2.2])=H2 at ax ai a3⊢;have ap:A.take (i+1)=A.take i++[g]:=by rw[Ø,hg];rfl
   show gD (λp:Uz=>V.ref p.1.1) (zs:=ps) (av ai) (λj J H'=>∃U,BkC K H H' G A D U (λc x y=>(x∈(A.take i).map (·.2.1)/\∃s,(s,c,y)∈st x)\/(x=g.2.1/\∃s,(s,c,y)∈(ps.take j).map (λp:Uz=>p.1.2))) (18*i+j)/\Sb [v] H H'/\H' v=!(.frz Y (bA v (cu A)))/\∃S O R,J=[!(.ref v),!(.ref G),!(.ref g.1),!(.ref g.2.2),S,O,R])
    #[_,ax.imp (λc x b t=>by simp) (Ã _),ai,a3,_,_,_,rfl] ?_ ?_ ?_;.rintro j J H3 ⟨_,_,B,_⟩;show av B
   .rintro j u J H3 hj ⟨U,L,B,ae,S,O,R,rfl⟩;let#[p1,p2]:=a8 u (Zs hj);show dh (SqT.of (ah B p1)) rfl ?_;symm;have bp:j<ps.length:=(É.mp hj).1;have bl:i<A.length:=(É.mp hg).1;have mu:u.1.2∈st g.2.1:=by rw[<-ak];show Zl.mpr #[u,Zs hj,rfl]
    let#[b,t,eb]:∃b∈D,b.2.1=u.1.2.2.2:=by have hm:=hC g mg _ mu;have:=ß (List.map Prod.snd) hk;rw[Á,Á]at this;rw[<-show D.map (·.2.1)=A.map (·.2.1)from this]at hm;let#[b,t,eb]:=Zl.mp hm;show#[b,t,eb]
    show⟨G,.ref b.2.2,rfl,by rw[<-fQ aw t,eb];show SGet.of L.d (λq mq=>by let#[b',as,rfl]:=Zl.mp mq;show(T B (al b' as)).a) (T B p2).a,?_⟩;let#[v1,v2,v3]:=L.c b t;have v4:=Û (FQ (f:=λb:Gz=>(U b.2.2).length) t) L.s;show dI (SqL.of v1) ?_;symm;intro r hr;have bk:=am B ae hr;have S4:Same H3 (upd H3 r (.tup [.int (u.1.2.2.1:Nat),.ref g.1])):=aB hr _;have ay:=L.same S4;have a4:BqT K (upd H3 r (.tup [.int (u.1.2.2.1:Nat),.ref g.1])) (r,u.1.2.2.1,g.1,g.2.1):=#[ao,(T B (hG g mg).1).same S4];have a5:=S4.get v1;have a1:Sb [v] H (upd H3 r (.tup [.int (u.1.2.2.1:Nat),.ref g.1])):=fC B (.inr bk);have a2:=S4.get ae;generalize upd H3 r (.tup [.int (u.1.2.2.1:Nat),.ref g.1])=H4 at ay a4 a5 a1 a2⊢;symm;show fH a5 (by rw[Qb];rfl') ?_;symm;have a7:v≠b.2.2:=λz=>by have:=(C.f b t).1;rw[<-z]at this;rcases hO with e|⟨F,e⟩<;>(rw[this]at e;cases e)
    have bg:ps.take (j+1)=ps.take j++[u]:=by rw[Ø,hj];rfl
    show#[_,(ay.add aw t a4).imp (λc x b' as=>?_) (),fC a1 (.inr (C.f b t).1),by rw[az a7];show a2,_,_,_,rfl];rw[bg,Wp,or_assoc];show or_congr χ ?_;simp only[Â,Ä,û,Zp];constructor
    .rintro (⟨h1,s,h2⟩|⟨h1,h2,h3⟩);.show #[h1,s,.inl h2]
     .show #[h2,u.1.2.1,.inr (by rw[h1,h3,eb])]
    .rintro ⟨h1,s,h2|h2⟩;.show .inl #[h1,s,h2]
     .have N:=ß (λw:Str×Nat×Sd=>w.2.1) h2;have e2:=ß (λw:Str×Nat×Sd=>w.2.2) h2;show .inr #[N,h1,e2.trans eb.symm]
   .rintro J H3 ⟨U,L,B,ae,S,O,R,rfl⟩;symm;show#[U,L.imp (λc x b t=>?_) (),B,ae,_,_,_,_,_,rfl];change _↔(x∈(A.take (i+1)).map (·.2.1)/\∃s,(s,c,b.2.1)∈st x);rw[ä,ak,ap,Wp,Â,Ä,û,Zp,or_and_right];show or_congr χ #[λh=>#[h.1,by rw[h.1];show h.2],λh=>#[h.1,by rw[<-h.1];show h.2]]
  .rintro Y J H1 ⟨U,af,I,X,S,O,R,o4,o5,rfl⟩;symm;rw[ag]at af;show q Y G H1 D U I X Z (af.imp (λ_ _ _ _=>χ) (by unfold cu;rw[Qb];rfl'))
noncomputable def jf (es:List Int) (st:Sd):Bool:=decide (st.2.2.length=0)&&(decide (st.1∈es)&&decide (st.2.1∈es))
inductive sp_f36 (K:W.Frag) (vs:List V) (H:Hp) (Q:VK) (E:XK):Prop|mk (sa ea:Addr) (st:Sd) (es:List Int) (h0:vs=[.ref sa,.ref ea]) (h1:StT K H sa st) (h2:SqT K H ea (es.map V.int)) (h3:Q (.bl (jf es st)) H):sp_f36 K vs H Q E
def wH (K:W.Frag) (E:XK) (Eh:XK):TS:=(b7 (iU (aH oH (cF (cg K) (aj (aH (aO K) (aa 0) (tC (V.int 2))) aA)) (tC (V.int 0))) (iU (aH (xX K false) (aH (aO K) (aa 0) (tC (V.int 0))) (aa 1)) (aH (xX K false) (aH (aO K) (aa 0) (tC (V.int 1))) (aa 1)))))
theorem Qt (h:sp_f36 K vs H Q E):∃f,wH K E f {nx:=λ_ H'=>Q .non H',rt:=Q} (start ["stand","ends"] vs) H:=by
 let#[j,i,st,es,rfl,#[c,d,g],e,q]:=h;show#[E0,?_];unfold wH;symm;show eG d ?_;symm;show bL (SqT.of g) ?_;rw[show(nv st.2.2).length=st.2.2.length from Qb _];symm;by_cases b:st.2.2.length=0
 .show uh () ?_;symm;show cM d ?_;symm;show Eo (.inr e) rfl (gf _) ?_;rw[iC];by_cases a:st.1∈es
  .rw [Ö a];symm;show bV d ?_;symm;show Eo (.inr e) rfl (gf _) ?_;rw[iC];have:jf es st=decide (st.2.1∈es):=by unfold jf;rw[Ö b,Ö a];rfl
   rw[<-this];show q
  .rw [È a];symm;have:jf es st=false:=by unfold jf;rw[Ö b,È a];rfl
   rw[<-this];show q
 .show q9 () ?_;have:jf es st=false:=by unfold jf;rw[È b];rfl
  rw[<-this];show q
abbrev Qz:=(Nat×Nat)×Addr×List (Addr×Sd)
noncomputable def iM (k:Nat×Nat):List Key:=[Sum.inl (k.1:Int),Sum.inl (k.2:Int)]
theorem rH {l:Nat×Nat} (h:iM k=iM l):k=l:=by
 let#[a,b]:=k;let#[c,d]:=l;unfold iM at h;injection h with h1 h2;injection h2 with h3 _;injection h1 with h1;injection h3 with h3;dsimp only at h1 h3;rw[show a=c by rfl',show b=d by rfl']
noncomputable def lD (ws:List Qz):List (List Key×V):=ws.map λw=>(iM w.1,V.ref w.2.1)
structure WtT (K:W.Frag) (H:Hp) (wa:Addr) (ws:List Qz):Prop where
 d:H wa=!(.dT (lD ws))l:∀w∈ws,H w.2.1=!(.lst (w.2.2.map λz=>V.ref z.1))n:(ws.map (·.2.1)).Nodup
 k:(ws.map (·.1)).Nodup
 s:∀w∈ws,∀z∈w.2.2,StT K H z.1 z.2
def Wait (ws:List Qz) (k:Nat×Nat) (x:Sd):Prop:=∃w∈ws,w.1=k/\x∈w.2.2.map (·.2)
noncomputable def uy (ws:List Qz) (k:Nat×Nat) (z:Addr×Sd):List Qz:=ws.map λw=>if w.1=k then(w.1,w.2.1,w.2.2++[z])else w
theorem Qu (a:List Qz) (k:Nat×Nat) (z:Addr×Sd):lD (uy a k z)=lD a:=by
 unfold lD uy;rw[Á];show ħ λw _=>?_;change(iM (if w.1=k then(w.1,w.2.1,w.2.2++[z])else w).1,V.ref (if w.1=k then(w.1,w.2.1,w.2.2++[z])else w).2.1)=_;split<;>rfl
theorem lE (a:List Qz) (k:Nat×Nat) (z:Addr×Sd):(uy a k z).map (·.1)=a.map (·.1)/\(uy a k z).map (·.2.1)=a.map (·.2.1):=by unfold uy;rw[Á,Á];show#[List.map_congr_left λw _=>by change(if w.1=k then(w.1,w.2.1,w.2.2++[z])else w).1=_;split<;>rfl,ħ λw _=>by change(if w.1=k then(w.1,w.2.1,w.2.2++[z])else w).2.1=_;split<;>rfl]
theorem Ad {c:List Qz} {z:Addr×Sd} (h:k∈c.map (·.1)) (l:Nat×Nat) (x:Sd):Wait (uy c k z) l x↔Wait c l x\/(l=k/\x=z.2):=by
 constructor
 .rintro ⟨w,b,rfl,a⟩;let#[v,mv,rfl]:=Zl.mp b;by_cases e:v.1=k
  .rw [if_pos e]at a⊢;rw[Wp,Â]at a;rcases a with a|a;.show .inl #[v,mv,rfl,a]
   .show .inr #[e,by simpa using a]
  .rw [if_neg e]at a⊢;show .inl #[v,mv,rfl,a]
 .rintro (⟨w,b,rfl,a⟩|⟨rfl,rfl⟩)
  .show #[_,Zl.mpr #[w,b,rfl],?_,?_];.split<;>rfl
   .split;.rw [Wp,Â];show .inl a
    .show a
  .obtain ⟨w,b,rfl⟩:=Zl.mp h;show#[_,Zl.mpr #[w,b,rfl],by rw[if_pos rfl],by rw[if_pos rfl,Wp];simp]
theorem mj {k:Nat×Nat}:∀{a:List Qz} {w:Qz},(a.map (·.1)).Nodup->w∈a->w.1=k->bQ (lD a) (iM k)=!(V.ref w.2.1)
 |v::a,w,hn,m,e=>by
  rw[Ä,Ĉ]at hn;change bQ ((iM v.1,V.ref v.2.1)::lD a) (iM k)=_;by_cases h:v.1=k
  .rcases Å.mp m with rfl|m;.rw [h];simp[bQ]
   .show absurd (Zl.mpr #[w,m,e.trans h.symm]) hn.1
  .rcases Å.mp m with rfl|m;.show absurd e h
   .have:=mj hn.2 m e;rw[<-this];have b:iM v.1≠iM k:=λz=>h (rH z);simp[bQ,b]
theorem uz {k:Nat×Nat}:∀{a:List Qz},k∉a.map (·.1)->bQ (lD a) (iM k)=none
 |[],_=>rfl|v::a,h=>by
  rw[Ä,Å,not_or]at h;change bQ ((iM v.1,V.ref v.2.1)::lD a) (iM k)=_;have:=uz h.2;rw[<-this];have b:iM v.1≠iM k:=λz=>h.1 (rH z).symm;simp[bQ,b]
inductive sp_f30 (K:W.Frag) (vs:List V) (H:Hp) (Q:VK) (E:XK):Prop|mk (wa ra ba:Addr) (ws:List Qz) (r:Nat×Nat) (bs:List Bq) (h0:vs=[.ref wa,.ref ra,.ref ba]) (h1:WtT K H wa ws) (h2:H ra=!(.tup [.int (r.1:Nat),.int (r.2:Nat)])) (h3:H ba=!(.lst (bs.map λb=>V.ref b.1))) (h4:ba∉ws.map (·.2.1)) (h5:(∀b∈bs,BqT K H b)) (h6:ws.length+bs.length<=1000000) (h7:(∀w∈ws,w.2.2.length+bs.length<=1000000)) (h8:∀H' (ws':List Qz),WtT K H' wa ws'->Sb (wa::ws.map (·.2.1)) H H'->(∀w∈ws',w.2.1∈ws.map (·.2.1)\/H w.2.1=none)->(∀l x,Wait ws' l x↔Wait ws l x\/∃b∈bs,l=(r.1+b.2.1,r.2+1)/\x=b.2.2.2)->ws'.length<=ws.length+bs.length->(∀m,(∀w∈ws,w.2.2.length<=m)->∀w∈ws',w.2.2.length<=m+bs.length)->Q .non H'):sp_f30 K vs H Q E
def wI (K:W.Frag) (E:XK) (Eh:XK):TS:=(d9 (cO K (aa 2)) (gZ K 2 (bC (au 3) (bC (au 4) iQ))) (du (oO K "list" cA (DX (aa 0) (bZ (aj (aH cD (aH (aO K) (aa 1) (tC (V.int 0))) (aa 3)) (aj (aH cD (aH (aO K) (aa 1) (tC (V.int 1))) (tC (V.int 1))) aA))) (gG aA)) (aj (aa 4) aA))))
theorem Qv (h:sp_f30 K vs H Q E):∃Eh,wI K E Eh {nx:=λ_ H'=>Q .non H',rt:=Q} (start ["waiting","rest","backs","cost","earlier"] vs) H:=by
 let#[B,ra,ba,C,r,bs,rfl,hw,hr,hb,nb,hB,ai,af,q]:=h;show#[E0,?_];unfold wI;symm;have tk:∀{H':Hp},Sb (B::C.map (·.2.1)) H H'->∀{a:Addr} {l:List V},H a=!(.tup l)->H' a=!(.tup l):=λsb a l e=>sb.get (λm=>by
  rcases Å.mp m with rfl|m;.rw [hw.d]at e;cases e
  .obtain ⟨w,j,rfl⟩:=Zl.mp m;rw[hw.l w j]at e;cases e) e;have ah:ba≠B:=λz=>by rw[z,hw.d]at hb;cases hb
 have I:∀{H':Hp},Sb (B::C.map (·.2.1)) H H'->H' ba=!(.lst (bs.map λb=>V.ref b.1)):=λsb=>sb.get (λm=>(Å.mp m).elim ah nb) hb;show gD (λb:Bq=>V.ref b.1) (zs:=bs) (SqL.of hb) (λi σ H'=>∃g:List Qz,WtT K H' B g/\Sb (B::C.map (·.2.1)) H H'/\(∀w∈g,w.2.1∈C.map (·.2.1)\/H w.2.1=none)/\(∀l x,Wait g l x↔Wait C l x\/∃b∈bs.take i,l=(r.1+b.2.1,r.2+1)/\x=b.2.2.2)/\g.length<=C.length+i/\(∀m,(∀w∈C,w.2.2.length<=m)->∀w∈g,w.2.2.length<=m+i)/\(∀w∈C,w.2.1∈g.map (·.2.1))/\∃o1 o2,σ=[!(.ref B),!(.ref ra),!(.ref ba),o1,o2])
  #[C,hw,Sb.of (Same.refl _),λw m=>.inl (Zl.mpr #[w,m,rfl]),λl x=>by simp,Ã _,λm h w j=>h w j,λw m=>Zl.mpr #[w,m,rfl],none,none,rfl] ?_ ?_ ?_;.rintro i σ H' ⟨g,_,sb,_⟩;show SqL.of (I sb)
 .rintro i b σ H' hi ⟨g,f,sb,hf,U,hn,T,D,o1,o2,rfl⟩;let#[b1,b2]:=hB b (Zs hi);have ak:i<bs.length:=(É.mp hi).1;show dh (SqT.of (tk sb b1)) rfl ?_;symm;show#[B,rfl,.inr #[_,.inl f.d],?_];symm;show cM (tk sb hr) ?_;symm;show bV (tk sb hr) ?_;symm;intro p hp;symm;intro d X;symm;have ek:((r.1:Int)+(b.2.1:Int))=((r.1+b.2.1:Nat):Int)/\((r.2:Int)+1)=((r.2+1:Nat):Int):=#[(),()];rw[ek.1,ek.2]at X⊢;have Sp:Same H' (upd H' p (.tup [.int ((r.1+b.2.1:Nat):Int),.int ((r.2+1:Nat):Int)])):=aB hp _;have S:=Sp.new (o:=.lst []) X;have ae:p≠d:=λz=>by rw[<-z,ao]at X;cases X
  have u:H' d=none:=Sp.free X;have ad:H d=none:=by cases e:H d with
   |none=>rfl|some o=>
    exfalso;by_cases m:d∈B::C.map (·.2.1)
    .rcases Å.mp m with z|m;.rw [z,f.d]at u;cases u
     .obtain ⟨w,j,rfl⟩:=Zl.mp m;let#[v,mv,ev]:=Zl.mp (D w j);have:=f.l v mv;rw[show v.2.1=w.2.1 from ev,u]at this;cases this
    .rw [sb.get m e]at u;cases u
  have hE:StT K H' b.2.2.1 b.2.2.2:=by let#[c,Z,e2]:=b2;show#[c,tk sb Z,tk sb e2]
  have Y:bs.take (i+1)=bs.take i++[b]:=by rw[Ø,hi];rfl
  show#[lD g,iM (r.1+b.2.1,r.2+1),p,S.get f.d,rfl,by rw[az ae,ao];rfl,Ù (show(lD g).length<=1000000 by unfold lD;rw[Qb];rfl') (by decide),λv J=>?_,λJ=>?_]
  .obtain ⟨w,j,O⟩:∃w∈g,w.1=(r.1+b.2.1,r.2+1):=by
    by_cases m:(r.1+b.2.1,r.2+1)∈g.map (·.1);.show Zl.mp m
    .rw [uz m]at J;cases J
   rw[mj f.k j O]at J;cases J;have N:=S.get (f.l w j);have W:w.2.2.length<=1000000:=by have:=T (1000000-bs.length) (λv mv=>by have:=af v mv;rfl') w j;rfl'
   show dI (SqL.of N) ?_;symm;show fH N (by rw[Qb];show W) ?_;symm;have ag:B≠w.2.1:=λz=>by rw[<-z,S.get f.d]at N;cases N
   show#[uy g (r.1+b.2.1,r.2+1) (b.2.2.1,b.2.2.2),#[?_,?_,by rw[(lE ..).2];show f.n,by rw[(lE ..).1];show f.k,?_],fC (sb.same S) ((hf w j).imp_left (Í _)),?_,?_,by unfold uy;rw[Qb];rfl',?_,λv mv=>by rw[(lE ..).2];show D v mv,_,_,rfl];.rw [az ag,Qu];show S.get f.d
   .intro v mv;let#[v0,t,rfl]:=Zl.mp mv;by_cases e:v0.1=(r.1+b.2.1,r.2+1);.rw [if_pos e];have:v0=w:=di f.k t j (e.trans O.symm);subst this;change upd _ v0.2.1 _ v0.2.1=_;rw[ao,Wp];rfl
    .rw [if_neg e,az (λz=>e (by rw[di f.n t j z];show O))];show S.get (f.l v0 t)
   .intro v mv z A;let#[v0,t,rfl]:=Zl.mp mv;have P:∀z∈v0.2.2,StT K (upd (upd (upd H' p (.tup [.int ((r.1+b.2.1:Nat):Int),.int ((r.2+1:Nat):Int)])) d (.lst [])) w.2.1 (.lst ((w.2.2.map λz=>V.ref z.1)++[V.ref b.2.2.1]))) z.1 z.2:=λz A=>((f.s v0 t z A).same S).keep N (λl q=>by cases q);by_cases e:v0.1=(r.1+b.2.1,r.2+1)
    .rw [if_pos e]at A;rcases Â.mp A with A|A;.show P z A
     .rw [Zp.mp A];show(hE.same S).keep N (λl q=>by cases q)
    .rw [if_neg e]at A;show P z A
   .intro v mv;let#[v0,t,rfl]:=Zl.mp mv;have e:(if v0.1=(r.1+b.2.1,r.2+1)then(v0.1,v0.2.1,v0.2.2++[(b.2.2.1,b.2.2.2)])else v0).2.1=v0.2.1:=by split<;>rfl
    rw[e];show hf v0 t
   .intro l x;rw[Ad (Zl.mpr #[w,j,O]),U,Y];simp only[Â,Zp];constructor
    .rintro ((h|⟨c,M,h⟩)|h);.show .inl h
     .show .inr #[c,.inl M,h]
     .show .inr #[b,.inr rfl,h]
    .rintro (h|⟨c,M|rfl,h⟩);.show .inl (.inl h)
     .show .inl (.inr #[c,M,h])
     .show .inr h
   .intro m L v mv;let#[v0,t,rfl]:=Zl.mp mv;have:=T m L v0 t;split;.show (v0.2.2++[_]).length<=_;rw[À,Õ];rfl'
    .rfl'
  .have nk:(r.1+b.2.1,r.2+1)∉g.map (·.1):=λm=>by
    let#[w,j,O]:=Zl.mp m;rw[mj f.k j O]at J;cases J
   have R:B≠d:=λz=>by rw[<-z,f.d]at u;cases u
   have G:upd (upd (upd H' p (.tup [.int ((r.1+b.2.1:Nat):Int),.int ((r.2+1:Nat):Int)])) d (.lst [])) B (.dT (lD g++[(iM (r.1+b.2.1,r.2+1),V.ref d)])) d=!(.lst []):=by rw[az (Ne.symm R),ao]
   show dI (SqL.of G) ?_;symm;show fH G (ñ _) ?_;symm;have nd:d∉g.map (·.2.1):=λm=>by
    let#[v,mv,ev]:=Zl.mp m;have:=f.l v mv;rw[show v.2.1=d from ev,u]at this;cases this
   have st:∀{a:Addr} {x:Sd},StT K H' a x->StT K (upd (upd (upd (upd H' p (.tup [.int ((r.1+b.2.1:Nat):Int),.int ((r.2+1:Nat):Int)])) d (.lst [])) B (.dT (lD g++[(iM (r.1+b.2.1,r.2+1),V.ref d)]))) d (.lst ([]++[V.ref b.2.2.1]))) a x:=λh=>((h.same S).keep (S.get f.d) (λl q=>by cases q)).keep G (λl q=>by cases q);show#[g++[((r.1+b.2.1,r.2+1),d,[(b.2.2.1,b.2.2.2)])],#[?_,?_,?_,?_,?_],fC (fC (sb.same S) (.inl Ì)) (.inr ad),?_,?_,by rw[À,Õ];rfl',?_,λv mv=>by rw[Wp];show Ü _ (D v mv),_,_,rfl];.rw [az R,ao];unfold lD;rw[Wp];rfl
   .intro v mv;rcases Â.mp mv with mv|mv
    .have Z:=f.l v mv;have n1:v.2.1≠d:=λz=>nd (Zl.mpr #[v,mv,z]);have n2:v.2.1≠B:=λz=>by rw[z,f.d]at Z;cases Z
     rw[az n1,az n2];show S.get Z
    .rw [Zp.mp mv];show ao
   .rw [Wp,ð];show#[f.n,by simp,λx F y my e=>nd (by rw[Ä,û,Zp]at my;have:x=d:=e.trans my;rw[<-this];show F)]
   .rw [Wp,ð];show#[f.k,by simp,λx F y my e=>nk (by rw[Ä,û,Zp]at my;have:x=(r.1+b.2.1,r.2+1):=e.trans my;rw[<-this];show F)]
   .intro v mv z A;rcases Â.mp mv with mv|mv;.show st (f.s v mv z A)
    .rw [Zp.mp mv]at A;rw[Zp.mp A];show st hE
   .intro v mv;rcases Â.mp mv with mv|mv;.show hf v mv
    .rw [Zp.mp mv];show .inr ad
   .intro l x;have new:Wait (g++[((r.1+b.2.1,r.2+1),d,[(b.2.2.1,b.2.2.2)])]) l x↔Wait g l x\/(l=(r.1+b.2.1,r.2+1)/\x=b.2.2.2):=by
     constructor
     .rintro ⟨w,j,rfl,F⟩;rcases Â.mp j with j|j;.show .inl #[w,j,rfl,F]
      .rw [Zp.mp j]at F⊢;show .inr #[rfl,by simpa using F]
     .rintro (⟨w,j,rfl,F⟩|⟨rfl,rfl⟩);.show #[w,Ü _ j,rfl,F]
      .show #[_,Ï _ (Zp.mpr rfl),rfl,by simp]
    rw[new,U,Y];simp only[Â,Zp];constructor
    .rintro ((h|⟨c,M,h⟩)|h);.show .inl h
     .show .inr #[c,.inl M,h]
     .show .inr #[b,.inr rfl,h]
    .rintro (h|⟨c,M|rfl,h⟩);.show .inl (.inl h)
     .show .inl (.inr #[c,M,h])
     .show .inr h
   .intro m L v mv;rcases Â.mp mv with mv|mv;.have:=T m L v mv;rfl'
    .rw [Zp.mp mv];change 1<=_;rfl'
 .rintro σ H' ⟨g,f,sb,hf,U,hn,T,D,o1,o2,rfl⟩;rw[ä]at U;symm;show q H' g f sb hf U hn T
abbrev wJ (es:List Int) (xs:List Sd) (x:Sd):Prop:=x∈xs/\jf es x=true
def leP (k l:Nat×Nat):Prop:=k.1<l.1\/(k.1=l.1/\k.2<=l.2)
theorem leP.refl (k:Nat×Nat):leP k k:=.inr #[rfl,Ã _]
theorem leP.trans {l m:Nat×Nat} (h:leP k l) (g:leP l m):leP k m:=by unfold leP at*;rfl'
theorem leP.up (k:Nat×Nat) (c:Nat):leP k (k.1+c,k.2+1):=by unfold leP;dsimp only;rfl'
theorem leP.zero (h:leP k (0,0)):k=(0,0):=by let#[a,b]:=k;unfold leP at h;dsimp only at h;rw[show a=0 by rfl',show b=0 by rfl']
structure Dj (ev:Sd->Prop) (B:Nat->Sd->Sd->Prop) (F:Sd->Nat×Nat->Prop) (W:Nat×Nat->Sd->Prop):Prop where
 e:∀x,ev x->F x (0,0)\/W (0,0) x
 b:∀c x y v,B c x y->F y v->(∃u,F x u/\leP u (v.1+c,v.2+1))\/W (v.1+c,v.2+1) x
 s:∀x k,F x k\/W k x->(ev x/\k=(0,0))\/∃c y v,B c x y/\F y v/\k=(v.1+c,v.2+1)m:∀x k,F x k->∀l y,W l y->leP k l
theorem Dj.skip {B:Nat->Sd->Sd->Prop} {F:Sd->Nat×Nat->Prop} {W:Nat×Nat->Sd->Prop} (h:Dj ev B F W) {r:Nat×Nat} (d:F x k) (a:∀l y,W l y↔W' l y\/(l=r/\y=x)):Dj ev B F W':=by
 have f:leP k r:=h.m x k d r x ((a _ _).mpr (.inr #[rfl,rfl]));show#[λy j=>?_,λc z y v n o=>?_,λz l hz=>h.s z l (hz.imp id λw=>(a _ _).mpr (.inl w)),λz l hz i y w=>h.m z l hz i y ((a _ _).mpr (.inl w))]
 .rcases h.e y j with g|g;.show .inl g
  .rcases (a _ _).mp g with g|⟨g1,g2⟩
   .show .inr g
   .rw [<-g1]at f;rw[f.zero]at d;show .inl (by rw[g2];show d)
 .rcases h.b c z y v n o with g|g;.show .inl g
  .rcases (a _ _).mp g with g|⟨g1,g2⟩
   .show .inr g
   .show .inl #[k,by rw[g2];show d,by rw[g1];show f]
theorem Dj.take {B:Nat->Sd->Sd->Prop} {F:Sd->Nat×Nat->Prop} {W C:Nat×Nat->Sd->Prop} (h:Dj ev B F W) {r:Nat×Nat} (q:∀l y,W l y↔W' l y\/(l=r/\y=x)) (D:∀l y,W' l y->leP r l) (d:∀y k,F' y k↔F y k\/(y=x/\k=r)) (p:∀l y,C l y↔W' l y\/∃c,B c y x/\l=(r.1+c,r.2+1)):Dj ev B F' C:=by
 have t:W r x:=(q _ _).mpr (.inr #[rfl,rfl]);show#[λy o=>?_,λc z y v A o=>?_,λz l hz=>?_,λz l hz i y w=>?_]
 .rcases h.e y o with g|g;.show .inl ((d _ _).mpr (.inl g))
  .rcases (q _ _).mp g with g|⟨a,f⟩;.show .inr ((p _ _).mpr (.inl g))
   .show .inl ((d _ _).mpr (.inr #[f,a]))
 .rcases (d _ _).mp o with o|⟨rfl,rfl⟩
  .rcases h.b c z y v A o with⟨u,a,f⟩|g
   .show .inl #[u,(d _ _).mpr (.inl a),f]
   .rcases (q _ _).mp g with g|⟨a,f⟩;.show .inr ((p _ _).mpr (.inl g))
    .show .inl #[r,(d _ _).mpr (.inr #[f,rfl]),by rw[a];show leP.refl _]
  .show .inr ((p _ _).mpr (.inr #[c,A,rfl]))
 .have j:F z l\/W l z->(ev z/\l=(0,0))\/∃c y v,B c z y/\F' y v/\l=(v.1+c,v.2+1):=λg=>(h.s z l g).imp id λ⟨c,y,v,a,f,E⟩=>#[c,y,v,a,(d _ _).mpr (.inl f),E];rcases hz with hz|hz
  .rcases (d _ _).mp hz with hz|⟨rfl,rfl⟩;.show j (.inl hz)
   .show j (.inr t)
  .rcases (p _ _).mp hz with hz|⟨c,a,f⟩;.show j (.inr ((q _ _).mpr (.inl hz)))
   .show .inr #[c,x,r,a,(d _ _).mpr (.inr #[rfl,rfl]),f]
 .have n:leP l r:=by
   rcases(d _ _).mp hz with hz|⟨_,rfl⟩;.show h.m z l hz r x t
   .show leP.refl _
  rcases(p _ _).mp w with w|⟨c,_,rfl⟩;.show n.trans (D _ _ w)
  .show n.trans (leP.up _ _)
theorem yO {a:Type} {f g:a->Nat} {d:Nat} (h:∀x,g x<=f x):∀{l:List a} {x:a},x∈l->g x+d<=f x->(l.map g).sum+d<=(l.map f).sum
 |z::l,x,m,e=>by
  have mono:∀l:List a,(l.map g).sum<=(l.map f).sum:=λl=>by induction l with
   |nil=>show Ã _|cons y l ih=>rw[Ä,Ä,Ť,Ť];have:=h y;rfl'
  rw[Ä,Ä,Ť,Ť];rcases Å.mp m with rfl|m
  .have:=mono l;rfl'
  .have:=yO h m e;have:=h z;rfl'
abbrev Fq:=Addr×Sd×Addr×(Nat×Nat)
variable{fz:List Fq}
noncomputable def jF (fz:List Fq):List Gz:=fz.map λf=>(f.1,f.2.1,f.2.2.1)
structure FdT (K:W.Frag) (H:Hp) (fa:Addr) (fz:List Fq):Prop where
 d:H fa=!(bA fa (cu (jF fz)))s:∀f∈fz,StT K H f.1 f.2.1/\H f.2.2.1=!(.tup [.int (f.2.2.2.1:Nat),.int (f.2.2.2.2:Nat)])n:(fz.map (·.2.1)).Nodup
def jg (fz:List Fq) (x:Sd) (k:Nat×Nat):Prop:=∃f∈fz,f.2.1=x/\f.2.2.2=k
noncomputable def lQ (bz:List Gz) (U:Addr->List Bq) (fz:List Fq):Nat:=(bz.map λb=>if b.2.1∈fz.map (·.2.1)then 0 else(U b.2.2).length).sum
theorem jE {K:W.Frag} (h:∀f∈fz,StT K H f.1 f.2.1):∀p∈cu (jF fz),StA H p.1 p.2.1:=λp d=>by let#[z,c,rfl]:=Zl.mp d;let#[f,b,rfl]:=Zl.mp c;show(h f b).a
theorem fU (a:List Fq):(jF a).map (·.2.1)=a.map (·.2.1):=by unfold jF;rw[Á];rfl
theorem Qw {l:Nat×Nat} (h:HT.lexLt [(l.1:Int),(l.2:Int)] [(k.1:Int),(k.2:Int)]=false):leP k l:=by
 unfold leP;unfold HT.lexLt at h;split at h
 .unfold HT.lexLt at h;split at h;.rfl'
  .have:=ë h;rfl'
 .have:=ë h;rfl'
noncomputable def Vi (es:List Int) (gz:List Gz) (z:Addr×Sk×V):Option V:=by classical
 show if ∃g∈gz,z=(g.1,dG g.2.1,V.ref g.2.2)/\jf es g.2.1=true then !(.ref z.1)else none
theorem FW {g:Gz} (m:g∈gz):Vi es gz (g.1,dG g.2.1,V.ref g.2.2)=if jf es g.2.1=true then !(.ref g.1)else none:=by
 unfold Vi;by_cases e:jf es g.2.1=true;.rw [if_pos e,if_pos #[g,m,rfl,e]]
 .rw [if_neg e,if_neg];rintro⟨y,c,a,b⟩;have:=rA (ß (λp:Addr×Sk×V=>p.2.1) a);rw[this]at e;show e b
theorem yP {es:List Int} {a:List Gz}:∀{l:List Gz},(∀g∈l,g∈a)->(cu l).filterMap (Vi es a)=((l.filter λg=>jf es g.2.1).map λg=>(g.1,g.2.1)).map λz:Addr×Sd=>V.ref z.1
 |[],_=>rfl|g::l,h=>by
  have b:=yP (es:=es) (l:=l) λx m=>h x (Í _ m)
  change List.filterMap _ ((g.1,dG g.2.1,V.ref g.2.2)::cu l)=_;rw[Ħ,FW (h g (Ì ..)),List.filter_cons,b];by_cases e:jf es g.2.1=true;.rw [if_pos e,if_pos e];rfl
  .rw [if_neg e,if_neg e]
theorem FZ (a:List Qz) (k:Nat×Nat):dH (lD a) (iM k)=lD (a.filter λv=>decide (v.1≠k)):=by
 unfold dH lD;rw[List.filter_map];congr 1;show List.filter_congr λv _=>?_;change decide (iM v.1≠iM k)=decide (v.1≠k);by_cases e:v.1=k;.rw [e];simp
 .rw [Ö (show v.1≠k from e),Ö (show iM v.1≠iM k fromλz=>e (rH z))]
theorem WtT.pop {K:W.Frag} {g:Addr} {b:List Qz} (h:WtT K H g b) {w:Qz} (f:w∈b):∃a:List Qz,WtT K (upd H g (.dT (dH (lD b) (iM w.1)))) g a/\w.2.1∉a.map (·.2.1)/\a.length+1<=b.length/\(∀v∈a,v∈b)/\∀l x,Wait b l x↔Wait a l x\/(l=w.1/\x∈w.2.2.map (·.2)):=by
 have j:∀{xs:List (List Key×V)} l,HO.dT xs≠.tup l:=λl z=>by cases z
 have sub:∀v∈b.filter (λv=>decide (v.1≠w.1)),v∈b/\v.1≠w.1:=λv mv=>#[(Ĩ.mp mv).1,ò (Ĩ.mp mv).2];show#[b.filter λv=>decide (v.1≠w.1),#[by rw[ao,FZ],λv mv=>?_,?_,?_,λv mv z i=>(h.s v (sub v mv).1 z i).keep h.d j],λm=>?_,?_,λv mv=>(sub v mv).1,λl x=>#[?_,?_]];.have e:=h.l v (sub v mv).1;rw[az (λz=>by rw[z,h.d]at e;cases e)];show e
 .show Đ (List.Sublist.map _ List.filter_sublist) h.n
 .show Đ (List.Sublist.map _ List.filter_sublist) h.k
 .obtain ⟨v,mv,e⟩:=Zl.mp m;have:=di h.n (sub v mv).1 f e;show(sub v mv).2 (by rw[this])
 .show List.length_filter_lt_length_iff_exists.mpr #[w,f,by simp]
 .rintro ⟨v,mv,rfl,c⟩;by_cases e:v.1=w.1
  .rw [di h.k mv f e]at c⊢;show .inr #[rfl,c]
  .show .inl #[v,Ĩ.mpr #[mv,Ö e],rfl,c]
 .rintro (⟨v,mv,rfl,c⟩|⟨rfl,c⟩);.show #[v,(sub v mv).1,rfl,c]
  .show #[w,f,rfl,c]
inductive sp_f43 (K:W.Frag) (vs:List V) (H:Hp) (Q:VK) (E:XK):Prop|mk (oa ea:Addr) (gz:List Gz) (st:Sd->List (Str×Nat×Sd)) (es:List Int) (h0:vs=[.ref oa,.ref ea]) (h1:Rd H oa (bA oa (cu gz))) (h2:(∀z∈gz,StT K H z.1 z.2.1/\SsT K H z.2.2 (st z.2.1)/\(st z.2.1).length<=18)) (h3:(gz.map (·.2.1)).Nodup) (h4:gz.length<=50000) (h5:(∀z∈gz,∀e∈st z.2.1,e.2.2∈gz.map (·.2.1))) (h6:SqT K H ea (es.map V.int)) (h7:∀od fa H' (fz:List Fq),Sb [oa] H H'->H' oa=!(.frz od (bA oa (cu gz)))->H fa=none->FdT K H' fa fz->Dj (wJ es (gz.map (·.2.1))) (ux st (gz.map (·.2.1))) (jg fz) (λ_ _=>False)->Q (.ref fa) H'):sp_f43 K vs H Q E
abbrev G4 (K:W.Frag):TS:=(aF (aP (cF Ea (aj (aa 4) aA)) (au 5))
  (aF (aP (DW (aa 4) (aa 5)) (au 6))
  (d9 (cO K (aa 6)) (au 7) (bW (tB (jm (aa 7) (aa 3))) (aF (nM (aa 3) (aa 7) (aa 5))
  (du (aR (sp_f30 K) [] E0 (aj (aa 4) (aj (aa 5) (aj (gQ (aa 2) (aa 7)) aA)))))) bh))))
abbrev G5 (K:W.Frag):TS:=(aF (aP (vA (bZ (aj (tC (V.int 0)) (aj (tC (V.int 0)) aA))) (oR [none,!1] (nO (aa 0)) (au 0) (jw K (aR (sp_f36 K) [] E0 (aj (aa 0) (aj (aa 1) aA)))) (aa 0))) (au 4))
  (aF (fc (aZ (aH kO (cF DN (aj (aa 4) aA)) (tC (V.int 0)))) (G4 K))
  (b7 (aa 3))))
def wK (K:W.Frag) (E:XK) (Eh:XK):TS:=(aF (aP (aR (sp_f22 K) [] E0 (aj (aa 0) aA)) (au 2))
  (aF (aP nJ (au 3))
  (G5 K)))
theorem Qx (h:sp_f43 K vs H Q E):∃Eh,wK K E Eh {nx:=λ_ H'=>Q .non H',rt:=Q} (start ["onward","ends","backward","found","waiting","rest","reached","stand"] vs) H:=by
 let#[I,ea,L,st,es,rfl,hO,hG,hN,hL,hC,hE,q]:=h;show#[E0,?_];unfold wK;symm;show#[I,L,st,rfl,hO,hG,hN,hL,hC,λdz ba O bz U ax a6 ei hB=>?_];symm;intro t am;symm;intro G b4;symm;intro ta a1;have S1:Same O (upd O t (bA t [])):=aB am _;have S2:=S1.new (o:=.dT []) b4;have S3:=S2.new (o:=.tup [.int 0,.int 0]) a1;have b0:upd (upd (upd O t (bA t [])) G (.dT [])) ta (.tup [.int 0,.int 0]) t=!(bA t []):=((aB b4 _).trans (aB a1 _)).get ao;have bi:upd (upd (upd O t (bA t [])) G (.dT [])) ta (.tup [.int 0,.int 0]) G=!(.dT []):=(aB a1 _).get ao;have bl:upd (upd (upd O t (bA t [])) G (.dT [])) ta (.tup [.int 0,.int 0]) ta=!(.tup [.int 0,.int 0]):=ao;have Z:O G=none:=S1.free b4;have ce:t≠I:=λz=>by rw[z,a6]at am;cases am
 have b6:G≠I:=λz=>by rw[z,a6]at Z;cases Z
 have d6:ta≠I:=λz=>by rw[z,S2.get a6]at a1;cases a1
 generalize upd (upd (upd O t (bA t [])) G (.dT [])) ta (.tup [.int 0,.int 0])=H3 at S3 b0 bi bl⊢;have c5:∀{H':Hp} {o:HO},Sb [I] O H'->H' I=!o->∀{p:Addr},H' p=none->O p=none:=λ{H' o} sb eo {p} hp=>by
  cases e:O p with
  |none=>rfl
  |some u=>
   by_cases z:p=I
   .rw [z,eo]at hp;cases hp
   .rw [sb.get (by simpa using z) e]at hp;cases hp
 have tk:∀{H':Hp},Sb [I] O H'->∀{a:Addr} {u:HO},(∀od x,u≠.frz od x)->O a=!u->H' a=!u:=λsb a u hu ea=>sb.get (λm=>by
  rw[Zp.mp m,a6]at ea;show hu _ _ (Ô ea).symm) ea
 have b3:∀{H':Hp},Sb [I] H H'->∀{a:Addr} {l:List V},H a=!(.tup l)->H' a=!(.tup l):=λsb a l e=>sb.get (λm=>by
  rw[Zp.mp m]at e;rcases hO with g|⟨od,g⟩<;>(rw[g]at e;cases e)) e
 have cn:∀{H':Hp},Sb [I] O H'->∀{z:Gz},z∈L->StT K H' z.1 z.2.1:=λsb z mz=>by
  let#[c,e1,e2]:=(hG z mz).1;show#[c,tk sb (λ_ _ z=>by cases z) (b3 ax e1),tk sb (λ_ _ z=>by cases z) (b3 ax e2)]
 have d1:∀{H':Hp},Sb [I] H H'->SqT K H' ea (es.map V.int):=λsb=>by
  rcases hE with(e|⟨od,e⟩)|hK
  .show .inl (.inl (b3 sb e))
  .show .inl (.inr #[od,sb.get (λm=>?_) e]);rw[Zp.mp m]at e;rcases hO with g|⟨od',g⟩<;>(rw[g]at e;cases e)
  .show .inr hK
 symm;show Vc (.inr #[dz,S3.get a6]) (by unfold cu;rw[Qb];rfl') (Vi es L) λap H4 al cz=>#[λi z hi A B hA cp=>?_,λla as=>?_]
 .obtain ⟨g,hg,rfl⟩:=rG hi;have mg:=Zs hg;rw[FW mg]at hA cp;symm;show#[g.1,ea,g.2.1,es,rfl,cn (λb o nb e=>al b o nb (S3.get e)) mg,d1 (λb o nb e=>al b o nb (S3.get (ax b o nb e))),?_];symm;by_cases ev:jf es g.2.1=true
  .rw [ev];symm;show hA _ (if_pos ev)
  .rw [Ρ.mpr ev];symm;show cp (if_neg ev)
 have b2:Sb [I] O H4:=λb o nb e=>al b o nb (S3.get e)
 have S5:Same H4 (upd H4 la (.lst ((cu L).filterMap (Vi es L)))):=aB as _;have b1:=c5 b2 cz as;rw[yP λg m=>m]at S5⊢;have ag:=al.get (by simpa using ce) b0;have ah:=al.get (by simpa using b6) bi;have ct:=al.get (by simpa using d6) bl;have dl:la≠G:=λz=>by rw[z,ah]at as;cases as
 have ej:la≠t:=λz=>by rw[z,ag]at as;cases as
 have cm:t≠G:=λz=>by rw[z,ah]at ag;cases ag
 symm;show#[S5.get ah,iM (0,0),ta,rfl,S5.get ct,?_];symm;have a2:∃(J:List Qz),WtT K (upd (upd H4 la (.lst (((L.filter λg=>jf es g.2.1).map λg=>(g.1,g.2.1)).map λz:Addr×Sd=>V.ref z.1))) G (.dT [(iM (0,0),.ref la)])) G J/\(∀w∈J,O w.2.1=none)/\J.length<=1/\(∀w∈J,w.2.2.length<=50000)/\∀k x,Wait J k x↔k=(0,0)/\x∈L.map (·.2.1)/\jf es x=true:=by
  show#[[((0,0),la,(L.filter λg=>jf es g.2.1).map λg=>(g.1,g.2.1))],#[by rw[ao];rfl,λw W=>?_,by simp,by simp,λw W z mz=>?_],λw W=>by rw[Zp.mp W];show b1,Ã _,λw W=>?_,λk x=>?_]
  .rw [Zp.mp W,az dl,ao]
  .rw [Zp.mp W]at mz;let#[g,mg,rfl]:=Zl.mp mz;show((cn b2 (Ĩ.mp mg).1).same S5).keep (S5.get ah) (λl z=>by cases z)
  .rw [Zp.mp W,Qb];show Û (List.length_filter_le _ _) hL
  .constructor
   .rintro ⟨w,W,rfl,mx⟩;rw[Zp.mp W]at mx⊢;dsimp only at mx⊢;rw[Á]at mx;let#[g,mg,rfl]:=Zl.mp mx;show#[rfl,Zl.mpr #[g,(Ĩ.mp mg).1,rfl],(Ĩ.mp mg).2]
   .rintro ⟨rfl,mx,e⟩;let#[g,mg,rfl]:=Zl.mp mx;show#[_,Zp.mpr rfl,rfl,Zl.mpr #[(g.1,g.2.1),Zl.mpr #[g,Ĩ.mpr #[mg,e],rfl],rfl]]
 have c0:Sb [I] O (upd (upd H4 la (.lst (((L.filter λg=>jf es g.2.1).map λg=>(g.1,g.2.1)).map λz:Addr×Sd=>V.ref z.1))) G (.dT [(iM (0,0),.ref la)])):=fC (fC b2 (.inr b1)) (.inr Z);have bw:(upd (upd H4 la (.lst (((L.filter λg=>jf es g.2.1).map λg=>(g.1,g.2.1)).map λz:Addr×Sd=>V.ref z.1))) G (.dT [(iM (0,0),.ref la)])) t=!(bA t []):=by rw[az cm];show S5.get ag
 have c8:(upd (upd H4 la (.lst (((L.filter λg=>jf es g.2.1).map λg=>(g.1,g.2.1)).map λz:Addr×Sd=>V.ref z.1))) G (.dT [(iM (0,0),.ref la)])) I=!(.frz ap (bA I (cu L))):=by rw[az (Ne.symm b6)];show S5.get cz
 generalize upd (upd H4 la (.lst (((L.filter λg=>jf es g.2.1).map λg=>(g.1,g.2.1)).map λz:Addr×Sd=>V.ref z.1))) G (.dT [(iM (0,0),.ref la)])=H6 at a2 c0 bw c8⊢;let#[d4,d0,dy,eh,dp,db]:=a2;have ek:lQ bz U []<=900000:=by
  show Û (Nat.le_of_eq ?_) hB.s;unfold lQ;simp
 show jZ (λm σ H'=>∃(fz:List Fq) (J:List Qz),FdT K H' t fz/\WtT K H' G J/\Sb [I] O H'/\H' I=!(.frz ap (bA I (cu L)))/\(∀w∈J,O w.2.1=none)/\Dj (wJ es (L.map (·.2.1))) (ux st (L.map (·.2.1))) (jg fz) (Wait J)/\(∀f∈fz,f.2.1∈L.map (·.2.1))/\m=J.length+lQ bz U fz/\J.length+lQ bz U fz<=900001/\(∀w∈J,w.2.2.length+lQ bz U fz<=950000)/\∃o1 o2 o3,σ=[!(.ref I),!(.ref ea),!(.ref ba),!(.ref t),!(.ref G),o1,o2,o3]) _
  #[[],d4,#[bw,by simp,by simp],d0,c0,c8,dy,#[λx hx=>.inr ((db _ _).mpr #[rfl,hx.1,hx.2]),λc x y v _ hF=>?_,λx k hk=>?_,λx k hk=>?_],by simp,rfl,(),λw W=>by have:=dp w W;rfl',_,_,_,rfl] ?_ ?_
 .obtain ⟨f,C,_⟩:=hF;cases C
 .rcases hk with⟨f,C,_⟩|hk
  .cases C
  .obtain ⟨e1,e2⟩:=(db _ _).mp hk;show .inl #[e2,e1]
 .obtain ⟨f,C,_⟩:=hk;cases C
 .rintro m σ H' N ⟨fz,J,hF,hW,sb,eo,dm,hD,dc,rfl,em,ec,o1,o2,o3,rfl⟩ d2;symm;show Q9 hW.d ?_;rw[show(lD J).length=J.length from Qb _];symm;by_cases c4:0<J.length
  .show uh () ?_;symm;show Qh (kvs:=J.map λw:Qz=>([(w.1.1:Int),(w.1.2:Int)],V.ref w.2.1)) (by rw[hW.d,Á];rfl) (λz=>by rw[ρ]at z;rw[z]at c4;cases c4) λS k ak mk bn=>?_
   rw[Á]at mk bn;let#[w,W,rfl]:=Zl.mp mk;replace ak:H' S=!(.tup [.int (w.1.1:Nat),.int (w.1.2:Nat)]):=ak;have ed:∀v∈J,leP w.1 v.1:=λv mv=>Qw (bn _ (Zl.mpr #[v,mv,rfl]))
   symm;show#[G,rfl,.inr #[_,.inl hW.d],?_];symm;show#[lD J,iM w.1,S,.ref w.2.1,hW.d,rfl,ak,mj hW.k W rfl,?_];let#[da,cx,d5,dt,ad,dq]:=hW.pop W;have nt:∀{xs:List (List Key×V)} l,HO.dT xs≠.tup l:=λl z=>by cases z
   have c9:Sb [I] O (upd H' G (.dT (dH (lD J) (iM w.1)))):=fC sb (.inr Z);have cr:upd H' G (.dT (dH (lD J) (iM w.1))) I=!(.frz ap (bA I (cu L))):=by rw[az (Ne.symm b6)];show eo
   have cf:FdT K (upd H' G (.dT (dH (lD J) (iM w.1)))) t fz:=⟨by rw[az cm];show hF.d,λf C=>⟨(hF.s f C).1.keep hW.d nt,by have e:=(hF.s f C).2;rw[az (λz=>by rw[z,hW.d]at e;cases e)];show e⟩,hF.n⟩
   have a5:upd H' G (.dT (dH (lD J) (iM w.1))) w.2.1=!(.lst (w.2.2.map λz=>V.ref z.1)):=by have e:=hW.l w W;rw[az (λz=>by rw[z,hW.d]at e;cases e)];show e
   have bq:upd H' G (.dT (dH (lD J) (iM w.1))) S=!(.tup [.int (w.1.1:Nat),.int (w.1.2:Nat)]):=by rw[az (λz=>by rw[z,hW.d]at ak;cases ak)];show ak
   have br:∀z∈w.2.2,StT K (upd H' G (.dT (dH (lD J) (iM w.1)))) z.1 z.2:=λz mz=>(hW.s w W z mz).keep hW.d nt
   generalize upd H' G (.dT (dH (lD J) (iM w.1)))=H7 at cx c9 cr cf a5 bq br⊢;have ee:w.2.1≠t:=λz=>by rw[z,cf.d]at a5;cases a5
   symm;show gD (λz:Addr×Sd=>V.ref z.1) (zs:=w.2.2) (SqL.of a5) (λi σ H'=>∃(r:List Fq) (D:List Qz),FdT K H' t r/\WtT K H' G D/\Sb [I] O H'/\H' I=!(.frz ap (bA I (cu L)))/\(∀v∈D,O v.2.1=none)/\Dj (wJ es (L.map (·.2.1))) (ux st (L.map (·.2.1))) (jg r) (λl x=>Wait D l x\/(l=w.1/\x∈(w.2.2.drop i).map (·.2)))/\(∀f∈r,f.2.1∈L.map (·.2.1))/\(∀l x,Wait D l x->leP w.1 l)/\H' w.2.1=!(.lst (w.2.2.map λz=>V.ref z.1))/\w.2.1∉D.map (·.2.1)/\H' S=!(.tup [.int (w.1.1:Nat),.int (w.1.2:Nat)])/\(∀z∈w.2.2,StT K H' z.1 z.2)/\D.length+lQ bz U r+1<=J.length+lQ bz U fz/\(∀v∈D,v.2.2.length+lQ bz U r<=950000)/\∃o1,σ=[!(.ref I),!(.ref ea),!(.ref ba),!(.ref t),!(.ref G),!(.ref S),!(.ref w.2.1),o1])
    #[fz,da,cf,cx,c9,cr,λv mv=>dm v (ad v mv),?_,dc,λl x ⟨v,mv,e,_⟩=>e▸ed v (ad v mv),a5,d5,bq,br,(),λv mv=>ec v (ad v mv),_,rfl] ?_ ?_ ?_
   .have:(λl x=>Wait da l x\/(l=w.1/\x∈(w.2.2.drop 0).map (·.2)))=Wait J:=by funext l x;rw[List.drop_zero];show propext (dq l x).symm
    rw[this];show hD
   .rintro i σ H8 ⟨_,_,_,_,_,_,_,_,_,_,e,_⟩;show SqL.of e
   .rintro i z σ H8 hi ⟨r,D,F,Y,be,bg,R,ar,M,ai,ca,a9,av,X,cc,a3,dn,rfl⟩;have mz:=Zs hi;have d8:w.2.2.drop i=z::w.2.2.drop (i+1):=by let#[h1,h2]:=É.mp hi;rw[Ć h1,h2]
    have cb:∀l y,(Wait D l y\/(l=w.1/\y∈(w.2.2.drop i).map (·.2)))↔(Wait D l y\/(l=w.1/\y∈(w.2.2.drop (i+1)).map (·.2)))\/(l=w.1/\y=z.2):=λl y=>by rw[d8,Ä,Å,or_assoc];show or_congr χ ?_;rw[and_or_left];show Or.comm
    symm;show#[t,_,rfl,SGet.of F.d (jE λf C=>(F.s f C).1) (X z mz).a,?_];by_cases m:z.2∈r.map (·.2.1);.obtain ⟨v,ev⟩:=je (zs:=jF r) (by rw[fU];show m);rw[ev];symm;change if(not true)=true then _ else _;symm;let#[f,C,ef]:=Zl.mp m;show#[r,D,F,Y,be,bg,R,ar.skip #[f,C,ef,rfl] cb,M,ai,ca,a9,av,X,cc,a3,_,rfl]
    have ev:=gk (zs:=jF r) (x:=z.2) (by rw[fU];show m);rw[ev];symm;change if(not false)=true then _ else _;rw[if_pos (show(not false)=true from rfl)];have b9:z.2∈L.map (·.2.1):=by
     rcases ar.s z.2 w.1 (.inr ((cb _ _).mpr (.inr #[rfl,rfl])))with h|⟨c,y,v,h,_⟩;.show h.1.1
     .show h.1
    have cv:bz.map (·.2.1)=L.map (·.2.1):=by have:=ß (List.map Prod.snd) hB.k;rw[Á,Á]at this;show this
    let#[b,mb,eb]:∃b∈bz,b.2.1=z.2:=by rw[<-cv]at b9;let#[b,mb,eb]:=Zl.mp b9;show#[b,mb,eb]
    let#[c1,c2,c3]:=hB.c b mb;have el:r.length<=50000:=by
     have:=cZ F.n λx mx=>by let#[f,C,rfl]:=Zl.mp mx;show M f C
     rw[Qb,Qb]at this;rfl'
    symm;show#[t,_,rfl,SPut.of F.d (jE λf C=>(F.s f C).1) (X z mz).a (by unfold cu jF;rw[Qb,Qb];rfl'),?_];rw[jb ev];have cj:∀{P:PySem.Heap->Prop} l,HO.ext P≠.tup l:=λl z=>by cases z
    have d3:cu (jF r)++[(z.1,dG z.2,V.ref S)]=cu (jF (r++[(z.1,z.2,S,w.1)])):=by unfold cu jF;rw[Wp,Wp];rfl
    have de:∀{a:Addr} {l:List V},H8 a=!(.tup l)->upd H8 t (bA t (cu (jF r)++[(z.1,dG z.2,V.ref S)])) a=!(.tup l):=λe=>by rw[az (λz=>by rw[z,F.d]at e;cases e)];show e
    have T:Sb [I] O (upd H8 t (bA t (cu (jF r)++[(z.1,dG z.2,V.ref S)]))):=fC be (.inr am);have ci:upd H8 t (bA t (cu (jF r)++[(z.1,dG z.2,V.ref S)])) I=!(.frz ap (bA I (cu L))):=by rw[az (Ne.symm ce)];show bg
    have ae:∀z'∈w.2.2,StT K (upd H8 t (bA t (cu (jF r)++[(z.1,dG z.2,V.ref S)]))) z'.1 z'.2:=λz' b5=>(X z' b5).keep F.d cj;have af:=de av;have a4:FdT K (upd H8 t (bA t (cu (jF r)++[(z.1,dG z.2,V.ref S)]))) t (r++[(z.1,z.2,S,w.1)]):=by
     show#[by rw[ao,d3],λf C=>?_,?_]
     .rcases Â.mp C with C|C;.show #[(F.s f C).1.keep F.d cj,de (F.s f C).2]
      .rw [Zp.mp C];show#[ae z mz,af]
     .rw [Wp,ð];show#[F.n,by simp,λa ma c mc e=>m ?_];rw[Ä,û,Zp]at mc;rw[<-show c=z.2 from mc,<-e];show ma
    have ay:WtT K (upd H8 t (bA t (cu (jF r)++[(z.1,dG z.2,V.ref S)]))) G D:=⟨by rw[az (Ne.symm cm)];show Y.d,λv mv=>by have e:=Y.l v mv;rw[az (λz=>by rw[z,F.d]at e;cases e)];show e,Y.n,Y.k,λv mv y my=>(Y.s v mv y my).keep F.d cj⟩;have a7:upd H8 t (bA t (cu (jF r)++[(z.1,dG z.2,V.ref S)])) w.2.1=!(.lst (w.2.2.map λz=>V.ref z.1)):=by rw[az ee];show ca
    generalize upd H8 t (bA t (cu (jF r)++[(z.1,dG z.2,V.ref S)]))=H9 at T ci ae af a4 ay a7⊢;have eg:lQ bz U (r++[(z.1,z.2,S,w.1)])+(U b.2.2).length<=lQ bz U r:=by
     unfold lQ;show yO (λv=>?_) mb ?_
     .by_cases h:v.2.1∈r.map (·.2.1);.rw [if_pos h,if_pos (by rw[Wp];show Ü _ h)];show Ã _
      .rw [if_neg h];split<;>rfl'
     .rw [if_pos (by rw[Wp,eb];simp),if_neg (by rw[eb];show m)];rfl'
    symm;show⟨ba,.ref b.2.2,rfl,by rw[<-fQ (by rw[cv];show hN) mb,eb];show SGet.of (tk T (λ_ _ z=>by cases z) hB.d) (λp mp=>by let#[b',dk,rfl]:=Zl.mp mp;let#[y,my,ey]:=hB.key dk;have:=cn T my;rw[ey.1,ey.2]at this;show this.a) (ae z mz).a,?_⟩;symm;show#[G,S,b.2.2,D,w.1,U b.2.2,rfl,ay,af,tk T (λ_ _ z=>by cases z) c1,λmm=>?_,λu mu=>?_,(),λv mv=>by have:=a3 v mv;rfl',λbb c6 cy bk bp bo df cq=>?_];.obtain ⟨v,mv,e⟩:=Zl.mp mm;have:=R v mv;rw[show v.2.1=b.2.2 from e,c1]at this;cases this
    .obtain ⟨g1,c,g2,g3⟩:=c2 u mu;show#[tk T (λ_ _ z=>by cases z) g1,c,tk T (λ_ _ z=>by cases z) g2,tk T (λ_ _ z=>by cases z) g3]
    symm;have a8:∀{a:Addr} {u:HO},H9 a=!u->a≠G->a∉D.map (·.2.1)->bb a=!u:=λe n1 n2=>bk.get (λmm=>(Å.mp mm).elim n1 n2) e;have aw:∀{a:Addr} {u:HO},H9 a=!u->(∀xs,u≠.lst xs)->(∀xs,u≠.dT xs)->bb a=!u:=λ{a u} e n1 n2=>a8 e (λz=>by rw[z,ay.d]at e;show n2 _ (Ô e).symm) (λmm=>by let#[v,mv,ea]:=Zl.mp mm;have:=ay.l v mv;rw[show v.2.1=a from ea,e]at this;show n1 _ (Ô this));have bd:∀{a:Addr} {l:List V},H9 a=!(.tup l)->bb a=!(.tup l):=λe=>aw e (λ_ z=>by cases z) (λ_ z=>by cases z);have cw:∀{a:Addr} {x:Sd},StT K H9 a x->StT K bb a x:=λh=>by let#[c,e1,e2]:=h;show#[c,bd e1,bd e2]
    show#[r++[(z.1,z.2,S,w.1)],c6,#[aw a4.d (λ_ z=>by cases z) (λ_ z=>by cases z),λf C=>#[cw (a4.s f C).1,bd (a4.s f C).2],a4.n],cy,λc o nb e=>bk c o (λmm=>?_) (T c o nb e),aw ci (λ_ z=>by cases z) (λ_ z=>by cases z),λv mv=>?_,ar.take cb (λl y h=>?_) (λy k=>?_) (λl y=>?_),λf C=>?_,λl x h=>?_,a8 a7 (λz=>by rw[z,ay.d]at a7;cases a7) a9,λmm=>?_,bd af,λz' b5=>cw (ae z' b5),(),λv mv=>?_,_,rfl]
    .rcases Å.mp mm with rfl|mm;.rw [Z]at e;cases e
     .obtain ⟨v,mv,rfl⟩:=Zl.mp mm;rw[R v mv]at e;cases e
    .rcases bp v mv with h|h;.obtain ⟨v',dg,e⟩:=Zl.mp h;rw[<-show v'.2.1=v.2.1 from e];show R v' dg
     .show c5 T ci h
    .rcases h with h|⟨rfl,_⟩;.show ai l y h
     .show leP.refl _
    .unfold jg;constructor
     .rintro ⟨f,C,e1,e2⟩;rcases Â.mp C with C|C;.show .inl #[f,C,e1,e2]
      .rw [Zp.mp C]at e1 e2;show .inr #[e1.symm,e2.symm]
     .rintro (⟨f,C,e⟩|⟨rfl,rfl⟩);.show #[f,Ü _ C,e]
      .show #[_,Ï _ (Zp.mpr rfl),rfl,rfl]
    .have hx:(∃u∈U b.2.2,l=(w.1.1+u.2.1,w.1.2+1)/\y=u.2.2.2)↔ ∃c,(y∈L.map (·.2.1)/\∃s,(s,c,z.2)∈st y)/\l=(w.1.1+c,w.1.2+1):=by
      rw[<-eb];constructor;.rintro ⟨u,mu,rfl,rfl⟩;show#[u.2.1,(c3 _ _).mp (Zl.mpr #[u,mu,rfl]),rfl]
      .rintro ⟨c,h,rfl⟩;let#[u,mu,e]:=Zl.mp ((c3 c y).mpr h);show#[u,mu,by rw[<-(Ś e).1],(Ś e).2.symm]
     rw[bo,<-hx,or_assoc,or_assoc];show or_congr χ Or.comm
    .rcases Â.mp C with C|C;.show M f C
     .rw [Zp.mp C];show b9
    .rcases (bo l x).mp h with h|⟨u,_,rfl,_⟩;.show ai l x h
     .show leP.up _ _
    .obtain ⟨v,mv,e⟩:=Zl.mp mm;rcases bp v mv with h|h;.show a9 (by rw[<-show v.2.1=w.2.1 from e];show h)
     .rw [show v.2.1=w.2.1 from e,a7]at h;cases h
    .have:=cq (950000-lQ bz U r) (λv mv=>by have:=a3 v mv;rfl') v mv;rfl'
   .rintro σ H8 ⟨r,D,F,Y,be,bg,R,ar,M,ai,ca,a9,av,X,cc,a3,dn,rfl⟩;symm;show d2 _ _ _ (Nat.lt_of_succ_le cc) #[r,D,F,Y,be,bg,R,?_,M,rfl,(),a3,_,_,_,rfl];have:(λl x=>Wait D l x\/(l=w.1/\x∈(w.2.2.drop w.2.2.length).map (·.2)))=Wait D:=by funext l x;rw[List.drop_length];simp
    rw[this]at ar;show ar
  .have e0:J=[]:=Ð ();subst e0;show q9 (by rw[ş];rfl') ?_;symm;show q ap t H' fz (λb o nb e=>sb b o nb (ax b o nb e)) eo ?_ hF ?_;.cases e:H t with|none=>rfl|some u=>
     exfalso;by_cases z:t=I;.show ce z
     .rw [ax.get (by simpa using z) e]at am;cases am
   .have:Wait []=λ_ _=>False:=by funext l x;show propext #[λ⟨w,W,_⟩=>(by cases W),False.elim]
    rw[this]at hD;show hD
 .rintro σ H Q Q' hq ⟨v,hv,a,kvs,e,ha,i,j,e1,e2,k,e3,z⟩;show#[v,hv,a,kvs,e,ha,i,j,e1,e2,k,e3,hq _ _ z]
inductive sp_f37 (K:W.Frag) (vs:List V) (H:Hp) (Q:VK) (E:XK):Prop|mk (sa fa:Addr) (st:Sd) (kvs:List (Addr×Sk×V)) (o:Option (Addr×Nat×Nat)) (h0:vs=[.ref sa,.ref fa]) (h1:StT K H sa st) (h2:Rd H fa (bA fa kvs)) (h3:(∀p∈kvs,StA H p.1 p.2.1)) (h4:cR kvs (dG st)=o.map (λz=>V.ref z.1)) (h5:(∀z,o=!z->H z.1=!(.tup [.int (z.2.1:Nat),.int (z.2.2:Nat)]))) (h6:∀r H',Same H H'->H r=none->H' r=!(.tup (match(generalizing:=false) o with|none=>[.ref sa,.non,.non]|some z=>[.ref sa,.int (z.2.1:Nat),.int (z.2.2:Nat)]))->Q (.ref r) H'):sp_f37 K vs H Q E
def wL (K:W.Frag) (E:XK) (Eh:XK):TS:=(aF (aP (qN (aa 1) (aa 0) (bZ (aj (tC V.non) (aj (tC V.non) aA)))) (au 2))
  (b7 (bZ (aj (aa 0) (aj (aH (aO K) (aa 2) (tC (V.int 0))) (aj (aH (aO K) (aa 2) (tC (V.int 1))) aA))))))
theorem Qy (h:sp_f37 K vs H Q E):∃i,wL K E i {nx:=λ_ H'=>Q .non H',rt:=Q} (start ["stand","found","rest"] vs) H:=by
 let#[s,c,st,kvs,o,rfl,d,g,l,m,n,q]:=h;show#[E0,?_];unfold wL;symm;show#[c,kvs,rfl,g,?_];symm;intro p k;symm;have S:Same H (upd H p (.tup [.non,.non])):=aB k _;have f:Rd (upd H p (.tup [.non,.non])) c (bA c kvs):=by
  rcases g with e|⟨od,e⟩;.show .inl (S.get e)
  .show .inr #[od,S.get e]
 show#[_,SGet.ofR f (λz j=>(l z j).same S) ((d.a).same S),?_];rw[m];cases o with|none=>symm;show cM ao ?_;symm;show bV ao ?_;symm;intro r b;show q r _ (S.new b) (S.free b) ao|some z=>have hz:=S.get (n z rfl);symm;show cM hz ?_;symm;show bV hz ?_;symm;intro r b;show q r _ (S.new b) (S.free b) ao
noncomputable def rJ (x:Sk):Sd:=(x.1,x.2.1,x.2.2.map Int.toNat)
theorem ju (x:Sd):rJ (dG x)=x:=by let#[a,b,c]:=x;change(a,b,(c.map λn:Nat=>(n:Int)).map Int.toNat)=_;rw[Á,show(Int.toNat∘λn:Nat=>(n:Int))=id from funext λn=>Ó n,List.map_id]
theorem Dj.cong {a:Sd->Prop} {B:Nat->Sd->Sd->Prop} {F:Sd->Nat×Nat->Prop} {W:Nat×Nat->Sd->Prop} (h:Dj ev B F W) (b:∀x,ev x↔a x) (g:∀c x y,B c x y↔B' c x y) (i:∀x k,F x k↔F' x k):Dj a B' F' W:=by have f:ev=a:=funext λx=>propext (b x);have d:B=B':=funext λc=>funext λx=>funext λy=>propext (g c x y);have e:F=F':=funext λx=>funext λk=>propext (i x k);rw[<-f,<-d,<-e];show h
abbrev Rz:=Addr×Addr×Sd×Option (Nat×Nat)
variable{rz:List Rz}
noncomputable def uA (a:Addr):Option (Nat×Nat)->List V
 |none=>[.ref a,.non,.non]|some k=>[.ref a,.int (k.1:Nat),.int (k.2:Nat)]
inductive sp_f28 (K:W.Frag) (vs:List V) (H:Hp) (Q:VK) (E:XK):Prop|mk (f ha:Addr) (h:Nat) (ls:List (Str×List Nat)) (ds:L2S) (es:List Int) (h0:vs=[.ref f,.ref ha]) (h1:FnF K H f h ls) (h2:Fo.Wf h ls) (h3:HsG K H ha ds es) (h4:Ai ls ds) (h5:∀r H' N (zs:List Rz),Same H H'->H r=none->(bF (ds.map (aN ls)) N).length<=N->H' r=!(.lst (zs.map λz=>V.ref z.1))->(∀z∈zs,H' z.1=!(.tup (uA z.2.1 z.2.2.2))/\StT K H' z.2.1 z.2.2.1)->zs.length<=50000->(zs.map λz=>dG z.2.2.1).Pairwise (λa b=>Nk.fP a b=true)->(zs.map (·.2.2.1)).Nodup->(∀x,x∈zs.map (·.2.2.1)↔Mm.Rch (rC (ds.map (aN ls)) N) (wC (ds.map (aN ls))) x)->Dj (wJ es (zs.map (·.2.2.1))) (ux (uJ ls (ds.map (aN ls))) (zs.map (·.2.2.1))) (λx k=>∃z∈zs,z.2.2.1=x/\z.2.2.2=!k) (λ_ _=>False)->Q (.ref r) H'):sp_f28 K vs H Q E
def wM (K:W.Frag) (E:XK) (Eh:XK):TS:=(aF (aP (aR (sp_f27 K) [] E0 (aj (aa 0) (aj (aa 1) aA))) (au 2))
  (aF (aP (aR (sp_f43 K) [] E0 (aj (aa 2) (aj (aH (aO K) (aa 1) (tC (V.int 1))) aA))) (au 3))
  (b7 (oR [none,!3] (cO K (cF qM (aj (aa 2) aA))) (au 0) fu (aR (sp_f37 K) [] E0 (aj (aa 0) (aj (aa 1) aA)))))))
theorem QB (h:sp_f28 K vs H Q E):∃Eh,wM K E Eh {nx:=λ_ H'=>Q .non H',rt:=Q} (start ["font","house","onward","found"] vs) H:=by
 let#[f,ha,h,ls,ds,es,rfl,hF,wf,hH,sz,q]:=h;show#[E0,?_];unfold wM;symm;show#[f,ha,h,ls,ds,es,rfl,hF,wf,hH,sz,λoa H1 N D s1 ai hN M hg hl X hR=>?_];symm;let#[d,e,rs,a1,a2,a3,a4,a5]:=hH.same s1;show bV a1 ?_;symm;show#[oa,e,D,λx=>((ds.map (aN ls)).getD x.1.toNat []).map (qZ ls x),es,rfl,.inl M,λz g=>#[(hg z g).1,(hg z g).2,?_],X,hl,λz g u mu=>?_,SqT.of a5,λod fa H2 P J ae al C hD=>?_];.rw [Qb,Æ];cases e:(ds.map (aN ls))[z.2.1.1.toNat]?with|none=>show ñ _|some ws=>let#[ps,ak,rfl]:=Zl.mp (Zs e);show Û (show(aN ls ps).length<=ps.length from Ĳ ..) (sz.2.2.1 ps ak).1
 .show (hR _).mpr (.step ((hR _).mp (Zl.mpr #[z,g,rfl])) ?_);let#[w,mw,rfl]:=Zl.mp mu;show Zl.mpr #[w,mw,rfl]
 have S2:Same H H2:=λb o e=>J b o (λm=>by rw[Zp.mp m,ai]at e;cases e) (s1.get e);have Y:∀z∈D,StT K H2 z.1 z.2.1:=λz g=>by let#[c,g1,g2]:=(hg z g).1;show#[c,J.get (λm=>by rw[Zp.mp m,M]at g1;cases g1) g1,J.get (λm=>by rw[Zp.mp m,M]at g2;cases g2) g2]
 symm;show Ab (.inr #[od,ae]) (λp mp=>by let#[z,g,rfl]:=Zl.mp mp;show(Y z g).a) (by unfold cu;rw[Qb];rfl') λr zs F hs hr=>?_;have e0:(cu D).map (λp=>(p.1,p.2.1))=D.map λz:Gz=>(z.1,dG z.2.1):=by unfold cu;rw[Á];rfl
 rw[e0]at F;have hy:(zs.map λz=>(z.1,rJ z.2)).Perm (D.map λz:Gz=>(z.1,z.2.1)):=by
  have:=F.map λz:Addr×Sk=>(z.1,rJ z.2);rw[Á]at this;rwa[show((λz:Addr×Sk=>(z.1,rJ z.2))∘λz:Gz=>(z.1,dG z.2.1))=λz:Gz=>(z.1,z.2.1)from funext λz=>by change(z.1,rJ (dG z.2.1))=_;rw[ju]]at this
 have hb:∀z∈zs,dG (rJ z.2)=z.2:=λz g=>by let#[y,_,rfl]:=Zl.mp (F.mem_iff.mp g);change dG (rJ (dG y.2.1))=dG y.2.1;rw[ju]
 have O:((zs.map λz=>(z.1,rJ z.2)).map (·.2)).Perm (D.map (·.2.1)):=by have:=hy.map (·.2);rw[Á (l:=D)]at this;show this
 have I:((zs.map λz=>(z.1,rJ z.2)).map λz:Addr×Sd=>dG z.2).Pairwise (λa b=>Nk.fP a b=true):=by rw[Á];rw[show zs.map ((λz:Addr×Sd=>dG z.2)∘λz:Addr×Sk=>(z.1,rJ z.2))=zs.map (·.2)from ħ λz g=>hb z g];show hs
 have T:(zs.map λz=>(z.1,rJ z.2)).length<=50000:=by have:=hy.length_eq;rw[Qb (as:=D)]at this;rfl'
 have Z:Same H2 (upd H2 r (.lst (zs.map λz=>V.ref z.1))):=aB hr _;have er:upd H2 r (.lst (zs.map λz=>V.ref z.1)) r=!(.lst ((zs.map λz=>(z.1,rJ z.2)).map λz:Addr×Sd=>V.ref z.1)):=by rw[ao,Á];rfl
 generalize upd H2 r (.lst (zs.map λz=>V.ref z.1))=H3 at Z er⊢;generalize(zs.map λz=>(z.1,rJ z.2))=ys at hy O I T er;have S:∀z∈ys,StT K H3 z.1 z.2:=λz g=>by let#[y,G,rfl]:=Zl.mp (hy.mem_iff.mp g);show(Y y G).same Z
 symm;show zX (λz:Addr×Sd=>V.ref z.1) (zs:=ys) (SqL.of er) () (λi vs H'=>∃B:List Rz,vs=B.map (λz=>V.ref z.1)/\B.map (λz=>(z.2.1,z.2.2.1))=ys.take i/\Same H3 H'/\∀z∈B,H' z.1=!(.tup (uA z.2.1 z.2.2.2))/\∀k,z.2.2.2=!k↔jg P z.2.2.1 k) #[[],rfl,rfl,Same.refl _,by simp] ?_ ?_ ?_ ?_;.rintro i vs H' ⟨B,_,_,s,_⟩;show SqL.of (s.get er)
 .rintro i vs H' ⟨B,rfl,e,_⟩;have:=ß List.length e;rw[Qb,Ñ]at this;rw[Qb];rfl'
 .rintro i z vs H' hi ⟨B,rfl,j,s,A⟩;have g:=Zs hi;let#[o,ah,af,ag]:∃o:Option (Addr×Nat×Nat),cR (cu (jF P)) (dG z.2)=o.map (λz=>V.ref z.1)/\(∀z,o=!z->H2 z.1=!(.tup [.int (z.2.1:Nat),.int (z.2.2:Nat)]))/\∀k,o.map (·.2)=!k↔jg P z.2 k:=by
   by_cases m:z.2∈P.map (·.2.1)
   .obtain ⟨f,R,ef⟩:=Zl.mp m;show#[!(f.2.2.1,f.2.2.2),?_,λu W=>?_,λk=>#[λhk=>#[f,R,ef,Ô hk],λ⟨f',L,M,e2⟩=>?_]];.rw [<-ef];show fQ (zs:=jF P) (z:=(f.1,f.2.1,f.2.2.1)) (by rw[fU];show C.n) (Zl.mpr #[f,R,rfl])
    .rw [<-Ô W];show(C.s f R).2
    .rw [<-e2,di C.n L R (M.trans ef.symm)];rfl
   .show #[none,gk (by rw[fU];show m),λu W=>(by cases W),λk=>#[λhk=>(by cases hk),λ⟨f',L,M,_⟩=>absurd (Zl.mpr #[f',L,M]) m]]
  symm;have s3:=Z.trans s;show#[z.1,fa,z.2,cu (jF P),o,rfl,(S z g).same s,.inl (s3.get C.d),jE λf R=>(C.s f R).1.same s3,ah,λu W=>s3.get (af u W),λp H4 s4 am e4=>?_];have U:H4 p=!(.tup (uA z.1 (o.map (·.2)))):=by rw[e4];cases o<;>rfl
  symm;show#[B++[(p,z.1,z.2,o.map (·.2))],by rw[Wp];rfl,by rw[Wp,j,Ø,hi];rfl,s.trans s4,λy G=>?_];rcases Â.mp G with G|G;.show #[s4.get (A y G).1,(A y G).2]
  .rw [Zp.mp G];show#[U,ag]
 .rintro vs H' ⟨B,rfl,j,s,A⟩ p F;rw[ä]at j;have S4:=(Z.trans s);have m2:B.map (·.2.2.1)=ys.map (·.2):=by rw[<-j,Á];rfl
  have t:∀x,x∈B.map (·.2.2.1)↔x∈D.map (·.2.1):=λx=>by rw[m2];show O.mem_iff
  show q p _ N B ((S2.trans S4).new F) ((S2.trans S4).free F) hN ao (λz g=>#[(aB F _).get (A z g).1,?_]) ?_ ?_ ?_ (λx=>(t x).trans (hR x)) (hD.cong (λx=>and_congr (t x).symm χ) (λc x y=>and_congr (t x).symm χ) λx k=>#[?_,?_])
  .have:(z.2.1,z.2.2.1)∈ys:=by rw[<-j];show Zl.mpr #[z,g,rfl]
   show((S _ this).same s).same (aB F _)
  .have:=ß List.length j;rw[Qb]at this;rfl'
  .rw [<-j,Á]at I;show I
  .rw [m2];show O.nodup_iff.mpr X
  .intro hx;have ad:x∈B.map (·.2.2.1):=by
    rw[t];rcases hD.s x k (.inl hx)with h|⟨c,y,v,h,_⟩;.show h.1.1
    .show h.1
   let#[z,g,ez]:=Zl.mp ad;show#[z,g,ez,((A z g).2 k).mpr (by rw[show z.2.2.1=x from ez];show hx)]
  .rintro ⟨z,g,rfl,e2⟩;show((A z g).2 k).mp e2
inductive sp_f39 (K:W.Frag) (vs:List V) (H:Hp) (Q:VK) (E:XK):Prop|mk (ta:Addr) (s0 s1 sg:Str) (b:Bool) (h0:vs=[.ref ta,.str sg,.bl b]) (h1:H ta=!(.tup [.str s0,.str s1])) (h2:s0.length+sg.length<=1000000) (h3:∀r H',Same H H'->H' r=!(.tup (if b=true then [.str s1,.str (s0++sg)]else [.str (s0++sg),.str s1]))->Q (.ref r) H'):sp_f39 K vs H Q E
def wN (K:W.Frag) (E:XK) (Eh:XK):TS:=(aF (aP (aH fV (aH (aO K) (aa 0) (tC (V.int 0))) (aa 1)) (au 3))
  (b7 (WX (jw K (aa 2)) (bZ (aj (aH (aO K) (aa 0) (tC (V.int 1))) (aj (aa 3) aA))) (bZ (aj (aa 3) (aj (aH (aO K) (aa 0) (tC (V.int 1))) aA))))))
theorem QC (h:sp_f39 K vs H Q E):∃e,wN K E e {nx:=λ_ H'=>Q .non H',rt:=Q} (start ["texts","sign","passes","longer"] vs) H:=by
 let#[k,j,i,g,b,rfl,a,f,q]:=h;show#[E0,?_];unfold wN;symm;show cM a ?_;symm;show nT f ?_;symm;show Ox (λc=>?_) λc=>?_;.symm;show bV a ?_;symm;intro r d;show q r _ (aB d _) (by rw[ao,if_pos c])
 .symm;show bV a ?_;symm;intro r d;show q r _ (aB d _) (by rw[ao,if_neg (by rw[c];show Ê)])
theorem oA {N:Nat} (a:(bF wss N).length<=N) (b:(bF wss M).length<=M):bF wss N=bF wss M:=by
 rcases υ N M with h|h;.obtain ⟨j,rfl⟩:=Nat.exists_eq_add_of_le h;show(lC a j).symm
 .obtain ⟨j,rfl⟩:=Nat.exists_eq_add_of_le h;show lC b j
noncomputable def uK (z:cX×cX×Int):Nat:=cst z.2.1.2.1 z.1.2.1
abbrev Sv (z:cX×cX×Int):Nat×Sd:=(uK z,oF z)
noncomputable def HX (w:cX):Nat:=w.1.cps.toList.headD 0
theorem rK {w:cX} (h:Hs.Sg w.1):w.1=tx [HX w]:=by let#[n,e]:=h;unfold HX;rw[e];rfl
theorem yQ {p:List cX} (h:∀w∈p,Hs.Sg w.1):tP p=tx (p.map HX):=by
 have g:∀(p:List cX) (t:List Nat),(∀w∈p,Hs.Sg w.1)->p.foldl (λt w=>t++w.1) (tx t)=tx (t++p.map HX):=λp=>by induction p with
  |nil=>intro t _;rw[û,å];rfl|cons w p ih=>intro t h;rw[List.foldl_cons,rK (h w Ì),Ek,ih _ λu a=>h u (Í _ a),Þ];rfl
 show g p [] h
theorem rM {p:List cX} (h:∀w∈p,Hs.Sg w.1):(tP p).length=p.length:=by rw[yQ h,gJ,Qb]
def Tw (wss:List (List cX)) (x:Sd) (c:Nat) (p0 p1:List cX):Prop:=Wk wss p0/\Wk wss p1/\rP p0=x.1/\rP p1=x.2.1/\∃A,stP p1=A++x.2.2/\A.length=(stP p0).length/\Mm.dw (stP p0) A=c
theorem Tw.step {a:List (List cX)} {w:cX} (h:Tw a x c p0 p1) (m:w∈a.getD x.1.toNat []):Tw a (m8 w x.2.1 x.2.2) (c+cst x.2.2 w.2.1) (if w.2.1.length<=x.2.2.length then p0++[w]else p1) (if w.2.1.length<=x.2.2.length then p1 else p0++[w]):=by
 let#[k,f,j,i,A,e,l,g]:=h;have b:=k.add (w:=w) (by rw[j];show m);unfold m8 cst;by_cases d:w.2.1.length<=x.2.2.length
 .rw [if_pos d,if_pos d,if_pos d];show#[b,f,jc _ _,i,A++x.2.2.take w.2.1.length,?_,?_,?_];.rw [e,Þ,ā]
  .rw [jd,À,À,Ñ,l];rfl'
  .rw [jd,Mm.nZ l.symm,g,š d,ä]
 .rw [if_neg d,if_neg d,if_neg d];show#[f,b,i,jc _ _,stP p0++w.2.1.take x.2.2.length,?_,?_,?_];.rw [jd,Þ,ā]
  .rw [e,À,À,Ñ,l];rfl'
  .rw [e,Mm.nZ l,Mm.jq A,g,ŗ (),ä,Mm.jq x.2.2]
def Ap (p0 p1:List cX):Prop:=∃(i:Nat) (a b:cX),p0[i]?=!a/\p1[i]?=!b/\a.1≠b.1
theorem Ap.symm (h:Ap p0 p1):Ap p1 p0:=by let#[i,a,b,c,d,e]:=h;show#[i,b,a,d,c,e.symm]
theorem Ap.snoc (h:Ap p0 p1) (w:cX):Ap (p0++[w]) p1:=by let#[i,a,b,c,d,e]:=h;show#[i,a,b,by rw[ĕ (É.mp c).1];show c,d,e]
theorem G6 {c:List (List cX)} (m:z∈lO c rs):z.2.2∈rs/\z.1∈c.getD z.2.2.toNat []/\z.2.1∈c.getD z.2.2.toNat []:=by
 let#[r,d,n]:=ġ.mp m;let#[b,h,i]:=ġ.mp n;let#[a,f,rfl]:=Zl.mp i;have j:=í.mp h;have f:=í.mp f;have g:∀k,k<(c.getD r.toNat []).length->(c.getD r.toNat []).getD k default∈c.getD r.toNat []:=by generalize c.getD r.toNat []=l;intro k e;rw[Æ,Zz e];show ì e
 show#[d,g a (),g b j]
theorem Vj {c:List (List cX)} (o:∀f∈c,(f.map (·.1)).Nodup) (m:z∈lO c rs):z.1.1≠z.2.1.1:=by
 let#[r,p,q]:=ġ.mp m;let#[b,k,n]:=ġ.mp q;let#[a,g,rfl]:=Zl.mp n;have d:=í.mp k;have g:=í.mp g;have h:((c.getD r.toNat []).map (·.1)).Nodup:=by
  rw[Æ]
  cases e:c[r.toNat]?with
  |none=>show Γ|some f=>show o f (Zs e)
 generalize c.getD r.toNat []=l at d h⊢;dsimp only;rw[Æ,Æ,Zz d,Zz (show a<l.length by rfl')];intro e;have:=(List.getElem_inj h (i:=a) (j:=b) (h₀:=by rw[Qb];rfl') (h₁:=by rw[Qb];show d)).mp (by rw[İ,İ];show e);rfl'
inductive sp_f2 (K:W.Frag) (vs:List V) (H:Hp) (Q:VK) (E:XK):Prop|mk (wa:Addr) (wss:List (List cX)) (z:Fz) (N:Nat) (h0:vs=[.ref wa,.ref z.1]) (h1:WsT H wa wss) (h2:0<wss.length) (h3:wss.length<=100) (h4:(∀ws∈wss,ws.length<=1000/\∀w∈ws,Hs.Sg w.1/\0<=w.2.2/\w.2.2<wss.length)) (h5:FkA K H z) (h6:(bF wss N).length<=N) (h7:z.2.2.2.2∈lO wss (bF wss N)) (h8:z.2.2.2.2.1.1≠z.2.2.2.2.2.1.1) (h9:∀r H' p0 p1,Same H H'->H' r=!(.tup [.str (tP p0),.str (tP p1)])->Tw wss (oF z.2.2.2.2) (uK z.2.2.2.2) p0 p1->Ap p0 p1->p0.length<=wss.length+1->p1.length<=wss.length+1->Q (.ref r) H'):sp_f2 K vs H Q E
abbrev Kg (K:W.Frag):TS:=(aF (aP (aH (aO K) (aa 1) (tC (V.int 4))) (au 4))
  (b7 (aR (sp_f39 K) [] E0 (aj (bZ (aj (aa 2) (aj (aH fV (aa 2) (aH (aO K) (aa 4) (tC (V.int 0)))) aA))) (aj (aH (aO K) (aa 3) (tC (V.int 0))) (aj (aH kO (cF (cg K) (aj (aH (aO K) (aa 3) (tC (V.int 1))) aA)) (cF (cg K) (aj (aH (aO K) (aa 4) (tC (V.int 1))) aA))) aA))))))
def G7 (K:W.Frag) (E:XK) (Eh:XK):TS:=(aF (aP (gw (aR (sp_f0 K) [] E0 (aj (aa 0) aA)) (aH (aO K) (aa 1) (tC (V.int 2)))) (au 2))
  (aF (aP (aH (aO K) (aa 1) (tC (V.int 3))) (au 3))
  (Kg K)))
theorem Vk (h:sp_f2 K vs H Q E):∃Eh,G7 K E Eh {nx:=λ_ H'=>Q .non H',rt:=Q} (start ["ways","fork","text","way","later"] vs) H:=by
 let#[wa,a,z,N,rfl,hW,ad,R,n,hz,hN,U,X,q]:=h;show#[E0,?_];unfold G7;let#[f1,f2,#[c1,L,g2],#[c2,S,g4]]:=id hz;dsimp only at L g2 S g4;let#[Y,m1,m2]:=G6 U;have A:∀f∈a,∀w∈f,w.1.length<=1:=λf b w d=>by let#[k,e]:=((n f b).2 w d).1;rw[e];show Ã _
 have u:∀{r:Nat} {w:cX},w∈a.getD r []->∃f∈a,w∈f:=λ{r w} d=>by rw[Æ]at d;cases e:a[r]?with
  |none=>rw[e]at d;cases d|some f=>rw[e]at d;show#[f,Zs e,d]
 have ae:∀{p:List cX},Wk a p->∀w∈p,Hs.Sg w.1:=λh w d=>by let#[i,hi,e]:=ó.mp d;let#[f,b,d]:=u (h i w (by rw[Zz hi,e]));show((n f b).2 w d).1
 symm;show#[wa,a,rfl,hW,ad,R,λf b=>#[(n f b).1,λw d=>#[A f b w d,((n f b).2 w d).2]],λtd H1 M ps C ai D W hM T=>?_];have J:bF a M=bF a N:=oA hM hN;let#[al,mt,ev]:=qY (ps:=ps) (r:=z.2.2.2.2.2.2) (by rw[D,J];show Y);have af:ps.length<=a.length:=by
  have h1:ps.length=(bF a M).length:=by rw[<-D,Qb]
  have h2:=cZ (l:=bF a M) (m:=(List.range a.length).map λi:Nat=>(i:Int)) (dY _ _ M) λr mr=>by
   let#[h0,h1]:=dB (P:=λr:Int=>0<=r/\r<a.length) #[by decide,()] (λp q' hp hq=>by let#[w,d,rfl]:=Zl.mp hq;let#[f,b,d]:=u d;show((n f b).2 w d).2) M r mr;show Zl.mpr #[r.toNat,í.mpr (),()]
  rw[Qb,ù]at h2;rfl'
 let#[O,g,s,t,x]:=T _ mt;dsimp only at O t x;subst x;have ah:z.2.2.2.2.2.1.1.length<=1:=by let#[f,b,d]:=u m2;show A f b _ d
 have ak:z.2.2.2.2.1.1.length<=1:=by let#[f,b,d]:=u m1;show A f b _ d
 have ag:=rM (ae s);symm;show eG (C.get f1) ?_;show#[td,_,rfl,.inl #[_,_,.inl W,rfl,ev.symm],?_];symm;show dW (SqT.of (C.get f1)) (aX (j:=3) (v:=.ref z.2.2.1) rfl) ?_;symm;show dW (SqT.of (C.get f1)) (aX (j:=4) (v:=.ref z.2.2.2.1) rfl) ?_;symm;show cM (C.get S) ?_;symm;show nT () ?_;symm;intro I Z;symm;rw[<-jt];have y:=C.new (o:=.tup [.str (tP g),.str (tP (g++[z.2.2.2.2.2.1]))]) Z;have F:upd H1 I (.tup [.str (tP g),.str (tP (g++[z.2.2.2.2.2.1]))]) I=!(.tup [.str (tP g),.str (tP (g++[z.2.2.2.2.2.1]))]):=ao;generalize upd H1 I (.tup [.str (tP g),.str (tP (g++[z.2.2.2.2.2.1]))])=H2 at y F⊢;show cM (y.get L) ?_;symm;show bV (y.get L) ?_;symm;show bL (SqT.of (y.get g2)) ?_;symm;show bV (y.get S) ?_;symm;show bL (SqT.of (y.get g4)) ?_;symm;show#[I,_,_,_,_,rfl,F,(),λr H3 s3 B=>?_];have t0:Tw a (z.2.2.2.2.2.2,z.2.2.2.2.2.1.2.2,z.2.2.2.2.2.1.2.1) 0 g (g++[z.2.2.2.2.2.1]):=#[s,s.add (by rw[t];show m2),t,jc _ _,_,jd _ _,rfl,Mm.pX _];have G:=t0.step m1;rw[Δ]at G;have a0:Ap (g++[z.2.2.2.2.1]) (g++[z.2.2.2.2.2.1]):=#[g.length,_,_,by rw[ú (Ã _),Nat.sub_self];rfl,by rw[ú (Ã _),Nat.sub_self];rfl,X];rw[Qb,Qb]at B;by_cases c:z.2.2.2.2.1.2.1.length<=z.2.2.2.2.2.1.2.1.length;.rw [if_neg (by simpa using c),<-jt]at B;rw[if_pos c,if_pos c]at G;show q r H3 _ _ (y.trans s3) B G a0 (by rw[À,Õ];rfl') (by rw[À,Õ];rfl')
 .rw [if_pos (by simpa using c),<-jt]at B;rw[if_neg c,if_neg c]at G;show q r H3 _ _ (y.trans s3) B G a0.symm (by rw[À,Õ];rfl') (by rw[À,Õ];rfl')
theorem QD (n:Nat):Sh n .none:=#[by simp[PyData.canLay0],by simp[PyData.depth]]
theorem XQ {x y z:PyData} (b:Sh n x) (c:Sh n y) (e:Sh n z):Sh (n+1) (.tuple [x,y,z]):=gh λd a=>by simp only[Å,æ,ď]at a;rcases a with rfl|rfl|rfl<;>assumption
theorem rEqD.intsT {K:W.Frag} {a:Addr} {ns:List Int} (e:SqT K H a (ns.map V.int)) (f:SqT K H b (ms.map V.int)) (q:Q (.bl (decide (ns=ms))) H):rEqD K (.ref a) (.ref b) H Q:=by
 have c:∀ns:List Int,Sh 1 (.tuple (ns.map PyData.int)):=λns=>gh λx d=>by let#[y,_,rfl]:=Zl.mp d;show dZ _ _
 show#[_,_,Dp.intsT e,Dp.intsT f,(c ns).shaped (by decide),(c ms).shaped (by decide),?_];rw[show PyData.eqv (.tuple (ns.map PyData.int)) (.tuple (ms.map PyData.int))=decide (ns=ms)by simp only[PyData.eqv];show gB ns ms];show q
theorem rNeD.intsT {K:W.Frag} {a:Addr} {ns:List Int} (e:SqT K H a (ns.map V.int)) (f:SqT K H b (ms.map V.int)) (q:Q (.bl (not (decide (ns=ms)))) H):rNeD K (.ref a) (.ref b) H Q:=by
 have c:∀ns:List Int,Sh 1 (.tuple (ns.map PyData.int)):=λns=>gh λx d=>by let#[y,_,rfl]:=Zl.mp d;show dZ _ _
 show#[_,_,Dp.intsT e,Dp.intsT f,(c ns).shaped (by decide),(c ms).shaped (by decide),?_];rw[show PyData.eqv (.tuple (ns.map PyData.int)) (.tuple (ms.map PyData.int))=decide (ns=ms)by simp only[PyData.eqv];show gB ns ms];show q
theorem Lj {d:St} {D:Ends} {c:TT} {a b:TS} {v:Bool} (h:∀R:Bool->Hp->Prop,(∀H',Same H H'->R v H')->c d H R) (k:∀H',Same H H'->if v=true then a D d H' else b D d H'):bW c a b D d H:=h _ k
noncomputable def wO:Option (Nat×Nat)->List V
 |none=>[.non,.non]|some k=>[.int (k.1:Nat),.int (k.2:Nat)]
inductive sp_f35 (K:W.Frag) (vs:List V) (H:Hp) (Q:VK) (E:XK):Prop|mk (sa fa ra:Addr) (zs:List (Addr×Str×Nat×Sd)) (fz:List Fq) (k:Nat×Nat) (h0:vs=[.ref sa,.ref fa,.ref ra]) (h1:H sa=!(.lst (zs.map λz=>V.ref z.1))) (h2:(∀z∈zs,SpT K H z.1 z.2)) (h3:FdT K H fa fz) (h4:H ra=!(.tup [.int (k.1:Nat),.int (k.2:Nat)])) (h5:(∃z∈zs,∃v,jg fz z.2.2.2 v/\k=(v.1+z.2.2.1,v.2+1))) (h6:∀z∈zs,∀v,jg fz z.2.2.2 v->k=(v.1+z.2.2.1,v.2+1)->∀H',Same H H'->Q (.ref z.1) H'):sp_f35 K vs H Q E
def wQ (K:W.Frag) (E:XK) (Eh:XK):TS:=(aF (d9 (cO K (aa 0)) (au 3) (bW (aZ (aH (rEqD K) (vP (aa 1) (aH (aO K) (aa 3) (tC (V.int 2)))) (bZ (aj (aH jO (aH (aO K) (aa 2) (tC (V.int 0))) (aH (aO K) (aa 3) (tC (V.int 1)))) (aj (aH jO (aH (aO K) (aa 2) (tC (V.int 1))) (tC (V.int 1))) aA))))) (b7 (aa 3)) bh))
  (b7 (tC V.non)))
theorem QF (h:sp_f35 K vs H Q E):∃T,wQ K E T {nx:=λ_ H'=>Q .non H',rt:=Q} (start ["steps","found","rest","step"] vs) H:=by
 let#[Z,P,ra,zs,l,k,rfl,w,hz,r,u,M,q]:=h;show#[E0,?_];unfold wQ;symm;show gD (λz:Addr×Str×Nat×Sd=>V.ref z.1) (zs:=zs) (SqL.of w) (λi G H'=>Same H H'/\(∀z∈zs.take i,∀v,jg l z.2.2.2 v->k≠(v.1+z.2.2.1,v.2+1))/\∃L,G=[!(.ref Z),!(.ref P),!(.ref ra),L]) #[Same.refl _,by simp,_,rfl] ?_ ?_ ?_;.rintro i G H' ⟨s,_⟩;show SqL.of (s.get w)
 .rintro i z G H' hi ⟨s,b,L,rfl⟩;have I:=Zs hi;let#[c,S,X]:=hz z I;symm;show#[P,_,rfl,.inl (s.get r.d),?_];symm;show eG (s.get S) ?_;show#[_,SGet.ofR (.inl (s.get r.d)) (jE λf j=>(r.s f j).1.same s) (X.same s).a,?_];symm;show cM (s.get u) ?_;symm;show bV (s.get S) ?_;symm;show bV (s.get u) ?_;symm;intro p W;have A:=s.new (o:=.tup [.int ((k.1:Int)-(z.2.2.1:Int)),.int ((k.2:Int)-1)]) W;have J:upd H' p (.tup [.int ((k.1:Int)-(z.2.2.1:Int)),.int ((k.2:Int)-1)]) p=!(.tup ([(k.1:Int)-(z.2.2.1:Int),(k.2:Int)-1].map V.int)):=ao;generalize upd H' p (.tup [.int ((k.1:Int)-(z.2.2.1:Int)),.int ((k.2:Int)-1)])=H2 at A J⊢;have C:∀(R:∀v,jg l z.2.2.2 v->k≠(v.1+z.2.2.1,v.2+1)),∀y∈zs.take (i+1),∀v,jg l y.2.2.2 v->k≠(v.1+y.2.2.1,v.2+1):=λR y t=>by
   rw[Ø,hi]at t;rcases Â.mp t with t|t;.show b y t
   .have:y=z:=by simpa using t
    rw[this];show R
  by_cases m:z.2.2.2∈l.map (·.2.1)
  .obtain ⟨f,j,O⟩:=Zl.mp m;have N:∀v,jg l z.2.2.2 v->v=f.2.2.2:=λv ⟨g,mg,D,F⟩=>by rw[<-F,di r.n mg j (D.trans O.symm)]
   have U:cR (cu (jF l)) (dG z.2.2.2)=!(V.ref f.2.2.1):=by rw[<-O];show fQ (zs:=jF l) (z:=(f.1,f.2.1,f.2.2.1)) (by rw[fU];show r.n) (Zl.mpr #[f,j,rfl])
   rw[U];have Y:H2 f.2.2.1=!(.tup ([(f.2.2.2.1:Int),(f.2.2.2.2:Int)].map V.int)):=A.get (r.s f j).2;show rEqD.intsT (SqT.of Y) (SqT.of J) ?_;show#[_,rfl,?_];show gb (λc=>?_) λc=>?_
   .symm;have B:k=(f.2.2.2.1+z.2.2.1,f.2.2.2.2+1):=by
     injection c with c1 c2;injection c2 with c2;show ω (by change k.1=_;rfl') (by change k.2=_;rfl')
    show q z I f.2.2.2 #[f,j,O,rfl] B _ A
   .symm;show#[A,C λv hv B=>c ?_,_,rfl];rw[N v hv]at B;have D:=ß Prod.fst B;have F:=ß Prod.snd B;dsimp only at D F;rw[show(k.1:Int)-(z.2.2.1:Int)=(f.2.2.2.1:Int)by rfl',show(k.2:Int)-1=(f.2.2.2.2:Int)by rfl']
  .rw [gk (by rw[fU];show m)];show#[_,_,.non,Dp.intsT (SqT.of J),(QD 1).shaped (by decide),(gh (n:=0) λx mx=>?_).shaped (by decide),?_];.obtain ⟨y,_,rfl⟩:=Zl.mp mx;show dZ _ _
   symm;rw[show PyData.eqv .none (.tuple ([(k.1:Int)-(z.2.2.1:Int),(k.2:Int)-1].map PyData.int))=false by simp[PyData.eqv],if_neg (by decide)];symm;show#[A,C λv ⟨f,j,e,_⟩=>absurd (Zl.mpr #[f,j,e]) m,_,rfl]
 .rintro G H' ⟨s,b,L,rfl⟩;rw[ä]at b;let#[z,I,v,D,F]:=M;show absurd F (b z I v D)
theorem uB {i:Sd->Prop} {B:Nat->Sd->Sd->Prop} {F:Sd->Nat×Nat->Prop} (h:Dj i B F (λ_ _=>False)):∀(n:Nat) (x:Sd) (k:Nat×Nat),k.2=n->F x k->∃l:List (Sd×(Nat×Nat)),l.length=n+1/\(∀p∈l,F p.1 p.2/\p.2.2<=n)/\(l.map λp=>p.2.2).Nodup
 |0,x,k,e,hf=>#[[(x,k)],rfl,λp a=>by rw[Zp.mp a];show#[hf,Nat.le_of_eq e],by simp]|n+1,x,k,e,hf=>by
  rcases h.s x k (.inl hf)with⟨_,rfl⟩|⟨c,y,v,_,hy,rfl⟩;.cases e
  .obtain ⟨l,g,b,d⟩:=uB h n y v (Nat.succ.inj e) hy;show#[(x,(v.1+c,v.2+1))::l,by rw[é,g],λp a=>?_,?_]
   .rcases Å.mp a with rfl|a;.show #[hf,Nat.le_of_eq e]
    .show #[(b p a).1,Nat.le_succ_of_le (b p a).2]
   .rw [Ä,Ĉ];show#[λm=>?_,d];let#[p,a,f]:=Zl.mp m;have:=(b p a).2;dsimp only at f e;rfl'
theorem uC {B:Nat->Sd->Sd->Prop} (h:Dj ev B (jg fz) (λ_ _=>False)) (g:jg fz x k):k.2<fz.length:=by
 let#[l,a,d,j]:=uB h _ x k rfl g;have:=cZ (l:=l.map λp=>p.2.2) (m:=fz.map λf=>f.2.2.2.2) j λy i=>by let#[p,b,rfl]:=Zl.mp i;let#[f,c,_,e]:=(d p b).1;show Zl.mpr #[f,c,by rw[e]]
 rw[Qb,Qb,a]at this;show this
inductive sp_f38 (K:W.Frag) (vs:List V) (H:Hp) (Q:VK) (E:XK):Prop|mk (f oa fa sa ta:Addr) (h:Nat) (ls:List (Str×List Nat)) (gz:List Gz) (wss:List (List cX)) (es:List Int) (fz:List Fq) (x:Sd) (k:Nat×Nat) (n c:Nat) (h0:vs=[.ref f,.ref oa,.ref fa,.ref sa,.ref ta]) (h1:FnF K H f h ls) (h2:Fo.Wf h ls) (h3:Rd H oa (bA oa (cu gz))) (h4:(∀z∈gz,StT K H z.1 z.2.1/\SsT K H z.2.2 (uJ ls wss z.2.1))) (h5:(gz.map (·.2.1)).Nodup) (h6:(∀ws∈wss,∀w∈ws,Fo.lk ls w.1=!w.2.1/\Hs.Sg w.1)) (h7:FdT K H fa fz) (h8:fz.length<=100000) (h9:Dj (wJ es (gz.map (·.2.1))) (ux (uJ ls wss) (gz.map (·.2.1))) (jg fz) (λ_ _=>False)) (h10:StT K H sa x) (h11:jg fz x k) (h12:n<=200) (h13:(∃p0 p1,H ta=!(.tup [.str (tP p0),.str (tP p1)])/\Tw wss x c p0 p1/\Ap p0 p1/\p0.length<=n/\p1.length<=n)) (h14:∀r H' y p0 p1,Same H H'->H' r=!(.tup [.str (tP p0),.str (tP p1)])->Tw wss y (c+k.1) p0 p1->jf es y=true->Ap p0 p1->p0.length<=n+k.2->p1.length<=n+k.2->Q (.ref r) H'):sp_f38 K vs H Q E
abbrev G8 (K:W.Frag):TS:=(aF (aP (aR (sp_f39 K) [] E0 (aj (aa 4) (aj (aH (aO K) (aa 6) (tC (V.int 0))) (aj (aH kO (cF (cg K) (aj (gw (aa 5) (aH (aO K) (aa 6) (tC (V.int 0)))) aA)) (cF (cg K) (aj (aH (aO K) (aa 3) (tC (V.int 2))) aA))) aA)))) (au 4))
  (aP (aH (aO K) (aa 6) (tC (V.int 2))) (au 3)))
abbrev G9 (K:W.Frag):TS:=(aF (fc (aZ (aH (rNeD K) (gQ (aa 2) (aa 3)) (bZ (aj (tC (V.int 0)) (aj (tC (V.int 0)) aA))))) (aF (aP (aR (sp_f35 K) [] E0 (aj (gQ (aa 1) (aa 3)) (aj (aa 2) (aj (gQ (aa 2) (aa 3)) aA)))) (au 6))
  (G8 K)))
  (b7 (aa 4)))
def wR (K:W.Frag) (E:XK) (Eh:XK):TS:=(aF (aP (cF (gC K) (aj (aH (aO K) (aa 0) (tC (V.int 1))) aA)) (au 5))
  (G9 K))
theorem QG (h:sp_f38 K vs H Q E):∃Eh,wR K E Eh {nx:=λ_ H'=>Q .non H',rt:=Q} (start ["font","onward","found","stand","texts","letters","step"] vs) H:=by
 let#[f,oa,fa,sa,S,h,ls,gz,B,es,fz,x,k,n,c,rfl,hF,wf,bg,ai,a9,ae,b,br,hD,t,hk,hn,#[G,I,F,tw,Z,l0,l1],q]:=h;show#[E0,?_];unfold wR;let#[l,ob,W,h1,ez,a7,h3,h4]:=id hF;symm;show bV h1 ?_;symm;have as:(W.map (·.2.1)).Nodup:=by have:=jY wf.up;rw[<-ez,Á]at this;show this
 have bn:=wf.le;have bl:W.length=ls.length:=by rw[<-ez,Qb]
 show j8 (zs:=W.map λz:Lz=>(z.1,z.2.1,V.ref z.2.2.1)) a7 (by rw[Á];show h3) (λz m=>?_) (by rw[Á];show as) (by rw[Qb];rfl') λpc a8=>?_;.obtain ⟨y,my,rfl⟩:=Zl.mp m;show SqT.of (h4 y my).1
 rw[Á];let#[H1,J]:∃H1,H1=upd H pc (HO.dK (W.map ((λz:Addr×Str×V=>((Sum.inr z.2.1:Key),z.2.2))∘λz:Lz=>(z.1,z.2.1,V.ref z.2.2.1)))):=#[_,rfl];have s1:Same H H1:=by rw[J];show aB a8 _
 have bi:H1 pc=!(.dK (W.map λz:Lz=>((Sum.inr z.2.1:Key),V.ref z.2.2.1))):=by rw[J];show ao
 rw[<-J];clear J;symm;walk_at "ns";have bq:=uC hD hk;have a2:∀{H':Hp},Same H H'->Rd H' oa (bA oa (cu gz)):=λs=>by
  rcases bg with e|⟨od,e⟩;.show .inl (s.get e)
  .show .inr #[od,s.get e]
 have a1:∀{H':Hp},Same H H'->∀p∈cu gz,StA H' p.1 p.2.1:=λs p mp=>by let#[g,mg,rfl]:=Zl.mp mp;show((ai g mg).1.same s).a
 have af:∀{H':Hp},Same H H'->∀p∈cu (jF fz),StA H' p.1 p.2.1:=λs=>jE λf T=>(b.s f T).1.same s;have ag:∀{r:Nat} {w:cX},w∈B.getD r []->∃R∈B,w∈R:=λ{r w} C=>by rw[Æ]at C;cases e:B[r]?with
  |none=>rw[e]at C;cases C|some R=>rw[e]at C;show#[R,Zs e,C]
 have bd:∀{p:List cX},Wk B p->∀w∈p,Hs.Sg w.1:=λh w C=>by let#[i,hi,e]:=ó.mp C;let#[R,P,C]:=ag (h i w (by rw[Zz hi,e]));show(ae R P w C).2
 show jZ (λm σ H'=>Same H1 H'/\∃(sa S:Addr) (x:Sd) (u:Nat×Nat) (d:Nat) (G I:List cX) (o6:Option V),StT K H' sa x/\jg fz x u/\u.2=m/\H' S=!(.tup [.str (tP G),.str (tP I)])/\Tw B x d G I/\d+u.1=c+k.1/\Ap G I/\G.length+m<=n+k.2/\I.length+m<=n+k.2/\σ=[!(.ref f),!(.ref oa),!(.ref fa),!(.ref sa),!(.ref S),!(.ref pc),o6]) k.2 #[Same.refl _,sa,S,x,k,c,G,I,_,t.same s1,hk,rfl,s1.get F,tw,rfl,Z,(),(),rfl] ?_ ?_
 .clear F tw Z l0 l1 t;rintro m σ H' N ⟨s,sa,S,x,A,d,G,I,o6,t,L,rfl,F,tw,ed,Z,l0,l1,rfl⟩ hN;have bp:=rM (bd tw.1);have sH:=s1.trans s;let#[D,T,ef,ek]:=id L;have ev:cR (cu (jF fz)) (dG x)=!(V.ref D.2.2.1):=by rw[<-ef];show fQ (zs:=jF fz) (z:=(D.1,D.2.1,D.2.2.1)) (by rw[fU];show b.n) (Zl.mpr #[D,T,rfl])
  have M:H D.2.2.1=!(.tup [.int (A.1:Nat),.int (A.2:Nat)]):=by rw[<-ek];show(b.s D T).2
  symm;show#[fa,.ref D.2.2.1,rfl,by rw[<-ev];show SGet.of (sH.get b.d) (af sH) t.a,?_];symm;intro p hp;have j:=sH.new (o:=.tup [.int 0,.int 0]) hp;have Y:=aB (o:=.tup [.int 0,.int 0]) hp;have ep:upd H' p (.tup [.int 0,.int 0]) p=!(.tup ([(0:Int),0].map V.int)):=ao;generalize upd H' p (.tup [.int 0,.int 0])=H2 at j Y ep⊢;have e3:H2 D.2.2.1=!(.tup ([(A.1:Int),(A.2:Int)].map V.int)):=j.get M;show rNeD.intsT (SqT.of e3) (SqT.of ep) ?_;show#[_,rfl,?_];show pZ (λc=>?_) λc=>?_
  .have ax:x∈gz.map (·.2.1):=by
    rcases hD.s x A (.inl L)with h|⟨_,_,_,h,_⟩;.show h.1.1
    .show h.1
   let#[g,mg,eg]:=Zl.mp ax;let#[_,zs,z1,z2,z3]:=ai g mg;have ay:cR (cu gz) (dG x)=!(V.ref g.2.2):=by rw[<-eg];show fQ a9 mg
   symm;show#[oa,.ref g.2.2,rfl,by rw[<-ay];show SGet.ofR (a2 j) (a1 j) (t.same Y).a,?_];symm;show#[fa,.ref D.2.2.1,rfl,by rw[<-ev];show SGet.of (j.get b.d) (af j) (t.same Y).a,?_];symm;have ar:∃z∈zs,∃v,jg fz z.2.2.2 v/\A=(v.1+z.2.2.1,v.2+1):=by
    rcases hD.s x A (.inl L)with⟨_,rfl⟩|⟨c',y,v,⟨_,sg,ms⟩,hv,e⟩;.show absurd rfl c
    .have:(sg,c',y)∈zs.map (·.2):=by rw[z1,show g.2.1=x from eg];show ms
     let#[z,mz,ad]:=Zl.mp this;show#[z,mz,v,by rw[ad];show hv,by rw[ad];show e]
   show#[g.2.2,fa,D.2.2.1,zs,fz,A,rfl,j.get z2,λz mz=>(z3 z mz).same j,#[j.get b.d,λf T=>#[(b.s f T).1.same j,j.get (b.s f T).2],b.n],j.get M,ar,λz mz v hv ak H3 s3=>?_];let#[c',y1,y2]:=(z3 z mz).same (j.trans s3);have a5:z.2∈uJ ls B x:=by rw[<-show g.2.1=x from eg,<-z1];show Zl.mpr #[z,mz,rfl]
   let#[w,C,ew]:=Zl.mp a5;let#[R,P,a3]:=ag C;let#[ah,av]:=ae R P w a3;have bk:w.1.length<=1:=by let#[k,e]:=av;rw[e];show Ã _
   have O:z.2.1=w.1:=by rw[<-ew];rfl
   have a4:z.2.2.1=cst x.2.2 w.2.1:=by rw[<-ew];rfl
   have aw:z.2.2.2=m8 w x.2.1 x.2.2:=by rw[<-ew];rfl
   rw[<-O]at ah bk;symm;show cM y1 ?_;symm;show cM y1 ?_;symm;let#[lw,be,am,al]:=iH (zs:=W) (s:=z.2.1) (by rw[show W.map (λz:Lz=>(z.2.1,z.2.2.2))=ls from ez];show ah);have bb:=j.trans s3;have U:=(s.trans Y).trans s3;show#[pc,.ref lw.2.2.1,rfl,by rw[<-al];show DGet.k (k:=Sum.inr z.2.1) (U.get bi),?_];symm;show bL (SqT.of (bb.get (h4 lw be).2)) ?_;let#[sc,u1,u2]:=(t.same Y).same s3;symm;show eG u1 ?_;symm;show bL (SqT.of u2) ?_;symm;have bw:A.2=v.2+1:=by rw[ak]
   have bo:A.1=v.1+z.2.2.1:=by rw[ak]
   show#[S,_,_,z.2.1,_,rfl,s3.get (Y.get F),(),λr H4 s4 M=>?_];symm;show eG (s4.get y1) ?_;symm;have t1:=tw.step C;rw[<-a4,<-aw]at t1;rw[Qb,Qb,am]at M;by_cases cc:w.2.1.length<=x.2.2.length;.rw [if_neg (by simpa using cc),O,<-jt]at M;rw[if_pos cc,if_pos cc]at t1;show hN v.2 _ _ () #[U.trans s4,c',r,z.2.2.2,v,_,G++[w],I,_,y2.same s4,hv,rfl,M,t1,(),Z.snoc w,by rw[À,Õ];rfl',(),rfl]
   .rw [if_pos (by simpa using cc),O,<-jt]at M;rw[if_neg cc,if_neg cc]at t1;show hN v.2 _ _ () #[U.trans s4,c',r,z.2.2.2,v,_,I,G++[w],_,y2.same s4,hv,rfl,M,t1,(),(Z.snoc w).symm,(),by rw[À,Õ];rfl',rfl]
  .symm;have X:A.1=0/\A.2=0:=by
    have c2:[(A.1:Int),(A.2:Int)]=[0,0]:=by simpa using c
    injection c2 with c3 c4;injection c4 with c4;show#[(),()]
   have a6:jf es x=true:=by
    rcases hD.s x A (.inl L)with h|⟨_,_,_,_,_,e⟩;.show h.1.2
    .rw [e]at X;show absurd X.2 (Nat.succ_ne_zero _)
   show q S _ x G I j (Y.get F) ?_ a6 Z () ();rw[<-ed,X.1];show tw
 .show m6 (kh (K9 K) (λσ H Q Q' hq z=>by let#[v,e,w,e',a,u,h1,h2,h3]:=z;show#[v,e,w,e',a,u,h1,h2,hq _ _ h3]) (λσ H Q Q' hq z=>#[z.1,λp hp=>hq _ _ (z.2 p hp)]))
noncomputable def XR (st:Sd):PySem.PyData:=.tuple [.int st.1,.int st.2.1,.tuple ((st.2.2.map λn:Nat=>(n:Int)).map PySem.PyData.int)]
theorem QH (st:Sd):Sh 2 (XR st):=gh λd a=>by
 simp only[Å,æ,ď]at a;rcases a with rfl|rfl|rfl;.show dZ 1 _
 .show dZ 1 _
 .show gh λd a=>by let#[i,_,rfl]:=Zl.mp a;show dZ 0 i
theorem Vl {K:W.Frag} {a:Addr} {st:Sd} (h:StT K H a st):Dp K H (.ref a) (XR st):=by let#[c,b,d]:=h;show .tup (SqT.of b) (.cons (.int _) (.cons (.int _) (.cons (Dp.intsT (SqT.of ?_)) .nil)));rw[d,Á];rfl
theorem leP.anti {l:Nat×Nat} (h:leP k l) (g:leP l k):k=l:=by let#[a,b]:=k;let#[c,d]:=l;unfold leP at h g;dsimp only at h g;rw[show a=c by rfl',show b=d by rfl']
theorem Dj.le {B:Nat->Sd->Sd->Prop} {F:Sd->Nat×Nat->Prop} (h:Dj ev B F (λ_ _=>False)) (h':Dj ev B F' (λ_ _=>False)):∀(n:Nat) x k,k.2=n->F x k->∃g,F' x g/\leP g k:=by intro n;induction n with
 |zero=>
  intro x k a f;rcases h.s x k (.inl f)with⟨he,rfl⟩|⟨c,y,v,hB,hy,rfl⟩;.show #[_,(h'.e x he).resolve_right id,leP.refl _]
  .cases a|succ n ih=>
  intro x k a f;rcases h.s x k (.inl f)with⟨he,rfl⟩|⟨c,y,v,hB,hy,rfl⟩;.show #[_,(h'.e x he).resolve_right id,leP.refl _]
  .obtain ⟨l,d,lv⟩:=ih y v (Nat.succ.inj a) hy;let#[u,i,j]:=(h'.b c x y l hB d).resolve_right id;show#[u,i,j.trans (by unfold leP at lv⊢;dsimp only;rfl')]
theorem Dj.uni {B:Nat->Sd->Sd->Prop} {F:Sd->Nat×Nat->Prop} (h:Dj ev B F (λ_ _=>False)) (h':Dj ev B F' (λ_ _=>False)) (u:∀x k l,F x k->F x l->k=l) (b:F x k):F' x k:=by let#[e,g,d]:=h.le h' _ x k rfl b;let#[c,f,a]:=h'.le h _ x e rfl g;rw[<-u x k c b f]at a;rw[a.anti d];show g
def LsO (wss:List (List cX)) (N:Nat) (F:Sd->Nat×Nat->Prop):Option Nat->Prop
 |none=>∀z∈lO wss (bF wss N),∀k,¬F (oF z) k|some L=>(∃z∈lO wss (bF wss N),∃k,F (oF z) k/\L=uK z+k.1)/\∀z∈lO wss (bF wss N),∀k,F (oF z) k->L<=uK z+k.1
theorem LsO.uni {a:List (List cX)} {N:Nat} {F:Sd->Nat×Nat->Prop} {o:Option Nat} (h:LsO a N F o) (h':LsO a N F o'):o=o':=by cases o with
 |none=>cases o' with
  |none=>rfl|some L=>
   let#[#[z,c,k,b,_],_]:=h';show absurd b (h z c k)
 |some L=>
  let#[#[z,c,k,b,e],l]:=h;cases o' with|none=>show absurd b (h' z c k)|some L'=>let#[#[i,d,j,f,p],g]:=h';have m:=l i d j f;have n:=g z c k b;rw[show L=L' by rfl']
def Told (wss:List (List cX)) (es:List Int) (L n:Nat) (t0 t1:Str):Prop:=∃p0 p1,t0=tP p0/\t1=tP p1/\t0.cps.toList<t1.cps.toList/\(Wk wss p0/\rP p0∈es/\p0.length<=n)/\(Wk wss p1/\rP p1∈es/\p1.length<=n)/\(stP p0).length=(stP p1).length/\Mm.dw (stP p0) (stP p1)=L
theorem Kh {f:List (List cX)} {L:Nat} (q:∀s∈f,∀w∈s,Hs.Sg w.1) (G:Tw f y L p0 p1) (r:jf es y=true) (D:Ap p0 p1) (v:p0.length<=n) (z:p1.length<=n):Told f es L n (if(tP p1).cps.toList<(tP p0).cps.toList then tP p1 else tP p0) (if(tP p0).cps.toList<(tP p1).cps.toList then tP p1 else tP p0):=by
 let#[o,k,E,K,A,e,l,g]:=G;have m:∀{p:List cX},Wk f p->∀w∈p,Hs.Sg w.1:=λh w j=>by
  let#[i,hi,e]:=ó.mp j;have j:=h i w (by rw[Zz hi,e]);rw[Æ]at j;cases e:f[(rP (List.take i _)).toNat]?with|none=>rw[e]at j;cases j|some s=>rw[e]at j;show q s (Zs e) w j
 unfold jf at r;simp only[Ą,Κ]at r;let#[F,u,t]:=r;rw[ž.mp F,å]at e;rw[<-E]at u;rw[<-K]at t;rw[<-e]at l g;have I:(tP p0).cps.toList≠(tP p1).cps.toList:=λh=>by rw[yQ (m o),yQ (m k),nW,nW]at h;let#[i,a,b,B,C,J]:=D;have:=ß (·[i]?) h;rw[Xs,Xs,B,C]at this;have H:HX a=HX b:=Ô this;show J (by rw[rK (m o a (Zs B)),rK (m k b (Zs C)),H])
 by_cases c:(tP p0).cps.toList<(tP p1).cps.toList;.rw [if_neg (List.lt_asymm c),if_pos c];show#[p0,p1,rfl,rfl,c,#[o,u,v],#[k,t,z],l.symm,g]
 .have x:(tP p1).cps.toList<(tP p0).cps.toList:=Decidable.byContradiction λd=>I (List.le_antisymm (List.not_lt.mp d) (List.not_lt.mp c));rw[if_neg c,if_pos x];show#[p1,p0,rfl,rfl,x,#[k,t,z],#[o,u,v],l,by rw[Mm.jq];show g]
theorem uD (ls:List (Str×List Nat)):∀ps:L1S,((aN ls ps).map (·.1)).Sublist (ps.map (·.1))
 |[]=>List.Sublist.refl _|p::ps=>by have a:=uD ls ps;unfold aN at a⊢;rw[Ħ];cases e:Fo.lk ls p.1 with
  |none=>show a.cons _|some co=>show a.cons_cons _
def LsE (F:Sd->Nat×Nat->Prop) (l:List (Nat×Sd)):Option Nat->Prop
 |none=>∀e∈l,∀k,¬F e.2 k|some L=>(∃e∈l,∃k,F e.2 k/\L=e.1+k.1)/\∀e∈l,∀k,F e.2 k->L<=e.1+k.1
theorem LsE.ls {a:List (List cX)} {N:Nat} {F:Sd->Nat×Nat->Prop} {o:Option Nat} (h:LsE F ((lO a (bF a N)).map Sv) o):LsO a N F o:=by cases o with
 |none=>showλz b=>h _ (Zl.mpr #[z,b,rfl])
 |some L=>let#[#[e,c,k,d,f],g]:=h;let#[z,b,rfl]:=Zl.mp c;show#[#[z,b,k,d,f],λz b=>g _ (Zl.mpr #[z,b,rfl])]
theorem LsE.skip {F:Sd->Nat×Nat->Prop} {l:List (Nat×Sd)} {o:Option Nat} (h:LsE F l o) (c:∀k,F e.2 k->∃L,o=!L/\L<=e.1+k.1):LsE F (l++[e]) o:=by cases o with
 |none=>
  intro y a k b;rcases Â.mp a with a|a;.show h y a k b
  .rw [Zp.mp a]at b;let#[_,z,_]:=c k b;cases z|some L=>
  let#[#[y,a,d],f]:=h;show#[#[y,Ü _ a,d],λy a k b=>?_];rcases Â.mp a with a|a
  .show f y a k b
  .rw [Zp.mp a]at b⊢;let#[_,z,g]:=c k b;rw[Ô z];show g
theorem LsE.take {F:Sd->Nat×Nat->Prop} {l:List (Nat×Sd)} {o:Option Nat} (h:LsE F l o) (d:F e.2 k) (g:∀b,F e.2 b->b=k) (f:∀L,o=!L->e.1+k.1<=L):LsE F (l++[e]) !(e.1+k.1):=by
 show#[#[e,Ï _ Ì,k,d,rfl],λy c b a=>?_];rcases Â.mp c with c|c
 .cases o with
  |none=>show absurd a (h y c b)|some L=>show Û (f L rfl) (h.2 y c b a)
 .rw [Zp.mp c]at a⊢;rw[g b a];show Ã _
noncomputable def Sw (w:cX):PySem.PyData:=.tuple [.str w.1,.tuple ((w.2.1.map λn:Nat=>(n:Int)).map PySem.PyData.int),.int w.2.2]
noncomputable def WR (z:cX×cX×Int):PySem.PyData:=.tuple [.int (uK z:Nat),XR (oF z),.int z.2.2,Sw z.1,Sw z.2.1]
noncomputable def uI (c:Nat) (z:cX×cX×Int):PySem.PyData:=.tuple [.int (c:Nat),WR z]
theorem Ae (ns:List Int) (n:Nat):Sh (n+1) (.tuple (ns.map PySem.PyData.int)):=gh λd a=>by let#[i,_,rfl]:=Zl.mp a;show dZ n i
theorem Ga {w:cX} (h:Hs.Sg w.1):Sh 2 (Sw w):=XQ (V9 1 h) (Ae _ 0) (dZ 1 _)
theorem QJ (b:Hs.Sg z.1.1) (e:Hs.Sg z.2.1.1):Sh 4 (uI c z):=gh λd a=>by
 simp only[Å,æ,ď]at a;rcases a with rfl|rfl;.show dZ 3 _
 .show gh λd a=>?_;simp only[Å,æ,ď]at a;rcases a with rfl|rfl|rfl|rfl|rfl;.show dZ 2 _
  .show QH _
  .show dZ 2 _
  .show Ga b
  .show Ga e
theorem oE:∀ns ms:List Int,Nk.CmpDs (ns.map PySem.PyData.int) (ms.map PySem.PyData.int)
 |[],_=>.nil|_::_,[]=>.over|n::ns,m::ms=>.cons (.int n m) (oE ns ms)
theorem yR (v w:cX):Nk.CmpD (Sw v) (Sw w):=.tup (.cons (.str _ _) (.cons (.tup (oE _ _)) (.cons (.int _ _) .nil)))
theorem Kl (c d:Nat) (y z:cX×cX×Int):Nk.CmpD (uI c y) (uI d z):=.tup (.cons (.int _ _) (.cons (.tup (.cons (.int _ _) (.cons (.tup (.cons (.int _ _) (.cons (.int _ _) (.cons (.tup (oE _ _)) .nil)))) (.cons (.int _ _) (.cons (yR _ _) (.cons (yR _ _) .nil)))))) .nil))
noncomputable def Gb:PySem.PyData->Int
 |.tuple (.int c::_)=>c|_=>0
theorem QK (c d:Nat) (y z:cX×cX×Int):(Nk.qP (uI c y) (uI d z)=true->Gb (uI c y)<=Gb (uI d z))/\(Nk.qP (uI c y) (uI d z)=false->Gb (uI d z)<=Gb (uI c y)):=by
 have e:Nk.qP (uI c y) (uI d z)=if PyData.eqv (.int (c:Nat)) (.int (d:Nat))=true then Nk.qQ [WR y] [WR z]else decide ((c:Int)<(d:Int)):=by unfold uI;rw[Nk.qP,Nk.qQ,Nk.qP]
 rw[e];change(_->(c:Int)<=(d:Int))/\(_->(d:Int)<=(c:Int));by_cases h:(c:Int)=(d:Int);.show #[λ_=>Int.le_of_eq h,λ_=>Int.le_of_eq h.symm]
 .rw [if_neg (by simp[PyData.eqv];rfl')];show#[λh=>Int.le_of_lt (ò h),λh=>Int.not_lt.mp (ë h)]
theorem Lk {K:W.Frag} {z:Wz} (h:WyT H z):Dp K H (.ref z.1) (Sw z.2):=by let#[c,a,b]:=h;show .tup (SqT.of a) (.cons (.str _) (.cons (Dp.intsT (SqT.of ?_)) (.cons (.int _) .nil)));rw[b,Á];rfl
theorem Vm {K:W.Frag} {z:Fz} (h:FkA K H z):Dp K H (.ref z.1) (WR z.2.2.2.2):=.tup (SqT.of h.1) (.cons (.int _) (.cons (Vl h.2.1) (.cons (.int _) (.cons (Lk h.2.2.1) (.cons (Lk h.2.2.2) .nil)))))
inductive sp_f34 (K:W.Frag) (vs:List V) (H:Hp) (Q:VK) (E:XK):Prop|mk (f ha:Addr) (h:Nat) (ls:List (Str×List Nat)) (ds:L2S) (es:List Int) (h0:vs=[.ref f,.ref ha]) (h1:FnF K H f h ls) (h2:Fo.Wf h ls) (h3:HsG K H ha ds es) (h4:Ai ls ds) (h5:(∀ps∈ds,(ps.map (·.1)).Nodup)) (h6:∀N (S:List Sd) (fz:List Fq),(bF (ds.map (aN ls)) N).length<=N->(∀x,x∈S↔Mm.Rch (rC (ds.map (aN ls)) N) (wC (ds.map (aN ls))) x)->(fz.map (·.2.1)).Nodup->Dj (wJ es S) (ux (uJ ls (ds.map (aN ls))) S) (jg fz) (λ_ _=>False)->(LsO (ds.map (aN ls)) N (jg fz) none->∀H',Same H H'->Q .non H')/\∀r H' (L:Nat) t0 t1,Same H H'->H' r=!(.tup [.int (L:Nat),.str t0,.str t1])->LsO (ds.map (aN ls)) N (jg fz) !L->Told (ds.map (aN ls)) es L (ds.length+fz.length) t0 t1->Q (.ref r) H'):sp_f34 K vs H Q E
abbrev Ge (K:W.Frag):TS:=(aF (aP (aR (sp_f38 K) [] E0 (aj (aa 0) (aj (aa 3) (aj (aa 4) (aj (aH (aO K) (aH (aO K) (aa 6) (tC (V.int 1))) (tC (V.int 1))) (aj (aR (sp_f2 K) [] E0 (aj (aa 2) (aj (aH (aO K) (aa 6) (tC (V.int 1))) aA))) aA)))))) (au 7))
  (b7 (bZ (aj (aH (aO K) (aa 6) (tC (V.int 0))) (aj (cF (Ed K) (aj (aa 7) aA)) (aj (cF (Ef K) (aj (aa 7) aA)) aA))))))
abbrev Gf (K:W.Frag):TS:=(aF (aP (oR [none,!4] (cO K (aR (sp_f40 K) [] E0 (aj (aa 0) (aj (aa 2) aA)))) (au 0) (tB (Ol (aH (aO K) (aa 0) (tC (V.int 1))) (aa 1))) (bZ (aj (aH cD (aH (aO K) (aa 0) (tC (V.int 0))) (aH (aO K) (gQ (aa 1) (aH (aO K) (aa 0) (tC (V.int 1)))) (tC (V.int 0)))) (aj (aa 0) aA)))) (au 5))
  (aF (bW (aZ (aH oH (cF (cg K) (aj (aa 5) aA)) (tC (V.int 0)))) (b7 (tC V.non)) bh)
  (aF (aP (cF (qR K) (aj (aa 5) aA)) (au 6))
  (Ge K))))
def wU (K:W.Frag) (E:XK) (Eh:XK):TS:=(aF (aP (aR (sp_f33 K) [] E0 (aj (aa 0) (aj (aa 1) aA))) (au 2))
  (aF (aP (aR (sp_f27 K) [] E0 (aj (aa 0) (aj (aa 1) aA))) (au 3))
  (aF (aP (aR (sp_f43 K) [] E0 (aj (aa 3) (aj (aH (aO K) (aa 1) (tC (V.int 1))) aA))) (au 4))
  (Gf K))))
theorem QL (h:sp_f34 K vs H Q E):∃Eh,wU K E Eh {nx:=λ_ H'=>Q .non H',rt:=Q} (start ["font","house","ways","onward","found","pairs","least","texts"] vs) H:=by
 let#[f,ha,h,ls,ds,es,rfl,hF,wf,hH,sz,bk,q]:=h;show#[E0,?_];unfold wU;have ah:=rE wf sz;let#[cb,b5,ax,ci]:=id sz;have ag:(ds.map (aN ls)).length=ds.length:=Qb _;have O:∀A∈ds.map (aN ls),A.length<=18:=λA t=>by let#[ps,W,rfl]:=Zl.mp t;show Û (Ĳ ..) (ax ps W).1
 have ay:∀A∈ds.map (aN ls),∀w∈A,Fo.lk ls w.1=!w.2.1:=λA t w B=>by let#[ps,W,rfl]:=Zl.mp t;let#[p,mp,ep]:=ý.mp (show w∈ps.filterMap _ from B);let#[co,bl,rfl]:=á.mp ep;show bl
 have U:∀A∈ds.map (aN ls),∀w∈A,Hs.Sg w.1:=λA t w B=>wf.sg _ (ah A t w B).1.1;have br:∀A∈ds.map (aN ls),(A.map (·.1)).Nodup:=λA t=>by let#[ps,W,rfl]:=Zl.mp t;show(bk ps W).sublist (uD ls ps)
 have ce:∀A∈ds.map (aN ls),∀w∈A,w.1.length<=1:=λA t w B=>by let#[k,e]:=U A t w B;rw[e];show Ã _
 have D:∀{r:Nat} {w:cX},w∈(ds.map (aN ls)).getD r []->∃A∈ds.map (aN ls),w∈A:=λ{r w} B=>by
  rw[Æ]at B;cases e:(ds.map (aN ls))[r]?with
  |none=>rw[e]at B;cases B|some A=>rw[e]at B;show#[A,Zs e,B]
 symm;show#[f,ha,h,ls,ds,es,rfl,hF,wf,hH,(),λps W=>by have:=(ax ps W).1;rfl',λwa H1 s1 b6 hW=>?_];symm;show#[f,ha,h,ls,ds,es,rfl,hF.same s1,wf,hH.same s1,sz,λoa H2 N gz s2 b0 hN e2 hg hl a9 hR=>?_];symm;let#[d,e,rs,a1,a2,a3,a4,a5]:=(hH.same s1).same s2;show bV a1 ?_;symm;show#[oa,e,gz,uJ ls (ds.map (aN ls)),es,rfl,.inl e2,λz F=>#[(hg z F).1,(hg z F).2,?_],a9,hl,λz F u C=>?_,SqT.of a5,λod fa H3 L a6 bp b9 I hD=>?_];.rw [Qb,Æ];cases e:(ds.map (aN ls))[z.2.1.1.toNat]?with
  |none=>show ñ _|some A=>show O A (Zs e)
 .show (hR _).mpr (.step ((hR _).mp (Zl.mpr #[z,F,rfl])) ?_);let#[w,B,rfl]:=Zl.mp C;show Zl.mpr #[w,B,rfl]
 let#[qn,qs]:=q N (gz.map (·.2.1)) L hN hR I.n hD;have S3:Same H1 H3:=λb o e=>a6 b o (λm=>by rw[Zp.mp m,b0]at e;cases e) (s2.get e);have bg:∀z∈gz,StT K H3 z.1 z.2.1/\SsT K H3 z.2.2 (uJ ls (ds.map (aN ls)) z.2.1):=λz F=>by have ne:∀{b:Addr} {o:HO},H2 b=!o->(∀u,o≠bA oa u)->H3 b=!o:=λ{b o} e hn=>a6.get (λm=>by rw[Zp.mp m,e2]at e;show hn _ (Ô e).symm) e;let#[#[c,g1,g2],#[zs,k1,k2,k3]]:=hg z F;show#[#[c,ne g1 λu q=>(by cases q),ne g2 λu q=>(by cases q)],zs,k1,ne k2 λu q=>(by cases q),λy Y=>?_];let#[c',j1,bn,j2,j3]:=k3 y Y;show#[c',ne j1 λu q=>(by cases q),bn,ne j2 λu q=>(by cases q),ne j3 λu q=>(by cases q)]
 have bb:=s1.trans S3;symm;show#[f,wa,h,ls,ds.map (aN ls),rfl,hF.same bb,wf,hW.same S3,(),(),λA t=>#[by have:=O A t;rfl',λw B=>#[ay A t w B,by rw[ag];show(ah A t w B).2]],λfk H4 M s4 ca hM ⟨kz,ad,a7,as⟩=>?_];rw[oA hM hN]at ad;have cc:kz.length<=100000:=by
  have h1:=m9 O (bF (ds.map (aN ls)) N);rw[<-ad,Qb]at h1;have X:=cZ (l:=bF (ds.map (aN ls)) N) (m:=(List.range ds.length).map λi:Nat=>(i:Int)) (dY _ _ N) λr mr=>by let#[h0,h1]:=dB (P:=λr:Int=>0<=r/\r<ds.length) #[by decide,()] (λp q' hp hq=>by let#[w,B,rfl]:=Zl.mp hq;let#[A,t,B]:=D B;show(ah A t w B).2) N r mr;show Zl.mpr #[r.toNat,í.mpr (),()]
  rw[Qb,ù]at X;rfl'
 have Z:∀z∈kz,z.2.2.2.2∈lO (ds.map (aN ls)) (bF (ds.map (aN ls)) N):=λz F=>by rw[<-ad];show Zl.mpr #[z,F,rfl]
 have be:∀{H':Hp},Same H4 H'->FdT K H' fa L:=λs=>#[s.get (s4.get I.d),λf mf=>#[((I.s f mf).1.same s4).same s,s.get (s4.get (I.s f mf).2)],I.n];symm;walk_at "ns";show zX (λz:Fz=>V.ref z.1) (zs:=kz) (SqL.of a7) () (λi ys H'=>Same H4 H'/\∃us:List (Addr×Nat×Fz),ys=us.map (λu=>V.ref u.1)/\us.length<=i/\(∀u∈us,H' u.1=!(.tup [.int (u.2.1:Nat),.ref u.2.2.1])/\u.2.2∈kz/\∃k,jg L (oF u.2.2.2.2.2.2) k/\u.2.1=uK u.2.2.2.2.2.2+k.1)/\∀z∈kz.take i,∀k,jg L (oF z.2.2.2.2) k->∃u∈us,u.2.1=uK z.2.2.2.2+k.1) #[Same.refl _,[],rfl,Ã _,by simp,by simp] ?_ ?_ ?_ ?_;.rintro i ys H' ⟨s,_⟩;show SqL.of (s.get a7)
 .rintro i ys H' ⟨_,us,rfl,al,_⟩;rw[Qb];show al
 .rintro i z ys H' hi ⟨s,us,rfl,al,G,J⟩;have F:=Zs hi;let#[f1,f2,_,_]:=(as z F).same s;have ae:=be s;have ak:∀{H2:Hp},Same H' H2->∀T:List (Addr×Nat×Fz),T.length<=1->(∀u∈T,H2 u.1=!(.tup [.int (u.2.1:Nat),.ref u.2.2.1])/\u.2.2∈kz/\∃k,jg L (oF u.2.2.2.2.2.2) k/\u.2.1=uK u.2.2.2.2.2.2+k.1)->(∀k,jg L (oF z.2.2.2.2) k->∃u∈T,u.2.1=uK z.2.2.2.2+k.1)->Same H4 H2/\∃af:List (Addr×Nat×Fz),us.map (λu=>V.ref u.1)++T.map (λu=>V.ref u.1)=af.map (λu=>V.ref u.1)/\af.length<=i+1/\(∀u∈af,H2 u.1=!(.tup [.int (u.2.1:Nat),.ref u.2.2.1])/\u.2.2∈kz/\∃k,jg L (oF u.2.2.2.2.2.2) k/\u.2.1=uK u.2.2.2.2.2.2+k.1)/\∀z∈kz.take (i+1),∀k,jg L (oF z.2.2.2.2) k->∃u∈af,u.2.1=uK z.2.2.2.2+k.1:=λ{H2} s2 T cf h1 X=>by
   show#[s.trans s2,us++T,by rw[Wp],by rw[À];rfl',λu C=>?_,λy Y k hk=>?_]
   .rcases Â.mp C with C|C;.show #[s2.get (G u C).1,(G u C).2]
    .show h1 u C
   .rw [Ø,hi]at Y;rcases Â.mp Y with Y|Y;.obtain ⟨u,C,e⟩:=J y Y k hk;show#[u,Ü _ C,e]
    .have ey:y=z:=by simpa using Y
     rw[ey]at hk⊢;let#[u,C,e]:=X k hk;show#[u,Ï _ C,e]
  symm;show bV f1 ?_;symm;show#[fa,_,rfl,SGet.of ae.d (jE λf mf=>(ae.s f mf).1) f2.a,?_];by_cases m:oF z.2.2.2.2∈L.map (·.2.1)
  .obtain ⟨R,mf,ef⟩:=Zl.mp m;have ev:cR (cu (jF L)) (dG (oF z.2.2.2.2))=!(V.ref R.2.2.1):=by rw[<-ef];show fQ (zs:=jF L) (z:=(R.1,R.2.1,R.2.2.1)) (by rw[fU];show I.n) (Zl.mpr #[R,mf,rfl])
   rw[show cR (cu (jF L)) (dG (m8 z.2.2.2.2.1 z.2.2.2.2.2.1.2.2 z.2.2.2.2.2.1.2.1))=!(V.ref R.2.2.1)from ev];show#[true,rfl,?_];rw[if_pos rfl];symm;show dW (SqT.of f1) (aX (j:=0) (v:=.int (uK z.2.2.2.2:Nat)) (by rfl)) ?_;symm;show bV f1 ?_;symm;show#[fa,.ref R.2.2.1,rfl,by rw[<-ev];show SGet.of ae.d (jE λf mf=>(ae.s f mf).1) f2.a,?_];symm;show dW (SqT.of (ae.s R mf).2) (aX (j:=0) (v:=.int (R.2.2.2.1:Nat)) rfl) ?_;symm;intro p hp;rw[show((uK z.2.2.2.2:Nat):Int)+((R.2.2.2.1:Nat):Int)=((uK z.2.2.2.2+R.2.2.2.1:Nat):Int)by rfl'];show ak (aB hp _) [(p,uK z.2.2.2.2+R.2.2.2.1,z)] (Ã _) (λu C=>?_) λk ⟨g,mg,e1,e2⟩=>#[_,Ì,?_];.rw [Zp.mp C];show#[ao,F,R.2.2.2,#[R,mf,ef,rfl],rfl]
   .rw [<-e2,di I.n mg mf (e1.trans ef.symm)]
  .rw [show cR (cu (jF L)) (dG (m8 z.2.2.2.2.1 z.2.2.2.2.2.1.2.2 z.2.2.2.2.2.1.2.1))=none from gk (by rw[fU];show m)];symm;have:=ak (Same.refl _) [] (ñ _) (by simp) λk ⟨g,mg,e1,_⟩=>absurd (Zl.mpr #[g,mg,e1]) m;simpa using this
 rintro ys H5 ⟨s5,us,rfl,al,G,J⟩ pa bd;rw[ä]at J;have s6:=s5.new (o:=.lst (us.map λu=>V.ref u.1)) bd;have ar:upd H5 pa (.lst (us.map λu=>V.ref u.1)) pa=!(.lst (us.map λu=>V.ref u.1)):=ao;replace G:∀u∈us,upd H5 pa (.lst (us.map λu=>V.ref u.1)) u.1=!(.tup [.int (u.2.1:Nat),.ref u.2.2.1])/\u.2.2∈kz/\∃k,jg L (oF u.2.2.2.2.2.2) k/\u.2.1=uK u.2.2.2.2.2.2+k.1:=λu C=>#[aD bd (G u C).1,(G u C).2];generalize upd H5 pa (.lst (us.map λu=>V.ref u.1))=H6 at s6 ar G⊢;have av:=bb.trans s4;symm;show fB (SqL.of ar) ?_;rw[Qb];symm;show gb (λc=>?_) λc=>?_;.symm;have b2:us=[]:=ž.mp ();show qn (λz F k hk=>?_) _ (av.trans s6);rw[<-ad]at F;let#[y,Y,rfl]:=Zl.mp F;let#[u,C,_]:=J y Y k hk;rw[b2]at C;cases C
 symm;have ai:∀z∈kz,Hs.Sg z.2.2.2.2.1.1/\Hs.Sg z.2.2.2.2.2.1.1:=λz F=>by let#[_,m1,m2]:=G6 (Z z F);let#[w1,n1,o1]:=D m1;let#[w2,n2,o2]:=D m2;show#[U w1 n1 _ o1,U w2 n2 _ o2]
 show Ka (us:=us.map λu=>(V.ref u.1,uI u.2.1 u.2.2.2.2.2.2)) Gb (by rw[Á];show SqL.of ar) (λe=>c (by rw[ρ.mp e];rfl)) (λv mv=>?_) (λv mv w B=>?_) λv mv a8=>?_;.obtain ⟨u,C,rfl⟩:=Zl.mp mv;let#[h1,X,_]:=G u C;have:=QJ (c:=u.2.1) (ai _ X).1 (ai _ X).2;show#[.tup (SqT.of h1) (.cons (.int _) (.cons (Vm ((as _ X).same s6)) .nil)),this.1,Û this.2 (by decide)]
 .obtain ⟨u,C,rfl⟩:=Zl.mp mv;let#[u',aw,rfl]:=Zl.mp B;show#[Kl _ _ _ _,QK _ _ _ _]
 let#[u,C,rfl]:=Zl.mp mv;let#[h1,X,k,hk,ek]:=G u C;let#[g1,g2,g3]:=G6 (Z _ X);let#[w1,n1,o1]:=D g2;let#[w2,n2,o2]:=D g3;have am:=(as _ X).same s6;symm;show bV h1 ?_;symm;show bV am.1 ?_;symm;show bV h1 ?_;symm;show#[wa,ds.map (aN ls),u.2.2,N,rfl,((hW.same S3).same s4).same s6,(),(),λA t=>#[by have:=O A t;rfl',λw B=>#[U A t w B,by rw[ag];show(ah A t w B).2]],am,hN,Z _ X,Vj br (Z _ X),λta H7 p0 p1 s7 b1 tw ap l0 l1=>?_];symm;have S:=s6.trans s7;show#[f,oa,fa,u.2.2.2.1,ta,h,ls,gz,ds.map (aN ls),es,L,oF u.2.2.2.2.2.2,k,_,_,rfl,hF.same (av.trans S),wf,.inr #[od,S.get (s4.get bp)],λz F=>#[((bg z F).1.same s4).same S,((bg z F).2.same s4).same S],a9,λA t w B=>#[ay A t w B,U A t w B],be S,?_,hD,am.2.1.same s7,hk,by rw[ag];rfl',#[p0,p1,b1,tw,ap,l0,l1],λr H8 y v0 v1 s8 er b4 b3 bq bw bi=>?_]
 .have:=cZ (l:=L.map (·.2.1)) (m:=gz.map (·.2.1)) I.n λx mx=>by
   let#[g,mg,rfl]:=Zl.mp mx;rcases hD.s g.2.1 g.2.2.2 (.inl #[g,mg,rfl,rfl])with h|⟨_,_,_,h,_⟩;.show h.1.1
   .show h.1
  rw[Qb,Qb]at this;rfl'
 symm;show cM (s8.get (s7.get h1)) ?_;symm;show#[_,_,_,rfl,SqT.of er,?_];symm;show#[_,_,_,rfl,SqT.of er,?_];symm;intro p hp;show qs p _ u.2.1 _ _ (((av.trans S).trans s8).new hp) ao #[#[_,Z _ X,k,hk,ek],λz F k' bo=>?_] ?_
 rotate_left;.have:=uC hD hk;rw[ag]at bw bi;rw[ek];show Kh (λA t w B=>U A t w B) b4 b3 bq () ()
 rw[<-ad]at F;let#[y,Y,rfl]:=Zl.mp F;let#[u',aw,e']:=J y Y k' bo;have:=a8 _ (Zl.mpr #[u',aw,rfl]);have h9:(u.2.1:Int)<=(u'.2.1:Int):=this;rfl'
inductive sp_f44 (K:W.Frag) (vs:List V) (H:Hp) (Q:VK) (E:XK):Prop|mk (f ha:Addr) (h:Nat) (ls:List (Str×List Nat)) (ds:L2S) (es:List Int) (h0:vs=[.ref f,.ref ha]) (h1:FnF K H f h ls) (h2:Fo.Wf h ls) (h3:HsG K H ha ds es) (h4:Ai ls ds) (h5:(∀ps∈ds,(ps.map (·.1)).Nodup)) (h6:∀N (S:List Sd) (fz:List Fq),(bF (ds.map (aN ls)) N).length<=N->(∀x,x∈S↔Mm.Rch (rC (ds.map (aN ls)) N) (wC (ds.map (aN ls))) x)->(fz.map (·.2.1)).Nodup->Dj (wJ es S) (ux (uJ ls (ds.map (aN ls))) S) (jg fz) (λ_ _=>False)->(LsO (ds.map (aN ls)) N (jg fz) none->∀H',Same H H'->Q .non H')/\∀H' (L:Nat),Same H H'->LsO (ds.map (aN ls)) N (jg fz) !L->Q (.int (((L:Int)-1)/2)) H'):sp_f44 K vs H Q E
def wV (K:W.Frag) (E:XK) (Eh:XK):TS:=(aF (aP (aR (sp_f34 K) [] E0 (aj (aa 0) (aj (aa 1) aA))) (au 2))
  (aF (bW (aZ (aH iK (aa 2) (tC V.non))) (b7 (tC V.non)) bh)
  (b7 (aH cC (aH jO (aH (aO K) (aa 2) (tC (V.int 0))) (tC (V.int 1))) (tC (V.int 2))))))
theorem QM (h:sp_f44 K vs H Q E):∃k,wV K E k {nx:=λ_ H'=>Q .non H',rt:=Q} (start ["font","house","told"] vs) H:=by
 let#[f,l,h,ls,ds,es,rfl,m,p,o,sz,b,q]:=h;show#[E0,?_];unfold wV;symm;show#[f,l,h,ls,ds,es,rfl,m,p,o,sz,b,λN S i e g d j=>#[λn H1 c=>?_,λr H1 L t u c s a _=>?_]];.symm;show(q N S i e g d j).1 n _ c
 .symm;rw[È (show¬V.ref r=V.non fromλz=>by cases z)];symm;show cM s ?_;symm;show(q N S i e g d j).2 _ L c a
inductive sp_f3 (K:W.Frag) (vs:List V) (H:Hp) (Q:VK) (E:XK):Prop|mk (a:Addr) (ns:List Int) (k:Nat) (h0:vs=[.ref a,.int k]) (h1:SqL K H a (ns.map V.int)) (h2:Q (.int (Mm.cellAt ns k)) H):sp_f3 K vs H Q E
def Gg (K:W.Frag) (E:XK) (Eh:XK):TS:=(aF (bW (aZ (aH J7 (aa 1) (cF (cg K) (aj (aa 0) aA)))) (b7 (aH (fj K) (aa 0) (aa 1))) bh)
  (b7 (tC (V.int 0))))
theorem Vn (h:sp_f3 K vs H Q E):∃d,Gg K E d {nx:=λ_ H'=>Q .non H',rt:=Q} (start ["script","k"] vs) H:=by
 let#[a,ns,k,rfl,b,q]:=h;show#[E0,?_];unfold Gg;symm;show fB b ?_;symm;rw[Qb];show gb (λc=>?_) λc=>?_
 .symm;show dU b (aX (v:=V.int (Mm.cellAt ns k)) ?_) ?_;.rw [Xs,Zz (),η,Mm.getD_some (Zz ())]
  .show q
 .symm;rw[Mm.getD_none ()]at q;show q
inductive sp_f23 (K:W.Frag) (vs:List V) (H:Hp) (Q:VK) (E:XK):Prop|mk (i:Int) (h0:vs=[.int i]) (h1:Q (.bl true) H):sp_f23 K vs H Q E
def wW (K:W.Frag) (E:XK) (Eh:XK):TS:=(b7 (iU (cF (dN K) (aj (aa 0) (aj (tC (V.ty "int")) aA))) (Al (cF (dN K) (aj (aa 0) (aj (tC (V.ty "bool")) aA))))))
theorem QQ (h:sp_f23 K vs H Q E):∃a,wW K E a {nx:=λ_ H'=>Q .non H',rt:=Q} (start ["found"] vs) H:=by let#[i,rfl,q]:=h;show#[E0,?_];unfold wW;symm;show#[_,_,_,_,rfl,.int i,rfl,?_];symm;show#[_,_,_,_,rfl,.int i,rfl,?_];symm;show q
theorem QR:∀c∈Hs.K7.cps.toList,Hs.Sg (tx [c]):=λc b=>by
 let#[k,a,rfl]:=ó.mp b;have d:Hs.K7.cps.toList.length=94:=by ac_nf
 show#[(k:Int),?_];unfold Hs.WK;rw[show((k:Int)%94).toNat=k by rfl',Æ,Zz a];rfl
theorem Km {fs:List Nat} (b:j<cs.length) (h:(fs++cs).Nodup):((fs++[cs[j]])++(cs.take j++cs.drop (j+1))).Nodup:=by
 have e:cs=cs.take j++cs[j]::cs.drop (j+1):=by rw[<-Ć b,ā]
 have p:((fs++[cs[j]])++(cs.take j++cs.drop (j+1))).Perm (fs++cs):=by
  rw[Þ];show List.Perm.append_left _ ?_
  conv=>rhs;rw[e]
  show(ů (a:=cs[j]) (l₁:=cs.take j) (l₂:=cs.drop (j+1))).symm
 show p.nodup_iff.mpr h
theorem Ko {fs:List Nat} (b:j<cs.length):((fs++[cs[j]])++(cs.take j++cs.drop (j+1))).Perm (fs++cs):=by
 have e:cs=cs.take j++cs[j]::cs.drop (j+1):=by rw[<-Ć b,ā]
 rw[Þ];show List.Perm.append_left _ ?_
 conv=>rhs;rw[e]
 show(ů (a:=cs[j]) (l₁:=cs.take j) (l₂:=cs.drop (j+1))).symm
inductive sp_f15 (K:W.Frag) (vs:List V) (H:Hp) (Q:VK) (E:XK):Prop
 |mk (c:Int) (n:Nat) (h0:vs=[.int c,.int (n:Nat)]) (h1:PySem.Builtin.Int.intBits c<=2^20) (h2:n<=94) (h3:∀p H' (ss:List Str),Same H H'->H p=none->H' p=!(.lst (ss.map V.str))->ss.length=n->ss.Nodup->(∀s∈ss,Hs.Sg s)->Q (.ref p) H'):sp_f15 K vs H Q E
abbrev Gh (K:W.Frag):TS:=(aF (aP (aH cC (aa 3) (cF (cg K) (aj (aa 2) aA))) (au 3))
  (aF (du (oO K "list" cA (aa 4) (aj (aH Iu (aa 2) (aa 6)) aA)))
  (aP (aH fV (uU J9 (aa 2) cU (fD (aa 6))) (uU J9 (aa 2) (fD (aH cD (aa 6) (tC (V.int 1)))) cU)) (au 2))))
abbrev Gi (K:W.Frag):TS:=(aF (bW (aZ (aH oH (aH cL (aa 0) (tC (V.int 2))) (tC (V.int 1)))) (aP (aH cD (aH qH (aa 3) (aH KY (tC (V.int 48271)) (tC (V.int 32)))) (tC (V.int 48271))) (au 3)) bh)
  (aF (aP (gG aA) (au 4))
  (aF (d9 (iJ (aj (aa 1) aA)) (au 5) (aF (aP (aH cL (aa 3) (cF (cg K) (aj (aa 2) aA))) (au 6))
  (Gh K)))
  (b7 (aa 4)))))
def wX (K:W.Frag) (E:XK) (Eh:XK):TS:=(aF (aP (tC (V.str (Str.ofString " !\"#$&'()*+,-./0123456789:;<=>?@ABCDEFGHIJKLMNOPQRSTUVWXYZ[\\]^_`"))) (au 2))
  (aF (aP (aH fV (aa 2) (tC (V.str (Str.ofString "abcdefghijklmnopqrstuvwxyz{|}~")))) (au 2))
  (aF (aP (aH cC (aa 0) (tC (V.int 2))) (au 3))
  (Gi K))))
theorem QS (h:sp_f15 K vs H Q E):∃C,wX K E C {nx:=λ_ H'=>Q .non H',rt:=Q} (start ["cell","many","some","number","found","k","at"] vs) H:=by
 let#[c,n,rfl,D,P,q]:=h;show#[E0,?_];unfold wX;have F:Hs.K7.cps.toList.length=94:=by ac_nf
 have u:Hs.K7.cps.toList.Nodup:=by ac_nf
 symm;show nT (by decide) ?_;walk_at "gj";walk_at "ns";with_reducible show nU (λr H'=>H'=H/\∃w:Int,r=[!(.int c),!(.int (n:Nat)),!(.str Hs.K7),!(.int w),none,none,none]) ?_ ?_
 .rintro r _ ⟨rfl,w,rfl⟩;rename_i H;symm;intro l g;have z:∀p∈[l],H p=none:=λp G=>by rw[Zp.mp G];show g
  symm;show nR n (Ó _) () () (λi v H'=>Sb [l] H H'/\∃(fs cs:List Nat) (w:Int) (t A:Option V),H' l=!(.lst (fs.map λc=>V.str (tx [c])))/\fs.length=i/\cs.length+i=94/\(fs++cs).Nodup/\(∀c∈fs++cs,Hs.Sg (tx [c]))/\v=[!(.int c),!(.int (n:Nat)),!(.str (tx cs)),!(.int w),!(.ref l),t,A]) #[Sb.of (aB g _),[],Hs.K7.cps.toList,w,_,_,ao,rfl,F,u,QR,rfl] ?_ ?_;.rintro i v H' hi ⟨sb,fs,cs,w,t,A,b,d,y,a,f,rfl⟩;have m:0<cs.length:=();let#[j,O,o]:=Mm.lZ w cs.length m;symm;show qT (by rw[gJ];rfl') ?_;rw[gJ];show Es m O ?_;symm;show qT (by rw[gJ];rfl') ?_;rw[gJ];symm;walk_at "ns";show dI (SqL.of b) ?_;symm;show V1 (c:=cs[j]) (by rw[gJ];rfl') (aX (Zz o)) ?_;symm;show fH b (by rw[Qb];rfl') ?_;symm;walk_at "ns";show Lf (by rw[gJ];rfl') ?_;rw[V4 (ć o)];symm;show Lf (by rw[gJ];rfl') ?_;rw[show(j:Int)+1=((j+1:Nat):Int)by rfl',K1 o];symm;show nT (by rw[gJ,gJ,Ñ,ô];rfl') ?_;symm;walk_at "ns";show#[sb.set (by simp),fs++[cs[j]],cs.take j++cs.drop (j+1),_,_,_,by rw[ao,Wp];rfl,by simp[d],by rw[À,Ñ,ô];rfl',Km o a,λx L=>f x ?_,by rw[<-Ek]];show(Ko (fs:=fs) o).mem_iff.mp L
  .rintro v H' ⟨sb,fs,cs,w,t,A,b,d,y,a,f,rfl⟩;symm;show q l H' (fs.map λc=>tx [c]) (sb.off z) g (by rw[b,Á];rfl) (by rw[Qb];show d) ?_ λs ms=>?_;.show Ő.mpr ((ð.mp a).1.imp λh e=>h (by have:=PJ.mp e;simpa using this))
   .obtain ⟨J,M,rfl⟩:=Zl.mp ms;show f J (Ü _ M)
 .intro N B;symm;show gb (λI=>?_) λI=>?_;.symm;show Ep (ur (k:=2) (by decide) D) (n:=1000) (by ac_nf) (by decide) ?_;symm;show B _ _ #[rfl,_,rfl]
  .symm;show B _ _ #[rfl,_,rfl]
def LtL (H:Hp) (p:Addr) (h:Nat) (zs:List (Addr×List Nat)):Prop:=H p=!(.lst (zs.map λz=>V.ref z.1))/\∀z∈zs,H z.1=!(.tup (nv z.2))/\1<=z.2.length/\z.2.length<=8/\∀x∈z.2,x<2^h
theorem LtL.same {h:Nat} {zs:List (Addr×List Nat)} (a:LtL H p h zs) (s:Same H H'):LtL H' p h zs:=#[s.get a.1,λz m=>#[s.get (a.2 z m).1,(a.2 z m).2]]
inductive sp_f5 (K:W.Frag) (vs:List V) (H:Hp) (Q:VK) (E:XK):Prop|mk (a:Addr) (ns:List Int) (n m h:Nat) (al:Bool) (h0:vs=[.ref a,.int (n:Nat),.int (m:Nat),.int (h:Nat),.bl al]) (h1:SqL K H a (ns.map V.int)) (h2:(∀i∈ns,PySem.Builtin.Int.intBits i<=2^20)) (h3:n<=40) (h4:(1<=m/\m<=8)) (h5:(1<=h/\h<=60)) (h6:∀p H' (zs:List (Addr×List Nat)),Same H H'->H p=none->LtL H' p h zs->zs.length=n->Q (.ref p) H'):sp_f5 K vs H Q E
abbrev Kq (K:W.Frag):TS:=(aF (aP (cF (dM K) (aj (oR [none,!9,!3] (iJ (aj (aa 8) aA)) (au 0) fu (aH cL (aH lX (aa 1) (aH yf (tC (V.int 1)) (aH pL (aa 2) (aa 0)))) (aH yf (tC (V.int 1)) (aa 2)))) aA)) (au 10))
  (aF (bW (jH (jw K (aa 4)) (aZ (aH oH (aH cL (aa 6) (tC (V.int 2))) (tC (V.int 1))))) (aP (aH (fj K) (aa 5) (aH jO (aa 6) (tC (V.int 1)))) (au 10)) bh)
  (du (oO K "list" cA (aa 5) (aj (aa 10) aA)))))
abbrev Kr (K:W.Frag):TS:=(aF (aP (aH cD (tC (V.int 1)) (aH cL (aa 7) (aa 2))) (au 8))
  (aF (aP (aH cL (aH qH (aH cD (aH cC (aa 7) (aa 2)) (aa 6)) (aH KY (tC (V.int 48271)) (tC (V.int 32)))) (aH yf (tC (V.int 1)) (aH pL (aa 3) (aa 8)))) (au 9))
  (Kq K)))
def Gj (K:W.Frag) (E:XK) (Eh:XK):TS:=(aF (aP (gG aA) (au 5))
  (aF (d9 (iJ (aj (aa 1) aA)) (au 6) (aF (aP (aR (sp_f3 K) [] E0 (aj (aa 0) (aj (aH cD (tC (V.int 5)) (aa 6)) aA))) (au 7))
  (Kr K)))
  (b7 (aa 5))))
theorem Vo (h:sp_f5 K vs H Q E):∃Eh,Gj K E Eh {nx:=λ_ H'=>Q .non H',rt:=Q} (start ["script","many","most","height","alike","letters","k","cell","wide","number","columns"] vs) H:=by
 let#[a,ns,n,m,h,G,rfl,hS,hb,hn,#[af,ad],#[ae,t],q]:=h;show#[E0,?_];unfold Gj;symm;intro p M;have s:∀p'∈[p],H p'=none:=λp' Z=>by rw[Zp.mp Z];show M
 symm;show nR n (Ó _) () () (λi J H'=>∃zs:List (Addr×List Nat),zs.length=i/\Sb [p] H H'/\LtL H' p h zs/\∃U Y S L I,J=[!(.ref a),!(.int (n:Nat)),!(.int (m:Nat)),!(.int (h:Nat)),!(.bl G),!(.ref p),U,Y,S,L,I]) #[[],rfl,Sb.of (aB M _),#[ao,by simp],_,_,_,_,_,rfl] ?_ ?_
 .rintro i J H' hi ⟨zs,f,sb,u,U,Y,S,L,I,rfl⟩;have o:PySem.Builtin.Int.intBits (Mm.cellAt ns (5+i))<=2^20:=by
   by_cases c:5+i<ns.length;.rw [Mm.getD_some (Zz c)];show hb _ (ì c)
   .rw [Mm.getD_none ()];decide
  symm;rw[show(5:Int)+(i:Int)=((5+i:Nat):Int)by rfl'];show#[a,ns,5+i,rfl,sb.seq s hS,?_];generalize Mm.cellAt ns (5+i)=cell at o;let#[w,ew,hw]:=Mm.lZ cell m ();symm;rw[ew,show 1+(w:Int)=((1+w:Nat):Int)by rfl'];walk_at "ns";show Ep (PyProof.Rows.bits_add (ur () o) (n:=2^20) (vW ())) (n:=1000) (by ac_nf) (by decide) ?_;symm;let#[e,b]:∃e:Nat,e=h*(1+w):=#[_,rfl];have C:e<=480:=by rw[b];show Û (Ř t (show 1+w<=8 by rfl')) (by decide)
  rw[show(h:Int)*((1+w:Nat):Int)=(e:Int)by rw[b,ο]];clear b;symm;walk_at "ns";generalize(cell/ ↑m+ ↑i)*48271^Int.toNat 32%(1*2^(e:Int).toNat)=num;have k:(0:Int)<2^h:=Int.pow_pos (by decide);have O:∀y:Int,(y%2^h).toNat<2^h:=λy=>by have h0:=ĩ y (Int.ne_of_gt k);have h1:=Ğ y k;rw[<-Bx.BZ]at h0 h1⊢;rfl'
  show UV (1+w) (Ó _) () () (λj=>V.int (((num/2^(h*j))%2^h).toNat:Nat)) (λj hj A P=>?_) λpl W=>?_
  .symm;let#[e,b]:∃e:Nat,e=h*j:=#[_,rfl];have C:e<=480:=by rw[b];show Û (Ř t (show j<=8 by rfl')) (by decide)
   rw[show(h:Int)*(j:Int)=(e:Int)by rw[b,ο]];rw[<-b]at P;clear b;symm;show yH () ?_;symm;rw[Int.one_mul,Ó];rw[show((num/2^e%2^h).toNat:Int)=num/2^e%2^h from ų (ĩ _ (Int.ne_of_gt k))]at P;show P
  symm;show iG (SqL.of ao) λT R=>?_;walk_at "gj";walk_at "ns";have D:Same H' (upd (upd H' pl (HO.lst ((List.range (1+w)).map λj=>V.int (((num/2^(h*j))%2^h).toNat:Nat)))) T (HO.tup ((List.range (1+w)).map λj=>V.int (((num/2^(h*j))%2^h).toNat:Nat)))):=(aB W _).new R;with_reducible show nU (λB H2=>Same H' H2/\∃(F:Addr) (l:List Nat),H2 F=!(.tup (nv l))/\(1<=l.length/\l.length<=8/\∀x∈l,x<2^h)/\B=[!(.ref a),!(.int (n:Nat)),!(.int (m:Nat)),!(.int (h:Nat)),!(.bl G),!(.ref p),!(.int (i:Nat)),!(.int cell),!(.int ((1+w:Nat):Int)),!(.int num),!(.ref F)]) ?_ ?_
  .rintro B H2 ⟨s2,F,l,r,X,rfl⟩;have L2:=u.same s2;symm;show dI (SqL.of L2.1) ?_;symm;show fH L2.1 (by rw[Qb];rfl') ?_;symm;show#[zs++[(F,l)],by simp[f],(sb.same s2).set (by simp),#[by rw[ao,Wp];rfl,λz g=>?_],_,_,_,_,_,rfl];rcases Â.mp g with g|g;.show #[by rw[az (bD (L2.2 z g).1 L2.1 (by intro q;cases q))];show(L2.2 z g).1,(L2.2 z g).2]
   .rw [Zp.mp g];show#[by rw[az (bD r L2.1 (by intro q;cases q))];show r,X]
  .intro N hN;have keep:=hN [!(.ref a),!(.int (n:Nat)),!(.int (m:Nat)),!(.int (h:Nat)),!(.bl G),!(.ref p),!(.int (i:Nat)),!(.int cell),!(.int ((1+w:Nat):Int)),!(.int num),!(.ref T)] _ #[D,T,(List.range (1+w)).map λj=>((num/2^(h*j))%2^h).toNat,by rw[ao,nv,Á];rfl,#[by simp,by simp;rfl',λx mx=>by let#[j,_,rfl]:=Zl.mp mx;show O _],rfl];cases G with
   |false=>symm;show keep|true=>
    symm;show gb (λd=>?_) λd=>?_;.obtain ⟨j,rfl⟩:∃j,i=j+1:=#[i-1,()];let#[z,hz]:∃z,zs[j]?=!z:=#[_,Zz ()];symm;rw[show((j+1:Nat):Int)-1=(j:Int)by rfl'];show dU (SqL.of (D.get u.1)) (aX (j:=j) (v:=.ref z.1) (by rw[Xs,hz];rfl)) ?_;symm;let#[z1,z2]:=u.2 z (Zs hz);show hN _ _ #[D,z.1,z.2,D.get z1,z2,rfl]
    .symm;show keep
 .rintro J H' ⟨zs,f,sb,u,U,Y,S,L,I,rfl⟩;symm;show q p H' zs (sb.off s) M u f
theorem Gk {K:W.Frag} {a:Addr} {i:Int} (e:SqL K H a xs) (b:0<=i) (c:i<(xs.length:Int)) (h:∀v∈xs,Q v H):fj K (.ref a) (.int i) H Q:=by let#[v,mv,d]:=K4 b c;show dU e d (h v mv)
def Vp (kd rm my ms ht:Nat):Prop:=kd<=3/\(1<=rm/\rm<=40)/\(1<=my/\my<=16)/\(1<=ms/\ms<=8)/\(1<=ht/\ht<=60)/\(rm<=8\/my<=2)
inductive sp_f17 (K:W.Frag) (vs:List V) (H:Hp) (Q:VK) (E:XK):Prop|mk (a:Addr) (ns:List Int) (h0:vs=[.ref a]) (h1:SqL K H a (ns.map V.int)) (h2:∀r H' (kd rm my ms ht:Nat),Same H H'->H' r=!(.tup [.int (kd:Nat),.int (rm:Nat),.int (my:Nat),.int (ms:Nat),.int (ht:Nat)])->Vp kd rm my ms ht->Q (.ref r) H'):sp_f17 K vs H Q E
abbrev Gm:TS:=(aF (aP (aH cD (tC (V.int 5)) (aH cL (aH cC (aa 1) (tC (V.int 1296))) (tC (V.int 2)))) (au 4))
  (aF (aP (cF kW (aj (aa 6) (aj (tC (V.int 8)) aA))) (au 6))
  (b7 (bZ (aj (aa 2) (aj (aa 3) (aj (aa 4) (aj (aa 7) (aj (aa 6) aA)))))))))
abbrev Gp (K:W.Frag):TS:=(aF (aP (aH cD (tC (V.int 4)) (aH cL (aH cC (aa 1) (tC (V.int 24))) (aH (fj K) (gG (aj (tC (V.int 9)) (aj (tC (V.int 5)) (aj (tC (V.int 30)) aA)))) (aH cD (aH jO (aa 2) (tC (V.int 2))) (cF La (aj (iU (aH kO (aa 2) (tC (V.int 2))) (aH oH (aa 7) (tC (V.int 1)))) aA)))))) (au 3))
  (bW (jH (aZ (aH oH (aa 2) (tC (V.int 2)))) (aZ (aH oH (aH cL (aH cC (aa 1) (tC (V.int 216))) (tC (V.int 2))) (tC (V.int 1))))) (aF (aP (aH cD (tC (V.int 6)) (aH cL (aH cC (aa 1) (tC (V.int 432))) (tC (V.int 3)))) (au 3))
  (Gm)) bh))
abbrev Gq:TS:=(aF (fc (jH (aZ (aH kO (aa 4) (tC (V.int 2)))) (aZ (aH kO (aH pL (aH pL (aH pL (aa 3) (aa 3)) (aH cD (tC (V.int 1)) (aH pL (aa 4) (aa 7)))) (aa 4)) (tC (V.int 400))))) (aP (aH jO (aa 4) (tC (V.int 1))) (au 4)))
  (b7 (bZ (aj (aa 2) (aj (aa 3) (aj (aa 4) (aj (aa 7) (aj (aa 6) aA))))))))
abbrev Gr (K:W.Frag):TS:=(aF (bW (jH (aZ (aH kO (aa 2) (tC (V.int 1)))) (aZ (aH oH (aH cL (aH cC (aa 1) (tC (V.int 12))) (tC (V.int 2))) (tC (V.int 1))))) (aF (aP (tC (V.int 2)) (au 4))
  (aF (aP (cF kW (aj (aa 7) (aj (aH jO (aa 2) (tC (V.int 1))) aA))) (au 7))
  (Gp K))) bh)
  (Gq))
abbrev Gs (K:W.Frag):TS:=(aF (aP (cF kW (aj (aH (fj K) (gG (aj (tC (V.int 1)) (aj (tC (V.int 2)) (aj (tC (V.int 3)) (aj (tC (V.int 5)) (aj (tC (V.int 8)) aA)))))) (aH cL (aR (sp_f3 K) [] E0 (aj (aa 0) (aj (tC (V.int 2)) aA))) (tC (V.int 5)))) (aj (aH cC (tC (V.int 80)) (aa 6)) aA))) (au 7))
  (Gr K))
abbrev Gu (K:W.Frag):TS:=(aF (aP (aR (sp_f3 K) [] E0 (aj (aa 0) (aj (tC (V.int 4)) aA))) (au 5))
  (aF (aP (aH cD (tC (V.int 1)) (aH cL (aH cC (aa 5) (tC (V.int 4))) (aH (fj K) (gG (aj (tC (V.int 5)) (aj (tC (V.int 7)) (aj (tC (V.int 16)) (aj (tC (V.int 60)) aA))))) (aH cL (aa 5) (tC (V.int 4)))))) (au 6))
  (Gs K)))
abbrev Gv (K:W.Frag):TS:=(aF (aP (aH cD (tC (V.int 1)) (aH cL (aH cC (aa 1) (tC (V.int 4))) (tC (V.int 3)))) (au 3))
  (aF (aP (aH cD (tC (V.int 1)) (aH cL (aR (sp_f3 K) [] E0 (aj (aa 0) (aj (tC (V.int 1)) aA))) (tC (V.int 16)))) (au 4))
  (Gu K)))
def wY (K:W.Frag) (E:XK) (Eh:XK):TS:=(aF (aP (aR (sp_f3 K) [] E0 (aj (aa 0) (aj (tC (V.int 0)) aA))) (au 1))
  (aF (aP (aH cL (aa 1) (tC (V.int 4))) (au 2))
  (Gv K)))
theorem QT (h:sp_f17 K vs H Q E):∃Eh,wY K E Eh {nx:=λ_ H'=>Q .non H',rt:=Q} (start ["script","head","kind","rooms","many","tall","height","most"] vs) H:=by
 let#[a,ns,rfl,w,q]:=h;show#[E0,?_];unfold wY;have f:∀(x:Int) (v:Int),0<v->∃k:Nat,x%v=(k:Int)/\(k:Int)<v:=λx v h0=>by have h1:=ĩ x (Int.ne_of_gt h0);have h2:=Ğ x h0;show#[(x%v).toNat,(),()]
 symm;show#[a,ns,0,rfl,w,?_];symm;generalize Mm.cellAt ns 0=head;let#[kd,G,ah]:=f head 4 (by decide);let#[e,A,as]:=f (head/4) 3 (by decide);rw[G,A];show#[a,ns,1,rfl,w,?_];symm;let#[b,W,ae]:=f (Mm.cellAt ns 1) 16 (by decide);rw[W];show#[a,ns,4,rfl,w,?_];symm;generalize Mm.cellAt ns 4=tall;intro p1 O;symm;show Gk (SqL.of ao) (ĩ _ (by decide)) (by change tall%4<4;show Ğ _ (by decide)) λv mv=>?_;let#[d,rfl,F]:∃d:Int,v=.int d/\(0<d/\d<=60):=by simp only[Å,æ,ď]at mv;rcases mv with rfl|rfl|rfl|rfl<;>show#[_,rfl,by decide]
 let#[c,C,ag]:=f (tall/4) d F.1;symm;rw[C,show 1+(c:Int)=((1+c:Nat):Int)by rfl'];have S1:Same H (upd H p1 (HO.lst [V.int 5,V.int 7,V.int 16,V.int 60])):=aB O _;generalize upd H p1 (HO.lst [V.int 5,V.int 7,V.int 16,V.int 60])=H1 at S1;walk_at "ns";intro p2 s;symm;show#[a,ns,2,rfl,(S1.new s).seq w,?_];symm;generalize Mm.cellAt ns 2=mc;show Gk (SqL.of ao) (ĩ _ (by decide)) (by change mc%5<5;show Ğ _ (by decide)) λv mv=>?_;let#[z,rfl,av]:∃d:Int,v=.int d/\(1<=d/\d<=8):=by simp only[Å,æ,ď]at mv;rcases mv with rfl|rfl|rfl|rfl|rfl<;>show#[_,rfl,by decide]
 have P:1<=(80:Int)/((1+c:Nat):Int):=Int.le_ediv_of_mul_le () ();walk_at "gj";generalize(80:Int)/((1+c:Nat):Int)=dv at P⊢;have B:Same H (upd H1 p2 (HO.lst [V.int 1,V.int 2,V.int 3,V.int 5,V.int 8])):=S1.new s;generalize upd H1 p2 (HO.lst [V.int 1,V.int 2,V.int 3,V.int 5,V.int 8])=H2 at B;let#[ms,ad,j,t]:∃ms:Nat,(if dv<z then dv else z)=(ms:Int)/\1<=ms/\ms<=8:=#[(if dv<z then dv else z).toNat,by split<;>rfl',by split<;>rfl',by split<;>rfl'];rw[ad];walk_at "ns";with_reducible show nU (λm H'=>Same H H'/\∃e b ms c:Nat,Vp kd e b ms c/\m=[!(.ref a),!(.int head),!(.int (kd:Nat)),!(.int (e:Nat)),!(.int (b:Nat)),!(.int tall),!(.int (c:Nat)),!(.int (ms:Nat))]) ?_ ?_
 .rintro m H' ⟨S',e,b,ms,c,l,rfl⟩;symm;show m5 (λu H1=>H1=H'/\∃b:Nat,Vp kd e b ms c/\u=[!(.ref a),!(.int head),!(.int (kd:Nat)),!(.int (e:Nat)),!(.int (b:Nat)),!(.int tall),!(.int (c:Nat)),!(.int (ms:Nat))]) (λu _=>match u with|[_,_,_,_,!(.int k),_,_,_]=>k.toNat|_=>0) ⟨rfl,b,l,rfl⟩ ?_ ?_
  .rintro u _ ⟨rfl,b,l,rfl⟩;rename_i H';let#[h1,h2,h3,h4,h5,h6]:=id l;symm;show gb (λy=>?_) λy=>?_
   .symm;have m2:(b:Int)*(ms:Int)<=128:=by have:=Ř h3.2 h4.2;rw[<-ο];rfl'
    have m3:0<=(b:Int)*(ms:Int):=by rw[<-ο];rfl'
    show#[_,_,rfl,rfl,.inr #[(),()],?_];symm;show gb (λJ=>?_) λJ=>?_;.symm;show#[#[rfl,b-1,#[h1,h2,#[(),()],h4,h5,.inl ()],by rw[show((b-1:Nat):Int)=(b:Int)-1 by rfl'];rfl],?_];change((b:Int)-1).toNat<((b:Int)).toNat;rfl'
    .symm;intro r n;show q r _ kd e b ms c (S'.new n) ao l
   .symm;intro r n;show q r _ kd e b ms c (S'.new n) ao l
  .show Qf (m6 (kh (qX _) (jD _) (Qe _))) (m6 (kh (qX _) (kh (yI _ _) (kh (yI _ _) (kh (yI _ _) (jD _) (jD _)) (kh (qX _) (Qe _) (kh (yI _ _) (jD _) (jD _)))) (jD _)) (Qe _)))
 .intro N hN;symm;show Ox (λy=>?_) λy=>?_
  .rw [Ą,Κ,Κ]at y;let#[g,D,ap,ar]:∃g:Nat,(if(kd:Int)-1<(ms:Int)then(kd:Int)-1 else(ms:Int))=(g:Int)/\1<=g/\g<=8:=#[(if(kd:Int)-1<(ms:Int)then(kd:Int)-1 else(ms:Int)).toNat,by split<;>rfl',by split<;>rfl',by split<;>rfl'];symm;rw[D];walk_at "ns";intro p3 S;have I:Same H (upd H2 p3 (HO.lst [V.int 9,V.int 5,V.int 30])):=B.new S;symm;show Pz ?_;let#[i,Z,o]:∃i:Int,((kd:Int)-2+if(decide (2<(kd:Int))&&decide ((g:Int)=1))=true then 1 else 0)=i/\0<=i/\i<3:=#[_,rfl,by split<;>rfl',by split<;>rfl'];symm;rw[Z];show Gk (SqL.of ao) o.1 (by change i<3;show o.2) λv mv=>?_;let#[vk,rfl,L]:∃d:Int,v=.int d/\(0<d/\d<=30):=by simp only[Å,æ,ď]at mv;rcases mv with rfl|rfl|rfl<;>show#[_,rfl,by decide]
   let#[M,R,al]:=f (head/24) vk L.1;generalize upd H2 p3 (HO.lst [V.int 9,V.int 5,V.int 30])=H3 at I⊢;symm;rw[R];show Ox (λJ=>?_) λJ=>?_;.symm;let#[T,U,ai]:=f (head/432) 3 (by decide);let#[k5,X,af]:=f (head/1296) 2 (by decide);let#[p,Y,am,ak]:∃p:Nat,(if(8:Int)<((1+c:Nat):Int)then(8:Int)else((1+c:Nat):Int))=(p:Int)/\1<=p/\p<=8:=#[(if(8:Int)<((1+c:Nat):Int)then(8:Int)else((1+c:Nat):Int)).toNat,by split<;>rfl',by split<;>rfl',by split<;>rfl'];rw[U,X,Y,show 6+(T:Int)=((6+T:Nat):Int)by rfl',show 5+(k5:Int)=((5+k5:Nat):Int)by rfl'];intro r n;show q r _ kd (6+T) (5+k5) g p (I.new n) ao #[(),#[(),()],#[(),()],#[(),()],#[(),()],.inl ()]
   .symm;rw[show 4+(M:Int)=((4+M:Nat):Int)by rfl'];show hN _ _ #[I,4+M,2,g,1+c,#[(),#[(),()],#[(),()],#[(),()],#[(),()],.inr ()],rfl]
  .symm;rw[show 1+(e:Int)=((1+e:Nat):Int)by rfl',show 1+(b:Int)=((1+b:Nat):Int)by rfl'];show hN _ _ #[B,1+e,1+b,ms,1+c,#[(),#[(),()],#[(),()],#[j,t],#[(),()],.inl ()],rfl]
inductive sp_f26 (K:W.Frag) (vs:List V) (H:Hp) (Q:VK) (E:XK):Prop|mk (a sh sg:Addr) (ns:List Int) (kd rm my ms ht:Nat) (ss:List Str) (h0:vs=[.ref a,.ref sh,.ref sg]) (h1:SqL K H a (ns.map V.int)) (h2:(∀i∈ns,PySem.Builtin.Int.intBits i<=2^20)) (h3:H sh=!(.tup [.int (kd:Nat),.int (rm:Nat),.int (my:Nat),.int (ms:Nat),.int (ht:Nat)])) (h4:Vp kd rm my ms ht) (h5:SqL K H sg (ss.map V.str)) (h6:ss.length=my+2) (h7:ss.Nodup) (h8:(∀s∈ss,Hs.Sg s)) (h9:∀f H' ls,Same H H'->FnF K H' f ht ls->Fo.Wf ht ls->ls.length=my->Q (.ref f) H'):sp_f26 K vs H Q E
abbrev Gw (K:W.Frag):TS:=(aF (aP (aR (sp_f5 K) [] E0 (aj (aa 0) (aj (aH (aO K) (aa 1) (tC (V.int 2))) (aj (aH (aO K) (aa 1) (tC (V.int 3))) (aj (aH (aO K) (aa 1) (tC (V.int 4))) (aj (aa 3) aA)))))) (au 4))
  (b7 (bZ (aj (aH (aO K) (aa 1) (tC (V.int 4))) (aj (cF (yj K) (aj (cF (iw K) (aj (oR [none,!2,!4] (iJ (aj (aH (aO K) (aa 1) (tC (V.int 2))) aA)) (au 0) fu (bZ (aj (aH (fj K) (aa 1) (aa 0)) (aj (aH (fj K) (aa 2) (aa 0)) aA)))) aA)) aA)) aA)))))
def wZ (K:W.Frag) (E:XK) (Eh:XK):TS:=(aF (aP (aH oH (aH cL (aH cC (aR (sp_f3 K) [] E0 (aj (aa 0) (aj (tC (V.int 2)) aA))) (tC (V.int 5))) (tC (V.int 5))) (tC (V.int 1))) (au 3))
  (Gw K))
theorem QV (h:sp_f26 K vs H Q E):∃T,wZ K E T {nx:=λ_ H'=>Q .non H',rt:=Q} (start ["script","shape","signs","alike","letters"] vs) H:=by
 let#[a,sh,sg,ns,kd,rm,b,ms,h,O,rfl,M,U,e,Y,hG,ae,J,L,q]:=h;show#[E0,?_];unfold wZ;let#[o1,o2,o3,o4,o5,o6]:=id Y;symm;show#[a,ns,2,rfl,M,?_];symm;show eG e ?_;symm;show dW (SqT.of e) (aX (j:=3) (v:=.int (ms:Nat)) rfl) ?_;symm;show dW (SqT.of e) (aX (j:=4) (v:=.int (h:Nat)) rfl) ?_;symm;show#[a,ns,b,ms,h,_,rfl,M,U,(),o4,o5,λlp H3 zs w Z P ad=>?_];symm;show dW (SqT.of (w.get e)) (aX (j:=4) (v:=.int (h:Nat)) rfl) ?_;symm;show eG (w.get e) ?_;symm;walk_at "ns";show Px b (Ó _) () () (λk t H'=>Same H3 H'/\∃us:List Lz,t=us.map (λz:Lz=>V.ref z.1)/\us.map (λz:Lz=>z.2.1)=O.take k/\∀z∈us,H' z.1=!(.tup [.str z.2.1,.ref z.2.2.1])/\H' z.2.2.1=!(.tup (nv z.2.2.2))/\(1<=z.2.2.2.length/\z.2.2.2.length<=8)/\∀x∈z.2.2.2,x<2^h) #[Same.refl _,[],rfl,rfl,by simp] ?_ ?_ ?_;.rintro k t H' ⟨_,us,rfl,m,_⟩;have:=ß List.length m;rw[Qb,Ñ]at this;rw[Qb];rfl'
 .rintro k t H' hk ⟨s',us,rfl,m,n⟩;let#[s,S]:∃s,O[k]?=!s:=#[_,Zz ()];let#[z,hz]:∃z,zs[k]?=!z:=#[_,Zz ()];let#[w1,w2,w3,w4]:=P.2 z (Zs hz);symm;show dU (s'.seq (w.seq hG)) (aX (j:=k) (v:=.str s) (by rw[Xs,S];rfl)) ?_;symm;show dU (SqL.of (s'.get P.1)) (aX (j:=k) (v:=.ref z.1) (by rw[Xs,hz];rfl)) ?_;symm;intro tp i;show#[s'.new i,us++[(tp,s,z.1,z.2)],by rw[Wp];rfl,by rw[Wp,m,Ø,S];rfl,λy b=>?_];rcases Â.mp b with b|b;.show #[aD i (n y b).1,aD i (n y b).2.1,(n y b).2.2]
  .rw [Zp.mp b];show#[ao,aD i (s'.get w1),#[w2,w3],w4]
 rintro t A ⟨X,us,rfl,m,n⟩ p N;have F:us.length=b:=by have:=ß List.length m;rw[Qb,Ñ]at this;rfl'
 symm;show ul (zs:=us.map λz:Lz=>(z.1,z.2.1,[V.ref z.2.2.1])) (SqL.of (by rw[ao,Á];rfl)) (λz d=>?_) (by rw[Á];change(us.map λz:Lz=>z.2.1).Nodup;rw[m];show Đ (Ě _ _) J) (by rw[Qb];rfl') λr2 vs G o C=>?_;.obtain ⟨y,b,rfl⟩:=Zl.mp d;show SqT.of (aD N (n y b).1)
 let#[c,pv,rfl]:=lH G;rw[Á]at o⊢;symm;show Q6 (SqL.of ao) λl ob I W=>?_;symm;intro f R;have D:c.length=b:=by rw[pv.length_eq,F]
 have u:∀z∈c,A z.1=!(.tup [.str z.2.1,.ref z.2.2.1])/\A z.2.2.1=!(.tup (nv z.2.2.2))/\(1<=z.2.2.2.length/\z.2.2.2.length<=8)/\∀x∈z.2.2.2,x<2^h:=λz d=>n z (pv.mem_iff.mp d);let#[r,g]:∃r,r=upd (upd (upd (upd A p (HO.lst (us.map λz:Lz=>V.ref z.1))) r2 (HO.lst (c.map ((λz:Addr×Str×List V=>V.ref z.1)∘λz:Lz=>(z.1,z.2.1,[V.ref z.2.2.1]))))) l (HO.frz ob (HO.tup (c.map ((λz:Addr×Str×List V=>V.ref z.1)∘λz:Lz=>(z.1,z.2.1,[V.ref z.2.2.1])))))) f (HO.tup [V.int (h:Nat),V.ref l]):=#[_,rfl];have B:Same A r:=by rw[g];show(((aB N _).new C).new W).new R
 have hF:FnF K r f h (c.map λz:Lz=>(z.2.1,z.2.2.2)):=#[l,ob,c,by rw[g];show ao,rfl,I,by rw[g];show aD R ao,λz d=>#[B.get (u z d).1,B.get (u z d).2.1]];have wf:Fo.Wf h (c.map λz:Lz=>(z.2.1,z.2.2.2)):=by
  show#[by rw[Qb];rfl',by rw[Qb];rfl',?_,λy b=>?_,λy b=>?_,λy b=>?_];.rw [Á];show o
  .obtain ⟨z,d,rfl⟩:=Zl.mp b;have:z.2.1∈us.map (λz:Lz=>z.2.1):=Zl.mpr #[z,pv.mem_iff.mp d,rfl];rw[m]at this;show L _ (Ē this)
  .obtain ⟨z,d,rfl⟩:=Zl.mp b;show(u z d).2.2.1
  .obtain ⟨z,d,rfl⟩:=Zl.mp b;show(u z d).2.2.2
 rw[<-g];show q f r _ ((w.trans X).trans B) hF wf (by rw[Qb];show D)
def RwJ (many:Nat) (ss:List Str) (r:List Dz):Prop:=(r.map (·.2.1)).Nodup/\∀z∈r,z.2.1∈ss/\0<=z.2.2/\z.2.2<many
theorem RwJ.len {a:Nat} {b:List Str} {r:List Dz} (h:RwJ a b r):r.length<=b.length:=by
 have:=cZ (l:=r.map (·.2.1)) (m:=b) h.1 λx c=>by let#[z,d,rfl]:=Zl.mp c;show(h.2 z d).1
 rw[Qb]at this;show this
inductive sp_f12 (K:W.Frag) (vs:List V) (H:Hp) (Q:VK) (E:XK):Prop|mk (a sg:Addr) (cs:List Int) (many:Nat) (ss:List Str) (h0:vs=[.ref a,.int many,.ref sg]) (h1:SqL K H a (cs.map V.int)) (h2:cs.length<=63) (h3:(1<=many/\many<=40)) (h4:SqL K H sg (ss.map V.str)) (h5:(1<=ss.length/\ss.length<=42)) (h6:∀r H' ds es,Same H H'->HsT K H' r ds es->ds.length=many->(∀ps∈ds,ps.length<=ss.length/\(ps.map (·.1)).Nodup/\∀q∈ps,0<=q.2/\q.2<many)->Q (.ref r) H'):sp_f12 K vs H Q E
abbrev Gx (K:W.Frag):TS:=(aF (aP (aH cL (aH cC (aH cC (aa 8) (aa 1)) (tC (V.int 3))) (aa 1)) (au 9))
  (bW (jH (aZ (aH oH (aH cL (aH cC (aa 8) (aa 1)) (tC (V.int 3))) (tC (V.int 0)))) (aZ (aH (xX K true) (aa 9) (aa 4)))) (du (oO K "list" cA (aa 4) (aj (aa 9) aA))) bh))
abbrev Gy (K:W.Frag):TS:=(aF (bW (aZ (aH (xX K true) (aa 7) (oR [none] (cO K (aH (fj K) (aa 3) (aa 6))) (au 0) fu (aH (aO K) (aa 0) (tC (V.int 0)))))) (du (oO K "list" cA (aH (fj K) (aa 3) (aa 6)) (aj (bZ (aj (aa 7) (aj (aH cL (aa 8) (aa 1)) aA))) aA))) bh)
  (Gx K))
abbrev GC (K:W.Frag):TS:=(aF (aP (aH cL (aa 5) (aa 1)) (au 6))
  (aF (aP (aH (fj K) (aa 2) (aH cL (aH cC (aa 5) (aa 1)) (cF (cg K) (aj (aa 2) aA)))) (au 7))
  (aF (aP (aH cC (aH cC (aa 5) (aa 1)) (cF (cg K) (aj (aa 2) aA))) (au 8))
  (Gy K))))
abbrev GD (K:W.Frag):TS:=(aF (d9 (cO K (aa 0)) (au 5) (GC K))
  (b7 (bZ (aj (cF (dM K) (aj (oR [none] (cO K (aa 3)) (au 0) fu (cF (dM K) (aj (cF (iw K) (aj (aa 0) aA)) aA))) aA)) (aj (cF (dM K) (aj (cF (qF K) (aj (aa 4) aA)) aA)) aA)))))
def xf (K:W.Frag) (E:XK) (Eh:XK):TS:=(aF (aP (oR [none] (iJ (aj (aa 1) aA)) (au 0) fu (gG aA)) (au 3))
  (aF (aP (gG aA) (au 4))
  (GD K)))
theorem QW (h:sp_f12 K vs H Q E):∃Eh,xf K E Eh {nx:=λ_ H'=>Q .non H',rt:=Q} (start ["cells","many","signs","doors","ends","cell","room","sign","rest","last"] vs) H:=by
 let#[a,sg,cs,g,S,rfl,hS,bd,#[bi,bp],hG,#[bl,bq],q]:=h;show#[E0,?_];unfold xf;symm;show Q4 g (Ó _) () () (λi H' hi A kA=>?_) λd H1 as s1 a2 ay a1 av Z ai=>?_;.symm;intro p w;show kA p w
 symm;intro e he;symm;have a9:H e=none:=s1.free he;have a7:d≠e:=aW ai he;have aw:e∉as:=λm=>by rw[(Z e m).2]at he;cases he
 have X:∀p∈d::e::as,H p=none:=by
  intro p w;rcases Å.mp w with rfl|w;.show a2
  rcases Å.mp w with rfl|w;.show a9
  .show (Z p w).1
 have S0:Same H (upd H1 e (.lst [])):=s1.new he;walk_at "ns";show gD V.int (zs:=cs) (S0.seq hS) (λi σ H'=>∃(f:List (Addr×List Dz)) (n:List Int),Rws H' f/\f.map (·.1)=as/\(∀J∈f,RwJ g S J.2)/\Sb (d::e::as) H H'/\H' d=!(.lst (as.map V.ref))/\H' e=!(.lst (n.map V.int))/\n.Nodup/\n.length<=i/\∃o1 o2 o3 o4 o5,σ=[!(.ref a),!(.int (g:Nat)),!(.ref sg),!(.ref d),!(.ref e),o1,o2,o3,o4,o5]) ?_ ?_ ?_ ?_
 .show #[as.map λb=>(b,[]),[],#[by rw[Á];simpa[Τ]using a1,λJ M=>?_],by rw[Á];simp[Τ],λJ M=>?_,Sb.of S0,aD he ai,ao,by simp,by simp,none,none,none,none,none,rfl];.obtain ⟨b,hb,rfl⟩:=Zl.mp M;show#[aD he (Z b hb).2,by simp]
  .obtain ⟨b,hb,rfl⟩:=Zl.mp M;show#[by simp,by simp]
 .rintro i σ H' ⟨f,n,R,I,F,sb,D,C,P,ae,o1,o2,o3,o4,o5,rfl⟩;show sb.seq X hS
 .rintro i c σ H' hc ⟨f,n,R,I,F,sb,D,C,P,ae,o1,o2,o3,o4,o5,rfl⟩;have bo:i<cs.length:=(É.mp hc).1;have ad:=sb.seq X hG;let#[j,ej,hj]:=Mm.lZ c g ();have a6:f.length=g:=by rw[<-ay,<-I,Qb]
  have W:j<f.length:=();have O:f[j]∈f:=ì W;have ap:xV (as.map V.ref) (j:Int)=!(.ref f[j].1):=by show aX ?_;rw[<-I,Á,Xs,Zz W];rfl
  let#[u,eu,hu]:=Mm.lZ (c/g) S.length ();let#[s,hs]:∃s,S[u]?=!s:=#[_,Zz hu];have a8:=Zs hs;symm;rw[ej];show fB ad ?_;rw[Qb];show Es () eu ?_;show dU ad (aX (j:=u) (v:=.str s) (by rw[Xs,hs];rfl)) ?_;symm;show fB ad ?_;rw[Qb];walk_at "gj";walk_at "ns";have ah:0<=c/(g:Int)/(S.length:Int)%(g:Int):=ĩ _ ();have af:c/(g:Int)/(S.length:Int)%(g:Int)<g:=Ğ _ ();generalize c/(g:Int)/(S.length:Int)=rest at ah af;with_reducible show nU (λak H'=>∃(f:List (Addr×List Dz)),Rws H' f/\f.map (·.1)=as/\(∀J∈f,RwJ g S J.2)/\Sb (d::e::as) H H'/\H' d=!(.lst (as.map V.ref))/\H' e=!(.lst (n.map V.int))/\ak=[!(.ref a),!(.int (g:Nat)),!(.ref sg),!(.ref d),!(.ref e),!(.int c),!(.int (j:Int)),!(.str s),!(.int rest),o5]) ?_ ?_
  .rintro ak H2 ⟨f,R,I,F,sb,D,C,rfl⟩;symm;generalize rest/(g:Int)/3%(g:Int)=last;show gb (λc1=>?_) λc1=>?_
   .symm;show qU (.inl (SqL.of C)) rfl (gf _) ?_;rw[iC];symm;show pZ (λc2=>?_) λc2=>?_;.symm;show dI (SqL.of C) ?_;symm;show fH C (by rw[Qb];rfl') ?_;symm;show#[f,n++[last],R.setO C (by rw[I];show aw),I,F,sb.set (by simp),by rw[az a7];show D,by rw[ao,Wp];rfl,?_,by simp;rfl',_,_,_,_,_,rfl];rw[ð];show#[P,by simp,λx m y my ee=>c2 ?_];rw[Zp.mp my]at ee;rw[<-ee];show m
    .symm;show#[f,n,R,I,F,sb,D,C,P,(),_,_,_,_,_,rfl]
   .symm;show#[f,n,R,I,F,sb,D,C,P,(),_,_,_,_,_,rfl]
  .intro N hN;symm;show dU (SqL.of D) ap ?_;have B:=R.2 _ O;have ag:=F _ O;have bk:=ag.len;show Ei (λz:Dz=>V.ref z.1) (SqL.of B.1) () (λz=>V.str z.2.1) (λk z hz A kA=>?_) λp w=>?_;.have tz:=B.2 z (Zs hz);symm;show dW (SqT.of tz) (aX (j:=0) (v:=.str z.2.1) rfl) kA
   .symm;show qU (xs:=(f[j].2.map (·.2.1)).map V.str) (.inl (SqL.of (by rw[ao,Á];rfl))) rfl (zY _) ?_;rw[K6];symm;show pZ (λc2=>?_) λc2=>?_
    .symm;show dU (SqL.of (aD w D)) ap ?_;symm;show dI (SqL.of (aD w B.1)) ?_;symm;intro t L;symm;show fH (aD L (aD w B.1)) (by rw[Qb];rfl') ?_;symm;have ax:=((R.same (aB w (HO.lst (f[j].2.map λz=>V.str z.2.1)))).same (aB L (HO.tup [V.str s,V.int (rest%(g:Int))]))).app (t:=t) W ao;have a5:d≠f[j].1:=λz=>av (by rw[z,<-I];show Zl.mpr #[_,O,rfl]);have a3:e≠f[j].1:=λz=>aw (by rw[z,<-I];show Zl.mpr #[_,O,rfl]);show hN _ _ #[f.set j (f[j].1,f[j].2++[(t,s,rest%(g:Int))]),?_,(yG W _).trans I,λJ M=>?_,((sb.new w).new L).set (Í _ (Í _ (by rw[<-I];show Zl.mpr #[_,O,rfl]))),?_,?_,rfl];.rw [Wp]at ax;show ax
     .rcases List.mem_or_eq_of_mem_set M with m|rfl;.show F J m
      .obtain ⟨k1,k3⟩:=ag;show#[?_,λz hz=>?_];.rw [Wp,ð];show#[k1,by simp,λx m y my ee=>c2 ?_];rw[Ä,û,Zp]at my;have a4:y=s:=my;rw[<-a4,<-ee];show m
       .rcases Â.mp hz with m|m;.show k3 z m
        .rw [Zp.mp m];show#[a8,ah,af]
     .rw [az a5];show aD L (aD w D)
     .rw [az a3];show aD L (aD w C)
    .symm;show hN _ _ #[f,R.same (aB w _),I,F,sb.new w,aD w D,aD w C,rfl]
 rintro σ H2 ⟨f,n,R,I,F,sb,D,C,P,ae,o1,o2,o3,o4,o5,rfl⟩;have a6:f.length=g:=by rw[<-ay,<-I,Qb]
 have S2:Same H H2:=sb.off X;symm;show zX V.ref (zs:=as) (SqL.of D) () (λk ys H'=>∃G:List (Addr×L1S),ys=G.map (λt=>V.ref t.1)/\G.length=k/\Same H2 H'/\∀t∈G,DrT K H' t.1 t.2/\t.2.length<=S.length/\(t.2.map (·.1)).Nodup/\∀q∈t.2,0<=q.2/\q.2<g) #[[],rfl,rfl,Same.refl _,by simp] ?_ ?_ ?_ ?_;.rintro k ys H' ⟨G,rfl,_,s',_⟩;show SqL.of (s'.get D)
 .rintro k ys H' ⟨G,rfl,rfl,_⟩;simp
 .rintro k b ys H' hb ⟨G,rfl,hk,s',L⟩;have al:k<f.length:=by have:=(É.mp hb).1;rfl'
  have Y:f[k]∈f:=ì al;have eb:b=f[k].1:=by
   rw[<-I,Xs,Zz al]at hb;cases hb;rfl
  subst eb;have B:=(R.same s').2 _ Y;have be:=(F _ Y).len;let#[k1,k3]:=F _ Y;symm;show uo (zs:=f[k].2) (SqL.of B.1) (λz m=>SqT.of (B.2 z m)) k1 () λr ws w hs M=>?_;symm;show iG (SqL.of ao) λl hl=>?_;show#[G++[(l,ws.map (·.2))],by simp,by simp[hk],(s'.new M).new hl,λt U=>?_];rcases Â.mp U with U|U;.show #[(L t U).1.same ((aB M _).new hl),(L t U).2]
  .rw [Zp.mp U];show#[#[ws,rfl,ao,λz m=>aD hl (aD M (B.2 z (w.mem_iff.mp m)))],by change(ws.map (·.2)).length<=S.length;rw[Qb,w.length_eq];rfl',by rw[Á];show(w.map (·.2.1)).nodup_iff.mpr k1,λq mq=>?_];let#[z,mz,rfl]:=Zl.mp mq;show(k3 z (w.mem_iff.mp mz)).2
 rintro ys H3 ⟨G,rfl,hk,s3,L⟩ p w;have s4:Same H2 (upd H3 p (.lst (G.map λt=>V.ref t.1))):=s3.new w;have e4:upd H3 p (.lst (G.map λt=>V.ref t.1)) p=!(.lst (G.map λt=>V.ref t.1)):=ao;replace L:∀t∈G,DrT K (upd H3 p (.lst (G.map λt=>V.ref t.1))) t.1 t.2/\t.2.length<=S.length/\(t.2.map (·.1)).Nodup/\∀q∈t.2,0<=q.2/\q.2<g:=λt m=>#[(L t m).1.same (aB w _),(L t m).2];generalize upd H3 p (.lst (G.map λt=>V.ref t.1))=H4 at s4 e4 L;symm;show iG (SqL.of e4) λtd ar=>?_;symm;show K5 (ns:=n) (SqL.of (aD ar (s4.get C))) () λr ns bg bn M=>?_;symm;show iG (SqL.of ao) λte am=>?_;symm;intro h hh;have T:=Same.new (o:=HO.tup [V.ref td,V.ref te]) (Same.new (o:=HO.tup (ns.map V.int)) (Same.new (o:=HO.lst (ns.map V.int)) (aB ar (HO.tup (G.map λt=>V.ref t.1))) M) am) hh;show q h _ (G.map (·.2)) ns (S2.trans (s4.trans T)) #[td,te,G,ao,rfl,aD hh (aD am (aD M ao)),λt U=>(L t U).1.same T,aD hh ao] (by rw[Qb];rfl') λps bb=>?_;let#[t,U,rfl]:=Zl.mp bb;show(L t U).2
theorem yS {K:W.Frag} {a:Addr} {ps:L1S} {o:HO} (h:DrT K H a ps) (e:H q=!(.lst ys)):DrT K (upd H q o) a ps:=by let#[zs,b,c,f]:=h;show#[zs,b,cW c e,λz d=>cW (f z d) e]
inductive sp_f16 (K:W.Frag) (vs:List V) (H:Hp) (Q:VK) (E:XK):Prop|mk (a sh sg:Addr) (ns:List Int) (kd rm my ms ht:Nat) (ss:List Str) (h0:vs=[.ref a,.ref sh,.ref sg]) (h1:SqL K H a (ns.map V.int)) (h2:ns.length<=63) (h3:H sh=!(.tup [.int (kd:Nat),.int (rm:Nat),.int (my:Nat),.int (ms:Nat),.int (ht:Nat)])) (h4:Vp kd rm my ms ht) (h5:SqL K H sg (ss.map V.str)) (h6:ss.length=my+2) (h7:ss.Nodup) (h8:∀r H' ds es,Same H H'->HsT K H' r ds es->0<ds.length->ds.length<=rm+1->(∀ps∈ds,ps.length<=18/\(ps.map (·.1)).Nodup/\∀q∈ps,0<=q.2/\q.2<ds.length)->Q (.ref r) H'):sp_f16 K vs H Q E
abbrev GF (K:W.Frag):TS:=(aF (d9 (iJ (aj (aa 5) aA)) (au 9) (bW (aZ (aH oH (aa 3) (tC (V.int 2)))) (du (oO K "list" cA (aa 8) (aj (bZ (aj (aH (fj K) (aa 2) (aa 9)) (aj (aH cL (aH cD (aH cD (aa 7) (aa 9)) (tC (V.int 1))) (aa 4)) aA))) aA))) (bW (aZ (aH oH (aH cL (aH lX (aR (sp_f3 K) [] E0 (aj (aa 0) (aj (aH cD (tC (V.int 21)) (aa 7)) aA))) (aH yf (tC (V.int 1)) (aa 9))) (tC (V.int 2))) (tC (V.int 0)))) (du (oO K "list" cA (aa 8) (aj (bZ (aj (aH (fj K) (aa 2) (aa 9)) (aj (aH cD (aa 7) (tC (V.int 1))) aA))) aA))) bh)))
  (du (oO K "list" cA (aa 6) (aj (cF (dM K) (aj (cF (iw K) (aj (aa 8) aA)) aA)) aA))))
abbrev GJ (K:W.Frag):TS:=(aF (bW (aZ (aH oH (aa 3) (tC (V.int 2)))) (b7 (bZ (aj (cF (dM K) (aj (aa 6) aA)) (aj (bZ (aj (tC (V.int 0)) aA)) aA)))) bh)
  (b7 (bZ (aj (cF (dM K) (aj (aH Td (aa 6) (gG (aj (bZ aA) aA))) aA)) (aj (bZ (aj (aa 4) aA)) aA)))))
abbrev GK (K:W.Frag):TS:=(aF (bW (aZ (aH J7 (aa 3) (tC (V.int 2)))) (b7 (aR (sp_f12 K) [] E0 (aj (uU (Bp K) (aa 0) (fD (tC (V.int 5))) (fD (tC (V.int 65)))) (aj (aa 4) (aj (aa 2) aA))))) bh)
  (aF (aP (gG aA) (au 6))
  (aF (d9 (iJ (aj (aa 4) aA)) (au 7) (aF (aP (gG aA) (au 8))
  (GF K)))
  (GJ K))))
def xg (K:W.Frag) (E:XK) (Eh:XK):TS:=(aF (aP (uU (MP K) (aa 1) cU (fD (tC (V.int 3)))) (gZ K 3 (bC (au 3) (bC (au 4) (bC (au 5) iQ)))))
  (GK K))
theorem QX (h:sp_f16 K vs H Q E):∃Eh,xg K E Eh {nx:=λ_ H'=>Q .non H',rt:=Q} (start ["script","shape","signs","kind","rooms","many","doors","room","pairs","k"] vs) H:=by
 let#[a,sh,sg,ns,kd,C,O,ms,A,ss,rfl,hS,av,ax,hO,hG,a6,al,q]:=h;show#[E0,?_];unfold xg;let#[o1,o2,o3,o4,o5,o6]:=id hO;have c5:fM (ns.map V.int) (!5) (!65)=(ns.drop 5).map V.int:=by rw[JN (by decide) (by decide),è (by rw[Qb];show Û av (by decide)),<-ť];rfl
 symm;show#[sh,_,rfl,SqT.of ax,by change ¬(HT.dJ 5 0 none=0/\HT.dJ 5 5 (!3)=5);decide,λp1 a2=>?_];have s1:Same H (upd H p1 (HO.tup (fM [.int (kd:Nat),.int (C:Nat),.int (O:Nat),.int (ms:Nat),.int (A:Nat)] none !3))):=aB a2 _;have ah:upd H p1 (HO.tup (fM [.int (kd:Nat),.int (C:Nat),.int (O:Nat),.int (ms:Nat),.int (A:Nat)] none !3)) p1=!(.tup [.int (kd:Nat),.int (C:Nat),.int (O:Nat)]):=ao;generalize upd H p1 (HO.tup (fM [.int (kd:Nat),.int (C:Nat),.int (O:Nat),.int (ms:Nat),.int (A:Nat)] none !3))=H1 at s1 ah⊢;show dh (SqT.of ah) rfl ?_;replace hS:=s1.seq hS;replace hG:=s1.seq hG;walk_at "ns";symm;show gb (λc1=>?_) λc1=>?_;.symm;show Le hS λp2 as=>?_;rw[c5];symm;show#[p2,sg,ns.drop 5,C,ss,rfl,SqL.of ao,by rw[ô];rfl',#[(),()],(aB as _).seq hG,#[(),()],λr H' ds es R hH ay af=>?_];show q r H' ds es (s1.trans ((aB as _).trans R)) hH () () λps B=>#[by have:=(af ps B).1;rfl',(af ps B).2.1,by rw[ay];show(af ps B).2.2]
 symm;intro dr W;symm;walk_at "ns";let#[bd,X]:∃bd:Nat,bd=if kd=2 then C else C+1:=#[_,rfl];show nR C (Ó _) () () (λi Z H'=>Sb [dr] H1 H'/\∃(w:List (Addr×L1S)) (o7 o8 U:Option V),H' dr=!(.lst (w.map λt=>V.ref t.1))/\w.length=i/\(∀t∈w,DrT K H' t.1 t.2/\t.2.length<=18/\(t.2.map (·.1)).Nodup/\∀q∈t.2,0<=q.2/\q.2<bd)/\Z=[!(.ref a),!(.ref sh),!(.ref sg),!(.int (kd:Nat)),!(.int (C:Nat)),!(.int (O:Nat)),!(.ref dr),o7,o8,U]) #[Sb.of (aB W _),[],_,_,_,ao,rfl,by simp,rfl] ?_ ?_
 .rintro i Z H' hi ⟨sb,w,o7,o8,U,D,G,c,rfl⟩;symm;intro pl J;have a7:dr≠pl:=aW D J;have S0:Same H1 H':=sb.off λp M=>by rw[Zp.mp M];show W
  have am:H1 pl=none:=S0.free J;have aw:∀p∈[dr,pl],H1 p=none:=λp M=>by
   simp only[Å,æ,ď]at M;rcases M with rfl|rfl;.show W
   .show am
  have a1:=sb.new (o:=HO.lst []) J;symm;walk_at "ns";show nR O (Ó _) () () (λk Z H2=>Sb [dr,pl] H1 H2/\Same H' H2/\∃(zs:List Dz) (U:Option V),H2 pl=!(.lst (zs.map λz:Dz=>V.ref z.1))/\(zs.map (·.2.1)).Sublist (ss.take k)/\(∀z∈zs,H2 z.1=!(.tup [.str z.2.1,.int z.2.2])/\0<=z.2.2/\z.2.2<bd)/\Z=[!(.ref a),!(.ref sh),!(.ref sg),!(.int (kd:Nat)),!(.int (C:Nat)),!(.int (O:Nat)),!(.ref dr),!(.int (i:Nat)),!(.ref pl),U]) #[a1.more (by simp),aB J _,[],_,ao,by simp,by simp,rfl] ?_ ?_
  .rintro k Z H2 hk ⟨P,R,zs,U,g,f,hz,rfl⟩;have S2:=P.off aw;let#[s,hs]:∃s,ss[k]?=!s:=#[_,Zz ()];have a5:ss.take (k+1)=ss.take k++[s]:=by rw[Ø,hs];rfl
   have a3:zs.length<=k:=by have:=f.length_le;rw[Qb,Ñ]at this;rfl'
   have add:∀(x:Int),0<=x->x<bd->∀t,H2 t=none->Sb [dr,pl] H1 (upd (upd H2 t (HO.tup [.str s,.int x])) pl (HO.lst (zs.map (λz:Dz=>V.ref z.1)++[V.ref t])))/\Same H' (upd (upd H2 t (HO.tup [.str s,.int x])) pl (HO.lst (zs.map (λz:Dz=>V.ref z.1)++[V.ref t])))/\∃(ae:List Dz) (U:Option V),upd (upd H2 t (HO.tup [.str s,.int x])) pl (HO.lst (zs.map (λz:Dz=>V.ref z.1)++[V.ref t])) pl=!(.lst (ae.map λz:Dz=>V.ref z.1))/\(ae.map (·.2.1)).Sublist (ss.take (k+1))/\(∀z∈ae,upd (upd H2 t (HO.tup [.str s,.int x])) pl (HO.lst (zs.map (λz:Dz=>V.ref z.1)++[V.ref t])) z.1=!(.tup [.str z.2.1,.int z.2.2])/\0<=z.2.2/\z.2.2<bd)/\[!(.ref a),!(.ref sh),!(.ref sg),!(.int (kd:Nat)),!(.int (C:Nat)),!(.int (O:Nat)),!(.ref dr),!(.int (i:Nat)),!(.ref pl),!(.int (k:Nat))]=[!(.ref a),!(.ref sh),!(.ref sg),!(.int (kd:Nat)),!(.int (C:Nat)),!(.int (O:Nat)),!(.ref dr),!(.int (i:Nat)),!(.ref pl),U]:=λx x0 x1 t A=>by
    show#[(P.new A).set (by simp),λb o e=>?_,zs++[(t,s,x)],_,by rw[ao,Wp];rfl,by rw[Wp,a5];show f.append (List.Sublist.refl _),λz Y=>?_,rfl];.rw [az λz=>by rw[z,J]at e;cases e];show(R.new A) b o e
    .rcases Â.mp Y with Y|Y;.show #[cW (aD A (hz z Y).1) (aD A g),(hz z Y).2]
     .rw [Zp.mp Y];show#[cW ao (aD A g),x0,x1]
   have stay:∀k'≥k,(zs.map (·.2.1)).Sublist (ss.take k'):=λk' a4=>f.trans (List.take_sublist_take_left a4);symm;show gb (λc2=>?_) λc2=>?_;.symm;show dI (SqL.of g) ?_;symm;show dU (S2.seq hG) (aX (j:=k) (v:=.str s) (by rw[Xs,hs];rfl)) ?_;symm;intro t A;symm;show fH (aD A g) (by rw[Qb];rfl') ?_;symm;show add _ (ĩ _ ()) (by rw[X,if_pos ()];show Ğ _ ()) t A
   .symm;rw[show(21:Int)+(i:Int)=((21+i:Nat):Int)by rfl'];show#[a,ns,21+i,rfl,S2.seq hS,?_];symm;show yH () ?_;symm;show gb (λc3=>?_) λc3=>?_;.symm;show dI (SqL.of g) ?_;symm;show dU (S2.seq hG) (aX (j:=k) (v:=.str s) (by rw[Xs,hs];rfl)) ?_;symm;intro t A;symm;show fH (aD A g) (by rw[Qb];rfl') ?_;symm;show add _ () (by rw[X,if_neg ()];rfl') t A
    .symm;show#[P,R,zs,_,g,stay _ (Ū k),hz,rfl]
  .rintro Z H2 ⟨P,R,zs,U,g,f,hz,rfl⟩;have a3:zs.length<=O:=by have:=f.length_le;rw[Qb,Ñ]at this;rfl'
   symm;show dI (SqL.of (R.get D)) ?_;symm;show uo (zs:=zs) (SqL.of g) (λz m=>SqT.of (hz z m).1) (Đ (f.trans (Ě _ _)) al) () λr N hp hs S=>?_;symm;show iG (SqL.of ao) λl hl=>?_;have s3:=(aB S (HO.lst (N.map λz:Dz=>V.ref z.1))).new (o:=HO.tup (N.map λz:Dz=>V.ref z.1)) hl;have hD:DrT K (upd (upd H2 r (HO.lst (N.map λz:Dz=>V.ref z.1))) l (HO.tup (N.map λz:Dz=>V.ref z.1))) l (N.map (·.2)):=#[N,rfl,ao,λz m=>s3.get (hz z (hp.mem_iff.mp m)).1];generalize upd (upd H2 r (HO.lst (N.map λz:Dz=>V.ref z.1))) l (HO.tup (N.map λz:Dz=>V.ref z.1))=H3 at s3 hD⊢;symm;have I:=s3.get (R.get D);show fH I (by rw[Qb];rfl') ?_;symm;show#[λb o n e=>?_,w++[(l,N.map (·.2))],_,_,_,by rw[ao,Wp];rfl,by rw[À,Õ,G],λt d=>?_,rfl];.rw [az λz=>n (by rw[z];simp)];show s3 b o (R b o (S0 b o e))
   .rcases Â.mp d with d|d;.show #[yS (((c t d).1.same R).same s3) I,(c t d).2]
    .rw [Zp.mp d];show#[yS hD I,by change(N.map (·.2)).length<=18;rw[Qb,hp.length_eq];rfl',by rw[Á];show(hp.map (·.2.1)).nodup_iff.mpr (Đ (f.trans (Ě _ _)) al),λq mq=>?_];let#[z,Y,rfl]:=Zl.mp mq;show(hz z (hp.mem_iff.mp Y)).2
 .rintro Z H' ⟨sb,w,o7,o8,U,D,G,c,rfl⟩;have S0:Same H1 H':=sb.off λp M=>by rw[Zp.mp M];show W
  symm;show gb (λc2=>?_) λc2=>?_;.symm;show iG (SqL.of D) λtd ag=>?_;symm;intro te L;symm;intro r S;have T:=Same.new (o:=HO.tup [V.ref td,V.ref te]) (Same.new (o:=HO.tup [V.int 0]) (aB ag (HO.tup (w.map λt=>V.ref t.1))) L) S;rw[X,if_pos ()]at c;show q r _ (w.map (·.2)) [0] (s1.trans (S0.trans T)) #[td,te,w,ao,rfl,aD S (aD L ao),λt d=>(c t d).1.same T,aD S ao] (by rw[Qb];rfl') (by rw[Qb];rfl') λps B=>?_;let#[t,d,rfl]:=Zl.mp B;show#[(c t d).2.1,(c t d).2.2.1,λy F=>?_];have:=(c t d).2.2.2 y F;rw[Qb,G];show this
  .symm;intro u ak;symm;intro el ad;have e2:upd (upd H' u (HO.tup [])) el (HO.lst [V.ref u]) dr=!(.lst (w.map λt=>V.ref t.1)):=aD ad (aD ak D);show#[dr,el,_,_,rfl,rfl,e2,ao,by rw[Qb,G];show small (by simp;rfl'),λcl ar=>?_];have T1:=Same.new (o:=HO.lst (w.map (λt=>V.ref t.1)++[V.ref u])) (Same.new (o:=HO.lst [V.ref u]) (aB ak (HO.tup [])) ad) ar;have ai:upd (upd (upd H' u (HO.tup [])) el (HO.lst [V.ref u])) cl (HO.lst (w.map (λt=>V.ref t.1)++[V.ref u])) u=!(.tup []):=aD ar (aD ad ao);have ap:upd (upd (upd H' u (HO.tup [])) el (HO.lst [V.ref u])) cl (HO.lst (w.map (λt=>V.ref t.1)++[V.ref u])) cl=!(.lst ((w++[((u,[]):Addr×L1S)]).map λt=>V.ref t.1)):=by rw[ao,Wp];rfl
   generalize upd (upd (upd H' u (HO.tup [])) el (HO.lst [V.ref u])) cl (HO.lst (w.map (λt=>V.ref t.1)++[V.ref u]))=H5 at T1 ai ap⊢;symm;show iG (SqL.of ap) λtd ag=>?_;symm;intro te L;symm;intro r S;have T:=Same.new (o:=HO.tup [V.ref td,V.ref te]) (Same.new (o:=HO.tup [V.int (C:Nat)]) (aB ag (HO.tup ((w++[((u,[]):Addr×L1S)]).map λt=>V.ref t.1))) L) S;rw[X,if_neg ()]at c;show q r _ ((w++[((u,[]):Addr×L1S)]).map (·.2)) [(C:Int)] (s1.trans (S0.trans (T1.trans T))) #[td,te,w++[((u,[]):Addr×L1S)],ao,rfl,aD S (aD L ao),λt d=>?_,aD S ao] (by rw[Qb,À,Õ];rfl') (by rw[Qb,À,Õ];rfl') λps B=>?_
   .rcases Â.mp d with d|d;.show ((c t d).1.same T1).same T
    .rw [Zp.mp d];show#[[],rfl,T.get ai,λz m=>(by cases m)]
   .rw [Qb,À,Õ,G];let#[t,d,rfl]:=Zl.mp B;rcases Â.mp d with d|d;.show #[(c t d).2.1,(c t d).2.2.1,λy F=>(c t d).2.2.2 y F]
    .rw [Zp.mp d];show#[Nat.zero_le _,Γ,λy F=>(by cases F)]
theorem GP {K:W.Frag} {a:Addr} (e:SqL K H a xs\/SqT K H a xs) (h:Q (.int xs.length) H):cg K [.ref a] H Q:=e.elim (λe=>fB e h) λe=>bL e h
theorem Ln {K:W.Frag} {a:Addr} {i:Int} (e:SqL K H a xs\/SqT K H a xs) (b:xV xs i=!v) (h:Q v H):T9 K (.ref a) (.int i) H Q:=e.elim (λe=>.inl (dU e b h)) λe=>.inr (.inl (dW e b h))
inductive sp_f21 (K:W.Frag) (vs:List V) (H:Hp) (Q:VK) (E:XK):Prop|mk (a b:Addr) (xs ys:List Nat) (h0:vs=[.ref a,.ref b]) (h1:(SqL K H a (nv xs)\/SqT K H a (nv xs))) (h2:(SqL K H b (nv ys)\/SqT K H b (nv ys))) (h3:xs.length<=1000000) (h4:ys.length<=1000000) (h5:Q (.int (Mm.dw (xs.take (min xs.length ys.length)) (ys.take (min xs.length ys.length)):Nat)) H):sp_f21 K vs H Q E
abbrev GQ (K:W.Frag):TS:=(aF (d9 (iJ (aj (cF kW (aj (cF (cg K) (aj (aa 0) aA)) (aj (cF (cg K) (aj (aa 1) aA)) aA))) aA)) (au 3) (aF (aP (aH KZ (aH (T9 K) (aa 0) (aa 3)) (aH (T9 K) (aa 1) (aa 3))) (au 4))
  (fc (aZ (aH kO (aa 4) (tC (V.int 0)))) (aF (aP (aH cD (aa 2) (aH cL (aa 4) (tC (V.int 2)))) (au 2))
  (aP (aH cC (aa 4) (tC (V.int 2))) (au 4))))))
  (b7 (aa 2)))
def xj (K:W.Frag) (E:XK) (Eh:XK):TS:=(aF (aP (tC (V.int 0)) (au 2))
  (GQ K))
theorem QZ (h:sp_f21 K vs H Q E):∃u,xj K E u {nx:=λ_ H'=>Q .non H',rt:=Q} (start ["one","other","many","k","left"] vs) H:=by
 let#[a,b,xs,d,rfl,t,s,J,L,q]:=h;show#[E0,?_];unfold xj;let#[m,w]:∃m,m=min xs.length d.length:=#[_,rfl];rw[<-w]at q;symm;show GP t ?_;rw[Qb];symm;show GP s ?_;rw[Qb];symm;rw[show(if(d.length:Int)<(xs.length:Int)then(d.length:Int)else(xs.length:Int))=(m:Int)by split<;>rfl'];show nR m (Ó _) () () (λi f H'=>H'=H/\∃p r,f=[!(.ref a),!(.ref b),!(.int (Mm.dw (xs.take i) (d.take i):Nat)),p,r]) #[rfl,none,none,rfl] ?_ ?_
 .rintro i f _ hi ⟨rfl,p,r,rfl⟩;rename_i H;have n:xs[i]?=some xs[i]:=Zz ();have o:d[i]?=some d[i]:=Zz ();have I:Mm.dw (xs.take (i+1)) (d.take (i+1))=Mm.dw (xs.take i) (d.take i)+Bm.pop (xs[i]^^^d[i]):=by rw[Ø,Ø,n,o];show Mm.pY _ _ _ _ (by rw[Ñ,Ñ];rfl')
  generalize xs[i]'(by rfl')=x at*;generalize d[i]'(by rfl')=y at*;symm;show Ln t (aX (j:=i) (v:=.int (x:Nat)) (by rw[Xs,n];rfl)) ?_;symm;show Ln s (aX (j:=i) (v:=.int (y:Nat)) (by rw[Xs,o];rfl)) ?_;symm;rw[Bx.mU];walk_at "ns";show m5 (λf H'=>H'=H/\∃(g l:Nat),g+Bm.pop l=Mm.dw (xs.take (i+1)) (d.take (i+1))/\f=[!(.ref a),!(.ref b),!(.int (g:Nat)),!(.int (i:Nat)),!(.int (l:Nat))]) (λf _=>match f with|[_,_,_,_,!(.int l)]=>l.toNat|_=>0) ⟨rfl,_,_,I.symm,rfl⟩ ?_ ?_
  .rintro _ _ ⟨rfl,g,l,e,rfl⟩;symm;show gb (λc=>?_) λc=>?_;.symm;walk_at "ns";rw[Bm.vg]at e;show#[#[rfl,g+l%2,l/2,(),by rw[show((g+l%2:Nat):Int)=(g:Int)+(l:Int)%2 by rfl',show((l/2:Nat):Int)=(l:Int)/2 by rfl']],?_];change((l:Int)/2).toNat<(l:Int).toNat;rfl'
   .have A:l=0:=();subst A;rw[Bm.jM]at e;symm;show#[rfl,_,_,by rw[<-e];rfl]
  .rintro f H Q M F ⟨v,D,i,j,G,B,k,C,z⟩;show#[v,D,i,j,G,B,k,C,F _ _ z]
 .rintro f _ ⟨rfl,p,r,rfl⟩;symm;show q
inductive sp_f18 (K:W.Frag) (vs:List V) (H:Hp) (Q:VK) (E:XK):Prop|mk (p1 p2:Addr) (xs ys:List Nat) (x y:Int) (h0:vs=[.ref p1,.ref p2,.int x,.int y]) (h1:H p1=!(.tup (nv xs))) (h2:H p2=!(.tup (nv ys))) (h3:xs.length<=100) (h4:ys.length<=100) (h5:∀r c H',Same H H'->H r=none->H' r=!(.tup [.int (cst ys xs:Nat),.ref c])->StT K H' c (m8 (Str.empty,xs,x) y ys)->Q (.ref r) H'):sp_f18 K vs H Q E
abbrev GX (K:W.Frag):TS:=(aF (bW (aZ (aH NK (cF (cg K) (aj (aa 0) aA)) (cF (cg K) (aj (aa 1) aA)))) (b7 (bZ (aj (aa 4) (aj (bZ (aj (aa 2) (aj (aa 3) (aj (uU (lN K) (aa 1) (fD (cF (cg K) (aj (aa 0) aA))) cU) aA)))) aA)))) bh)
  (b7 (bZ (aj (aa 4) (aj (bZ (aj (aa 3) (aj (aa 2) (aj (uU (lN K) (aa 0) (fD (cF (cg K) (aj (aa 1) aA))) cU) aA)))) aA)))))
def xm (K:W.Frag) (E:XK) (Eh:XK):TS:=(aF (aP (aR (sp_f21 K) [] E0 (aj (aa 0) (aj (aa 1) aA))) (au 4))
  (GX K))
theorem R0 (h:sp_f18 K vs H Q E):∃k,xm K E k {nx:=λ_ H'=>Q .non H',rt:=Q} (start ["one","other","x","y","cost"] vs) H:=by
 let#[l,m,xs,i,x,y,rfl,g,f,n,o,q]:=h;show#[E0,?_];unfold xm;symm;show#[l,m,xs,i,rfl,.inr (SqT.of g),.inr (SqT.of f),(),(),?_];symm;show bL (SqT.of g) ?_;rw[Qb];symm;show bL (SqT.of f) ?_;rw[Qb];symm;show gb (λc=>?_) λc=>?_;.symm;show bL (SqT.of g) ?_;rw[Qb];symm;show lA f λj H1 e d=>?_;rw[gR (),Ó,nv,<-ť]at d;symm;intro t b;symm;intro r a;show q r t _ ((e.new b).new a) ((e.new b).free a) ao ?_;unfold m8;rw[if_pos (show xs.length<=i.length by rfl')];show#[j,aD a ao,aD a (aD b d)]
 .symm;show bL (SqT.of f) ?_;rw[Qb];symm;show lA g λj H1 e d=>?_;rw[gR (),Ó,nv,<-ť]at d;symm;intro t b;symm;intro r a;show q r t _ ((e.new b).new a) ((e.new b).free a) ao ?_;unfold m8;rw[if_neg (show¬xs.length<=i.length by rfl')];show#[j,aD a ao,aD a (aD b d)]
def PcT (H:Hp) (pc:Addr) (zs:List Lz):Prop:=H pc=!(.dK (zs.map λz:Lz=>((Sum.inr z.2.1:Key),V.ref z.2.2.1)))/\∀z∈zs,H z.2.2.1=!(.tup (nv z.2.2.2))
theorem PcT.same {a:Addr} {zs:List Lz} (h:PcT H a zs) (s:Same H H'):PcT H' a zs:=#[s.get h.1,λz b=>s.get (h.2 z b)]
abbrev dj (zs:List Lz):List (Str×List Nat):=zs.map λz:Lz=>(z.2.1,z.2.2.2)
theorem rN {zs:List Lz} {s:Str} (h:Fo.lk (dj zs) s=none):bQ (zs.map λz:Lz=>((Sum.inr z.2.1:Key),V.ref z.2.2.1)) (Sum.inr s)=none:=j9 (f:=λz:Lz=>(Sum.inr z.2.1:Key)) (g:=λz:Lz=>V.ref z.2.2.1) λm=>by
 let#[z,b,e]:=Zl.mp m;let#[c,a]:=Fo.vV (ls:=dj zs) (s:=s) (by rw[Á];show Zl.mpr #[z,b,ř e]);rw[h]at a;cases a
theorem lF (ls:List (Str×List Nat)) {ps:L1S} {s:Str} {a:Int} (h:ps[i]?=!(s,a)):aN ls (ps.take (i+1))=aN ls (ps.take i)++(match Fo.lk ls s with|none=>[]|some co=>[(s,co,a)]):=by rw[Ø,h];show lB ls _ (s,a)
inductive sp_f24 (K:W.Frag) (vs:List V) (H:Hp) (Q:VK) (E:XK):Prop|mk (ha pc:Addr) (zs:List Lz) (ds:L2S) (es:List Int) (h0:vs=[.ref ha,.ref pc]) (h1:HsT K H ha ds es) (h2:PcT H pc zs) (h3:Ai (dj zs) ds) (h4:∀r H' N,Same H H'->H r=none->(bF (ds.map (aN (dj zs))) N).length<=N->H' r=!(.lst ((bF (ds.map (aN (dj zs))) N).map V.int))->Q (.ref r) H'):sp_f24 K vs H Q E
abbrev GZ (K:W.Frag):TS:=(aF (d9 (lJ K (aH (aO K) (aH (aO K) (aa 0) (tC (V.int 0))) (aH (fj K) (aa 2) (aa 3)))) (gZ K 2 (bC (au 4) (bC (au 5) iQ))) (bW (jH (tB (uZ (aa 4) (aa 1))) (aZ (aH (xX K true) (aa 5) (aa 2)))) (du (oO K "list" cA (aa 2) (aj (aa 5) aA))) bh))
  (aP (aH cD (aa 3) (tC (V.int 1))) (au 3)))
def xn (K:W.Frag) (E:XK) (Eh:XK):TS:=(aF (aP (gG (aj (tC (V.int 0)) aA)) (au 2))
  (aF (aP (tC (V.int 0)) (au 3))
  (aF (fc (aZ (aH J7 (aa 3) (cF (cg K) (aj (aa 2) aA)))) (GZ K))
  (b7 (aa 2)))))
theorem R1 (h:sp_f24 K vs H Q E):∃Eh,xn K E Eh {nx:=λ_ H'=>Q .non H',rt:=Q} (start ["house","pictures","rooms","at","sign","room"] vs) H:=by
 let#[ha,pc,zs,ds,es,rfl,hH,hP,sz,q]:=h;show#[E0,?_];unfold xn;let#[d,e,rs,a1,a2,a3,a4,a5]:=id hH;let#[am,ag,S,ap]:=id sz;have M:∀ws∈ds.map (aN (dj zs)),∀w∈ws,0<=w.2.2/\w.2.2<ds.length:=λws Y w I=>by let#[ps,af,rfl]:=Zl.mp Y;let#[p,D,O]:=ý.mp (show w∈ps.filterMap _ from I);let#[co,ak,rfl]:=á.mp O;show(S ps af).2 p D
 have Z:(ds.map (aN (dj zs))).length=ds.length:=Qb _;have A:∀k,∀r∈bF (ds.map (aN (dj zs))) k,0<=r/\r<ds.length:=λk=>dB (P:=λr:Int=>0<=r/\r<ds.length) #[by decide,()] (λp q' hp hq=>by
  let#[w,I,rfl]:=Zl.mp hq;have:(ds.map (aN (dj zs))).getD p.toNat []∈ds.map (aN (dj zs)):=by rw[Æ,Zz ()];show ì _
  show M _ this w I) k;have y:∀k,(bF (ds.map (aN (dj zs))) k).length<=ds.length:=λk=>by
  have:=cZ (l:=bF (ds.map (aN (dj zs))) k) (m:=(List.range ds.length).map λi:Nat=>(i:Int)) (dY _ _ k) λr mr=>by let#[h0,h1]:=A k r mr;show Zl.mpr #[r.toNat,í.mpr (),()]
  rw[Qb,ù]at this;show this
 have al:rs.length=ds.length:=by rw[<-a2,Qb]
 generalize hwss:ds.map (aN (dj zs))=wss at A y M Z q;symm;intro o f;symm;walk_at "ns";have u:∀p∈[o],H p=none:=λp hp=>by rw[Zp.mp hp];show f
 show jZ (λm t H'=>Sb [o] H H'/\∃(k:Nat) (F C:Option V),k<=(bF wss k).length/\H' o=!(.lst ((bF wss k).map V.int))/\m=100-k/\t=[!(.ref ha),!(.ref pc),!(.ref o),!(.int (k:Nat)),F,C]) _ #[Sb.of (aB f _),0,_,_,ñ _,ao,rfl,rfl] ?_ ?_
 .rintro m t H' Nx ⟨sb,k,F,C,hk,g,rfl,rfl⟩ X;have N:=sb.off u;have ai:=y k;symm;show fB (SqL.of g) ?_;rw[Qb];symm;show gb (λc1=>?_) λc1=>?_
  .have ad:k < (bF wss k).length := by rfl'
   let#[r,hr]:∃r,(bF wss k)[k]?=!r:=#[_,Zz ad];let#[r0,r1]:=A k r (Zs hr);let#[j,rfl]:∃j:Nat,r=(j:Int):=#[r.toNat,()];let#[c,B]:∃c,rs[j]?=!c:=#[_,Zz ()];have U:ds[j]?=!c.2:=by rw[<-a2,Xs,B];rfl
   have ae:wss[j]?=!(aN (dj zs) c.2):=by rw[<-hwss,Xs,U];rfl
   have J:bF wss (k+1)=gn (bF wss k) ((aN (dj zs) c.2).map (·.2.2)):=by have:=gU hr;change dX _ _ (k+1)=_;rw[this];change gn _ ((wss.getD ((j:Int)).toNat []).map _)=_;rw[Ó,Æ,ae];rfl
   let#[dz,G,b1,b2]:=a4 c (Zs B);have ah:dz.length=c.2.length:=by rw[<-G,Qb]
   symm;show cM (N.get a1) ?_;symm;show dU (SqL.of g) (aX (j:=k) (v:=.int (j:Nat)) (by rw[Xs,hr];rfl)) ?_;symm;show dW (SqT.of (N.get a3)) (aX (j:=j) (v:=.ref c.1) (by rw[Xs,B];rfl)) ?_;walk_at "ns";show yF (λz:Dz=>V.ref z.1) (zs:=dz) (SqT.of (N.get b1)) (λi t H2=>Sb [o] H H2/\∃(F C:Option V),H2 o=!(.lst ((gn (bF wss k) ((aN (dj zs) (c.2.take i)).map (·.2.2))).map V.int))/\t=[!(.ref ha),!(.ref pc),!(.ref o),!(.int (k:Nat)),F,C]) #[sb,_,_,by rw[List.take_zero];show g,rfl] ?_ ?_ ?_;.rintro i t H2 ⟨b,_⟩;show SqT.of ((b.off u).get b1)
   .rintro i ⟨za,s,L⟩ t H2 hi ⟨b,F,C,a,rfl⟩;have S2:=b.off u;have W:c.2[i]?=!(s,L):=by rw[<-G,Xs,hi];rfl
    have tz:=S2.get (b2 _ (Zs hi));dsimp only at tz;rw[lF _ W];show dh (SqT.of tz) rfl ?_;symm;show#[pc,_,rfl,DGet.k (k:=Sum.inr s) (S2.get hP.1),?_];cases hlk:Fo.lk (dj zs) s with|none=>rw[rN hlk];symm;change if false=true then _ else _;symm;show#[b,_,_,by rw[å];show a,rfl]|some co=>
     let#[z,mz,_,ez]:=iH hlk;rw[ez];symm;change if true=true then _ else _;symm;show qU (.inl (SqL.of a)) rfl (gf _) ?_;rw[iC];dsimp only;rw[Wp,List.map_singleton,qe];symm;show pZ (λT=>?_) λT=>?_
     .rw [if_neg T];symm;show dI (SqL.of a) ?_;symm;show fH a ?_ ?_
      .have h1:=cZ (l:=gn (bF wss k) ((aN (dj zs) (c.2.take i)).map (·.2.2))) (m:=bF wss (k+1)) (kj (dY _ _ k)) λx mx=>by
        rw[J];rcases eX.mp mx with m|m;.show eX.mpr (.inl m)
        .obtain ⟨w,I,rfl⟩:=Zl.mp m;let#[p,D,O]:=ý.mp (show w∈(c.2.take i).filterMap _ from I);show eX.mpr (.inr (Zl.mpr #[w,ý.mpr #[p,Ē D,O],rfl]))
       have h2:=y (k+1);rw[Qb];rfl'
      symm;show#[b.set (by simp),_,_,by rw[ao,Wp];rfl,rfl]
     .rw [if_pos T];symm;show#[b,_,_,a,rfl]
   .rintro t H2 ⟨b,F,C,a,rfl⟩;rw[è (),<-J]at a;symm;rw[show(k:Int)+1=((k+1:Nat):Int)by rfl'];have R:k+1<=(bF wss (k+1)).length:=by let#[E,eE]:=Ac (λr:Int=>(wss.getD r.toNat []).map (·.2.2)) 0 k;have:bF wss (k+1)=bF wss k++E:=eE;rw[this,À];rfl'
    show X _ _ _ () #[b,k+1,_,_,R,a,rfl,rfl]
  .symm;show q o H' k N f () g
 .show m6 (kh (qX _) (jD _) (λt H Q Q' hq z=>by let#[v,hv,x,n,e,hl,z]:=z;show#[v,hv,x,n,e,hl,hq _ _ z]))
abbrev Ez:=Addr×Addr×Nat×Sd
def EzA (K:W.Frag) (H:Hp) (z:Ez):Prop:=H z.1=!(.tup [.int (z.2.2.1:Nat),.ref z.2.1])/\StT K H z.2.1 z.2.2.2
theorem EzA.same {K:W.Frag} {z:Ez} (h:EzA K H z) (s:Same H H'):EzA K H' z:=#[s.get h.1,h.2.same s]
theorem EzA.app {K:W.Frag} {z:Ez} {o:HO} (h:EzA K H z) (e:H q=!(.lst ys)):EzA K (upd H q o) z:=by let#[a,c,b,d]:=h;show#[cW a e,c,cW b e,cW d e]
inductive sp_f10 (K:W.Frag) (vs:List V) (H:Hp) (Q:VK) (E:XK):Prop|mk (ha pc:Addr) (zs:List Lz) (ds:L2S) (es:List Int) (h0:vs=[.ref ha,.ref pc]) (h1:HsT K H ha ds es) (h2:PcT H pc zs) (h3:Ai (dj zs) ds) (h4:(∀z∈zs,z.2.2.2.length<=8)) (h5:∀p H' N (ez:List Ez),Same H H'->H p=none->(bF (ds.map (aN (dj zs))) N).length<=N->H' p=!(.lst (ez.map λz:Ez=>V.ref z.1))->(∀z∈ez,EzA K H' z)->ez.map (λz:Ez=>z.2.2)=(lO (ds.map (aN (dj zs))) (bF (ds.map (aN (dj zs))) N)).map Sv->ez.length<=16200->Q (.ref p) H'):sp_f10 K vs H Q E
abbrev Ha (K:W.Frag):TS:=(aF (aP (aH (fj K) (aa 4) (aa 5)) (au 8))
  (du (oO K "list" cA (aa 2) (aj (aR (sp_f18 K) [] E0 (aj (gw (aa 1) (aH (aO K) (aa 7) (tC (V.int 0)))) (aj (gw (aa 1) (aH (aO K) (aa 8) (tC (V.int 0)))) (aj (aH (aO K) (aa 7) (tC (V.int 1))) (aj (aH (aO K) (aa 8) (tC (V.int 1))) aA))))) aA))))
abbrev Hb (K:W.Frag):TS:=(aF (aP (oR [none,!1] (lJ K (aH (aO K) (aH (aO K) (aa 0) (tC (V.int 0))) (aa 3))) (au 0) (tB (uZ (aH (aO K) (aa 0) (tC (V.int 0))) (aa 1))) (aa 0)) (au 4))
  (d9 (iJ (aj (cF (cg K) (aj (aa 4) aA)) aA)) (au 5) (d9 (iJ (aj (aa 5) aA)) (au 6) (aF (aP (aH (fj K) (aa 4) (aa 6)) (au 7))
  (Ha K)))))
def xq (K:W.Frag) (E:XK) (Eh:XK):TS:=(aF (aP (gG aA) (au 2))
  (aF (d9 (cO K (aR (sp_f24 K) [] E0 (aj (aa 0) (aj (aa 1) aA)))) (au 3) (Hb K))
  (b7 (aa 2))))
theorem R3 (h:sp_f10 K vs H Q E):∃Eh,xq K E Eh {nx:=λ_ H'=>Q .non H',rt:=Q} (start ["house","pictures","found","room","some","j","k","x","y"] vs) H:=by
 let#[ha,pc,zs,ds,es,rfl,hH,hP,sz,a9,q]:=h;show#[E0,?_];unfold xq;let#[d,e,rs,a1,a2,a3,a4,a5]:=id hH;let#[c0,ct,af,c1]:=id sz;have cz:rs.length=ds.length:=by rw[<-a2,Qb]
 symm;intro g ah;have ag:∀p∈[g],H p=none:=λp hp=>by rw[Zp.mp hp];show ah
 have S0:Same H (upd H g (HO.lst [])):=aB ah _;symm;show#[ha,pc,zs,ds,es,rfl,hH.same S0,hP.same S0,sz,λrl H1 N s1 bn hN av=>?_];have bk:H1 g=!(.lst []):=s1.get ao;have am:∀k,∀r∈bF (ds.map (aN (dj zs))) k,0<=r/\r<ds.length:=λk=>dB (P:=λr:Int=>0<=r/\r<ds.length) #[by decide,()] (λp q' hp hq=>by
  let#[w,mw,rfl]:=Zl.mp hq;have cb:(ds.map (aN (dj zs))).getD p.toNat []∈ds.map (aN (dj zs)):=by rw[Æ,Zz (by rw[Qb];rfl')];show ì _
  let#[ps,aw,cn]:=Zl.mp cb;rw[<-cn]at mw;let#[p',mp,ep]:=ý.mp (show w∈ps.filterMap _ from mw);let#[co,cy,rfl]:=á.mp ep;show(af ps aw).2 p' mp) k;have bp:(bF (ds.map (aN (dj zs))) N).length<=ds.length:=by
  have:=cZ (l:=bF (ds.map (aN (dj zs))) N) (m:=(List.range ds.length).map λi:Nat=>(i:Int)) (dY _ _ N) λr mr=>by let#[h0,h1]:=am N r mr;show Zl.mpr #[r.toNat,í.mpr (),()]
  rw[Qb,ù]at this;show this
 have S:∀Y∈ds.map (aN (dj zs)),Y.length<=18:=λY b9=>by let#[ps,aw,rfl]:=Zl.mp b9;show Û (Ĳ ..) (af ps aw).1
 have W:=m9 S;have cq:∀{i:Nat} {f:List Ez} {ts:List ((Str×List Nat×Int)×(Str×List Nat×Int)×Int)},True:=trivial;generalize hwss:ds.map (aN (dj zs))=wss at am bp S q hN av W;walk_at "ns";have a6:rl≠g:=λz=>by rw[z,ao]at bn;cases bn
 have S1:Same H H1:=S0.trans s1;show gD V.int (zs:=bF wss N) (SqL.of av) (λi F H'=>Sb [g] H H'/\H' rl=!(.lst ((bF wss N).map V.int))/\∃(f:List Ez) (o3 o4 o5 J L G:Option V),H' g=!(.lst (f.map λz:Ez=>V.ref z.1))/\(∀z∈f,EzA K H' z)/\f.map (λz:Ez=>z.2.2)=(lO wss ((bF wss N).take i)).map Sv/\F=[!(.ref ha),!(.ref pc),!(.ref g),o3,o4,o5,J,L,G]) #[Sb.of S1,av,[],_,_,_,_,_,_,bk,by simp,rfl,rfl] ?_ ?_ ?_;.rintro i F H' ⟨_,h,_⟩;show SqL.of h
 .rintro i n F H' hi ⟨sb,ae,f,o3,o4,o5,J,L,G,T,ai,u,rfl⟩;have S':=sb.off ag;let#[r0,r1]:=am N n (Zs hi);let#[j,rfl]:∃j:Nat,n=(j:Int):=#[n.toNat,()];let#[D,ar]:∃D,rs[j]?=!D:=#[_,Zz ()];have bi:ds[j]?=!D.2:=by rw[<-a2,Xs,ar];rfl
  have br:wss[j]?=!(aN (dj zs) D.2):=by rw[<-hwss,Xs,bi];rfl
  have ay:=S _ (Zs br);have cr:=(af _ (Zs bi)).1;let#[dz,bd,b1,b2]:=a4 D (Zs ar);have cw:dz.length=D.2.length:=by rw[<-bd,Qb]
  have ce:lO wss ((bF wss N).take (i+1))=lO wss ((bF wss N).take i)++(List.range (aN (dj zs) D.2).length).flatMap λb=>(List.range b).map λa=>((aN (dj zs) D.2).getD a default,(aN (dj zs) D.2).getD b default,(j:Int)):=by rw[Ø,hi];unfold lO;rw[ĺ];congr 1;change[(j:Int)].flatMap _=_;rw[ĥ,Fj br]
  have a7:=W ((bF wss N).take i);have c2:i<(bF wss N).length:=(É.mp hi).1;rw[Ñ]at a7;rw[ce];generalize lO wss ((bF wss N).take i)=A at u a7⊢;generalize hWS:aN (dj zs) D.2=Y at ay⊢;symm;show cM (S'.get a1) ?_;symm;show dW (SqT.of (S'.get a3)) (aX (j:=j) (v:=.ref D.1) (by rw[Xs,ar];rfl)) ?_;walk_at "ns";show Er (λz:Dz=>V.ref z.1) (zs:=dz) (SqT.of (S'.get b1)) () (λi ys H2=>H2=H'/\∃t:List Wz,ys=t.map (λz:Wz=>V.ref z.1)/\t.length<=i/\t.map (·.2)=aN (dj zs) (D.2.take i)/\∀w∈t,H' w.1=!(.tup [.str w.2.1,.int w.2.2.2])/\Fo.lk (dj zs) w.2.1=!w.2.2.1) #[rfl,[],rfl,Ã _,rfl,by simp] ?_ ?_ ?_ ?_;.rintro i ys H2 ⟨rfl,_⟩;show SqT.of (S'.get b1)
  .rintro i ys H2 ⟨_,t,rfl,h,_⟩;rw[Qb];show h
  .rintro k ⟨za,s,n⟩ ys H2 hk ⟨rfl,t,rfl,ci,C,R⟩;have b4:D.2[k]?=!(s,n):=by rw[<-bd,Xs,hk];rfl
   have tz:=S'.get (b2 _ (Zs hk));dsimp only at tz;rw[lF _ b4];symm;show cM tz ?_;symm;show#[pc,_,rfl,DGet.k (k:=Sum.inr s) (S'.get hP.1),?_];cases hlk:Fo.lk (dj zs) s with
   |none=>
    rw[rN hlk];symm;change if false=true then _ else _;symm;show#[rfl,t,rfl,(),by rw[å];show C,R]|some co=>
    let#[z,mz,_,f]:=iH hlk;rw[f];symm;change if true=true then _ else _;symm;show#[rfl,t++[(za,s,co,n)],by rw[Wp];rfl,by rw[À,Õ];rfl',by rw[Wp,C];rfl,λw mw=>?_];rcases Â.mp mw with mw|mw;.show R w mw
    .rw [Zp.mp mw];show#[tz,hlk]
  rintro ys H2 ⟨rfl,t,rfl,ci,C,R⟩ so ax;rw[è (),hWS]at C;have be:t.length=Y.length:=by rw[<-C,Qb]
  have cm:g≠so:=aW T ax;have cv:rl≠so:=aW ae ax;let#[H3,ap]:∃H3,H3=upd H2 so (HO.lst (t.map λz:Wz=>V.ref z.1)):=#[_,rfl];have s3:Same H2 H3:=by rw[ap];show aB ax _
  have bw:H3 so=!(.lst (t.map λz:Wz=>V.ref z.1)):=by rw[ap];show ao
  rw[<-ap];have b5:Sb [g] H H3:=sb.same s3;symm;show fB (SqL.of bw) ?_;rw[Qb];symm;walk_at "ns";have bl:∀{k:Nat} {w:Wz},t[k]?=!w->Y.getD k default=w.2:=λ{k w} h=>by rw[Æ,<-C,Xs,h];rfl
  show nR t.length (Ó _) () () (λb F H4=>Sb [g] H H4/\Sb [g] H3 H4/\∃(f:List Ez) (o5 J L G:Option V),H4 g=!(.lst (f.map λz:Ez=>V.ref z.1))/\(∀z∈f,EzA K H4 z)/\f.map (λz:Ez=>z.2.2)=(A++(List.range b).flatMap λb=>(List.range b).map λa=>(Y.getD a default,Y.getD b default,(j:Int))).map Sv/\f.length<=A.length+b*18/\F=[!(.ref ha),!(.ref pc),!(.ref g),!(.int (j:Nat)),!(.ref so),o5,J,L,G]) #[b5,Sb.of (Same.refl _),f,_,_,_,_,s3.get T,λz mz=>(ai z mz).same s3,by rw[Ÿ,List.flatMap_nil,å];show u,by have:=ß List.length u;rw[Qb,Qb]at this;rfl',rfl] ?_ ?_
  .rintro b F H4 hb ⟨ak,f4,f,o5,J,L,G,X,M,o,bb,rfl⟩;let#[wy,as]:∃w,t[b]?=!w:=#[_,Zz hb];let#[y1,y2]:=R _ (Zs as);have a8:so∉[g]:=by simpa using cm.symm
   have y:∀{H5:Hp} {p:Addr} {xs:List V},Sb [g] H3 H5->H2 p=!(.tup xs)->H5 p=!(.tup xs):=λh e=>h.get (by simpa using bD e T (by intro z;cases z)) (s3.get e);rw[Ţ,ĺ,ĥ,<-Þ,bl as];generalize hB:A++(List.range b).flatMap (λb=>(List.range b).map λa=>(Y.getD a default,Y.getD b default,(j:Int)))=B at o⊢;symm;show nR b (Ó _) () () (λa F H5=>Sb [g] H H5/\Sb [g] H3 H5/\∃(f:List Ez) (J L G:Option V),H5 g=!(.lst (f.map λz:Ez=>V.ref z.1))/\(∀z∈f,EzA K H5 z)/\f.map (λz:Ez=>z.2.2)=(B++(List.range a).map λa=>(Y.getD a default,wy.2,(j:Int))).map Sv/\f.length<=A.length+b*18+a/\F=[!(.ref ha),!(.ref pc),!(.ref g),!(.int (j:Nat)),!(.ref so),!(.int (b:Nat)),J,L,G]) #[ak,f4,f,_,_,_,X,M,by rw[Ÿ,û,å];show o,(),rfl] ?_ ?_
   .rintro a F H5 cx ⟨Z,f5,f,J,L,G,x,U,I,bo,rfl⟩;have S5:=Z.off ag;let#[wx,al]:∃w,t[a]?=!w:=#[_,Zz ()];let#[x1,x2]:=R _ (Zs al);let#[zx,bg,cj,cp]:=iH x2;let#[zy,b0,ca,cf]:=iH y2;have b3:=S5.get (hP.2 zx bg);have bq:=S5.get (hP.2 zy b0);have b6:=a9 zx bg;have cc:=a9 zy b0;rw[cj]at b3 b6;rw[ca]at bq cc;have ad:=f5.get a8 bw;symm;show dU (SqL.of ad) (aX (j:=a) (v:=.ref wx.1) (by rw[Xs,al];rfl)) ?_;symm;show dU (SqL.of ad) (aX (j:=b) (v:=.ref wy.1) (by rw[Xs,as];rfl)) ?_;symm;show dI (SqL.of x) ?_;symm;show cM (y f5 x1) ?_;symm;show#[pc,.ref zx.2.2.1,rfl,by rw[<-cp];show DGet.k (k:=Sum.inr wx.2.1) (S5.get hP.1),?_];symm;show cM (y f5 y1) ?_;symm;show#[pc,.ref zy.2.2.1,rfl,by rw[<-cf];show DGet.k (k:=Sum.inr wy.2.1) (S5.get hP.1),?_];symm;show bV (y f5 x1) ?_;symm;show bV (y f5 y1) ?_;symm;show#[zx.2.2.1,zy.2.2.1,wx.2.2.1,wy.2.2.1,wx.2.2.2,wy.2.2.2,rfl,b3,bq,(),(),λr c H6 s6 hr er hc=>?_];have O:=s6.get x;symm;show fH O (by rw[Qb];rfl') ?_;symm;show#[(Z.same s6).set (by simp),(f5.same s6).set (by simp),f++[(r,c,Sv (wx.2,wy.2,(j:Int)))],_,_,_,by rw[ao,Wp];rfl,λz mz=>?_,by simp only[Wp,I,Ţ,Ä,û,bl al,Þ],by rw[À,Õ];rfl',rfl];rcases Â.mp mz with mz|mz;.show ((U z mz).same s6).app O
    .rw [Zp.mp mz];show EzA.app #[er,hc] O
   .rintro F H5 ⟨Z,f5,f,J,L,G,x,U,I,bo,rfl⟩;show#[Z,f5,f,_,_,_,_,x,U,I,(),rfl]
  .rintro F H4 ⟨ak,f4,f,o5,J,L,G,X,M,o,bb,rfl⟩;rw[be]at o;have e5:H4 rl=!(.lst ((bF wss N).map V.int)):=by show f4.get (by simpa using a6) (s3.get ae)
   show#[ak,e5,f,_,_,_,_,_,_,X,M,o,rfl]
 .rintro F H' ⟨sb,_,f,o3,o4,o5,J,L,G,T,ai,u,rfl⟩;rw[ä]at u;symm;show q g H' N f (sb.off ag) ah hN T ai u ?_;have:=ß List.length u;rw[Qb,Qb]at this;have h1:=W (bF wss N);rfl'
inductive sp_f14 (K:W.Frag) (vs:List V) (H:Hp) (Q:VK) (E:XK):Prop|mk (ha pc sa:Addr) (zs:List Lz) (ds:L2S) (es:List Int) (st:Sd) (r:Nat) (ps:L1S) (h0:vs=[.ref ha,.ref pc,.ref sa]) (h1:HsT K H ha ds es) (h2:PcT H pc zs) (h3:(∀z∈zs,z.2.2.2.length<=8)) (h4:StT K H sa st) (h5:st.2.2.length<=8) (h6:st.1=(r:Int)) (h7:ds[r]?=!ps) (h8:ps.length<=18) (h9:∀p H' (ez:List Ez),Same H H'->H p=none->H' p=!(.lst (ez.map λz:Ez=>V.ref z.1))->(∀z∈ez,EzA K H' z)->ez.map (λz:Ez=>(z.2.2.1,z.2.2.2))=(aN (dj zs) ps).map (λw=>(cst st.2.2 w.2.1,m8 w st.2.1 st.2.2))->Q (.ref p) H'):sp_f14 K vs H Q E
abbrev Hd (K:W.Frag):TS:=(aF (aP (aR (sp_f21 K) [] E0 (aj (aa 6) (aj (aa 7) aA))) (au 8))
  (bW (aZ (aH NK (cF (cg K) (aj (aa 6) aA)) (cF (cg K) (aj (aa 7) aA)))) (du (oO K "list" cA (aa 3) (aj (bZ (aj (aa 8) (aj (bZ (aj (aa 5) (aj (aH (aO K) (aa 2) (tC (V.int 1))) (aj (uU (lN K) (aa 7) (fD (cF (cg K) (aj (aa 6) aA))) cU) aA)))) aA))) aA))) (du (oO K "list" cA (aa 3) (aj (bZ (aj (aa 8) (aj (bZ (aj (aH (aO K) (aa 2) (tC (V.int 1))) (aj (aa 5) (aj (uU (lN K) (aa 6) (fD (cF (cg K) (aj (aa 7) aA))) cU) aA)))) aA))) aA)))))
abbrev Hf (K:W.Frag):TS:=(aF (d9 (lJ K (aH (aO K) (aH (aO K) (aa 0) (tC (V.int 0))) (aH (aO K) (aa 2) (tC (V.int 0))))) (gZ K 2 (bC (au 4) (bC (au 5) iQ))) (bW (tB (uZ (aa 4) (aa 1))) (aF (aP (gw (aa 1) (aa 4)) (au 6))
  (aF (aP (aH (aO K) (aa 2) (tC (V.int 2))) (au 7))
  (Hd K))) bh))
  (b7 (aa 3)))
def xr (K:W.Frag) (E:XK) (Eh:XK):TS:=(aF (aP (gG aA) (au 3))
  (Hf K))
theorem R4 (h:sp_f14 K vs H Q E):∃Eh,xr K E Eh {nx:=λ_ H'=>Q .non H',rt:=Q} (start ["house","pictures","stand","found","sign","room","columns","over","cost"] vs) H:=by
 let#[ha,pc,sa,zs,ds,es,#[s0,W,ov],r,ps,rfl,hH,hP,ai,am,ah,hr,X,ar,q]:=h;show#[E0,?_];unfold xr;let#[d,e,rs,a1,a2,a3,a4,a5]:=id hH;dsimp only at hr ah;subst hr;let#[sc,t1,t2]:=id am;dsimp only at t1 t2;let#[U,P]:∃U,rs[r]?=!U:=#[_,Zz (by have:=(É.mp X).1;rw[<-a2,Qb]at this;show this)];have al:U.2=ps:=by
  have:(rs.map (·.2))[r]?=!U.2:=by rw[Xs,P];rfl
  rw[a2,X]at this;show(Ô this).symm
 let#[dz,L,b1,b2]:=a4 U (Zs P);rw[al]at L;have ap:dz.length=ps.length:=by rw[<-L,Qb]
 symm;intro m f;have G:∀p∈[m],H p=none:=λp hp=>by rw[Zp.mp hp];show f
 symm;show cM (aD f a1) ?_;symm;show cM (aD f t1) ?_;symm;show dW (SqT.of (aD f a3)) (aX (j:=r) (v:=.ref U.1) (by rw[Xs,P];rfl)) ?_;walk_at "ns";show yF (λz:Dz=>V.ref z.1) (zs:=dz) (SqT.of (aD f b1)) (λi σ H2=>Sb [m] H H2/\∃(n:List Ez) (N J I M F:Option V),H2 m=!(.lst (n.map λz:Ez=>V.ref z.1))/\(∀z∈n,EzA K H2 z)/\n.map (λz:Ez=>(z.2.2.1,z.2.2.2))=(aN (dj zs) (ps.take i)).map (λw=>(cst ov w.2.1,m8 w W ov))/\n.length<=i/\σ=[!(.ref ha),!(.ref pc),!(.ref sa),!(.ref m),N,J,I,M,F]) #[Sb.of (aB f _),[],_,_,_,_,_,ao,by simp,rfl,by simp,rfl] ?_ ?_ ?_;.rintro i σ H2 ⟨l,_⟩;show SqT.of ((l.off G).get b1)
 .rintro i ⟨za,s,a⟩ σ H2 hi ⟨l,n,N,J,I,M,F,b,C,A,ag,rfl⟩;have u:=l.off G;have ad:ps[i]?=!(s,a):=by rw[<-L,Xs,hi];rfl
  have tz:=u.get (b2 _ (Zs hi));dsimp only at tz;have as:i<18:=by have:=(É.mp ad).1;rfl'
  rw[lF _ ad];show dh (SqT.of tz) rfl ?_;symm;show#[pc,_,rfl,DGet.k (k:=Sum.inr s) (u.get hP.1),?_];cases hlk:Fo.lk (dj zs) s with
  |none=>
   rw[rN hlk];symm;change if false=true then _ else _;symm;show#[l,n,_,_,_,_,_,b,C,by rw[å];show A,(),rfl]|some co=>
   let#[z,mz,af,ae]:=iH hlk;have x:=u.get (hP.2 z mz);have ak:=ai z mz;rw[af]at x ak;rw[ae];symm;change if true=true then _ else _;symm;show#[pc,.ref z.2.2.1,rfl,by rw[<-ae];show DGet.k (k:=Sum.inr s) (u.get hP.1),?_];symm;show eG (u.get t1) ?_;symm;show#[z.2.2.1,sc,co,ov,rfl,.inr (SqT.of x),.inr (SqT.of (u.get t2)),(),(),?_];generalize hgg:Mm.dw (co.take (min co.length ov.length)) (ov.take (min co.length ov.length))=gg;have add:∀(g:Nat) (c t:Addr) (H3:Hp),g=gg->Same H2 H3->H3 t=!(.tup [.int (g:Nat),.ref c])->StT K H3 c (m8 (s,co,a) W ov)->∀{N J I M F:Option V},Sb [m] H (upd H3 m (HO.lst (n.map (λz:Ez=>V.ref z.1)++[V.ref t])))/\∃(B:List Ez) (p4 p5 p6 p7 p8:Option V),upd H3 m (HO.lst (n.map (λz:Ez=>V.ref z.1)++[V.ref t])) m=!(.lst (B.map λz:Ez=>V.ref z.1))/\(∀z∈B,EzA K (upd H3 m (HO.lst (n.map (λz:Ez=>V.ref z.1)++[V.ref t]))) z)/\B.map (λz:Ez=>(z.2.2.1,z.2.2.2))=(aN (dj zs) (ps.take i)++[(s,co,a)]).map (λw=>(cst ov w.2.1,m8 w W ov))/\B.length<=i+1/\[!(.ref ha),!(.ref pc),!(.ref sa),!(.ref m),N,J,I,M,F]=[!(.ref ha),!(.ref pc),!(.ref sa),!(.ref m),p4,p5,p6,p7,p8]:=λg c t H3 hg R et S N J I M F=>by
    have D:=R.get b;show#[(l.same R).set (by simp),n++[(t,c,g,m8 (s,co,a) W ov)],N,J,I,M,F,by rw[ao,Wp];rfl,λy my=>?_,by rw[Wp,A,Wp,hg,<-hgg];rfl,by rw[À,Õ];rfl',rfl];rcases Â.mp my with my|my;.show ((C y my).same R).app D
    .rw [Zp.mp my];show EzA.app #[et,S] D
   symm;show bL (SqT.of x) ?_;rw[Qb];symm;show bL (SqT.of (u.get t2)) ?_;rw[Qb];symm;show gb (λc1=>?_) λc1=>?_;.symm;show dI (SqL.of b) ?_;symm;show bV (u.get t1) ?_;symm;show bL (SqT.of x) ?_;rw[Qb];symm;show lA (u.get t2) λZ H3 R Y=>?_;rw[gR (),Ó,nv,<-ť]at Y;symm;intro c S;symm;intro t O;have T:=(R.new (o:=HO.tup [.int a,.int W,.ref Z]) S).new (o:=HO.tup [.int (gg:Nat),.ref c]) O;symm;show fH (T.get b) (by rw[Qb];rfl') ?_;symm;show add _ c t _ rfl T ao ?_;unfold m8;rw[if_pos (show co.length<=ov.length by rfl')];show#[Z,aD O ao,aD O (aD S Y)]
   .symm;show dI (SqL.of b) ?_;symm;show bV (u.get t1) ?_;symm;show bL (SqT.of (u.get t2)) ?_;rw[Qb];symm;show lA x λZ H3 R Y=>?_;rw[gR (),Ó,nv,<-ť]at Y;symm;intro c S;symm;intro t O;have T:=(R.new (o:=HO.tup [.int W,.int a,.ref Z]) S).new (o:=HO.tup [.int (gg:Nat),.ref c]) O;symm;show fH (T.get b) (by rw[Qb];rfl') ?_;symm;show add _ c t _ rfl T ao ?_;unfold m8;rw[if_neg (show¬co.length<=ov.length by rfl')];show#[Z,aD O ao,aD O (aD S Y)]
 .rintro σ H2 ⟨l,n,N,J,I,M,F,b,C,A,ag,rfl⟩;rw[è ()]at A;symm;show q m H2 n (l.off G) f b C A
inductive sp_f1 (K:W.Frag) (vs:List V) (H:Hp) (Q:VK) (E:XK):Prop|mk (sa:Addr) (st:Sd) (h0:vs=[.ref sa]) (h1:StT K H sa st) (h2:st.2.2.length<=8) (h3:∀H',Same H H'->Q (.bl true) H'):sp_f1 K vs H Q E
def Hg (K:W.Frag) (E:XK) (Eh:XK):TS:=(aF (bW (uH (jJ (jw K (cF (dN K) (aj (aa 0) (aj (tC (V.ty "tuple")) aA))))) (uH (aZ (aH Mz (cF (cg K) (aj (aa 0) aA)) (tC (V.int 3)))) (jJ (jw K (cF (dN K) (aj (aH (aO K) (aa 0) (tC (V.int 2))) (aj (tC (V.ty "tuple")) aA))))))) (b7 (tC (V.bl false))) bh)
  (b7 (cF (Cu K) (aj (oR [none] (lJ K (aH (yu K) (bZ (aj (aH (aO K) (aa 0) (tC (V.int 0))) (aj (aH (aO K) (aa 0) (tC (V.int 1))) aA))) (aH (aO K) (aa 0) (tC (V.int 2))))) (au 0) fu (aR (sp_f23 K) [] E0 (aj (aa 0) aA))) aA))))
theorem Vq (h:sp_f1 K vs H Q E):∃k,Hg K E k {nx:=λ_ H'=>Q .non H',rt:=Q} (start ["stand"] vs) H:=by
 let#[u,st,rfl,f,t,q]:=h;show#[E0,?_];unfold Hg;let#[sc,d,j]:=f;symm;show jC (.tup d) (b:=true) rfl ?_;symm;show bL (SqT.of d) ?_;symm;show pZ (λc=>absurd rfl c) λc=>?_;symm;show eG d ?_;symm;show jC (.tup j) (b:=true) rfl ?_;symm;show cM d ?_;symm;show bV d ?_;symm;intro s a;symm;show eG (aD a d) ?_;symm;show Q7 ao (aD a j) (by simp;rfl') λp H1 r m=>?_;symm;have e:H1 p=!(.tup ((st.1::st.2.1::st.2.2.map λn:Nat=>(n:Int)).map V.int)):=by rw[m,Ä,Ä,Á];rfl
 show V8 V.int (zs:=st.1::st.2.1::st.2.2.map λn:Nat=>(n:Int)) (SqT.of e) (by simp;rfl') (λ_=>V.bl true) ?_ λl g=>?_;.rintro i z hi A o;symm;show#[z,rfl,o]
 symm;show Lg (bs:=(st.1::st.2.1::st.2.2.map λn:Nat=>(n:Int)).map λ_=>true) (SqL.of (by rw[ao,Á];rfl)) ?_;rw[show((st.1::st.2.1::st.2.2.map λn:Nat=>(n:Int)).map λ_=>true).all id=true by simp];show q _ (((aB a _).trans r).new g)
inductive sp_f6 (K:W.Frag) (vs:List V) (H:Hp) (Q:VK) (E:XK):Prop|mk (p sa:Addr) (st:Sd) (o:Option (Nat×Nat)) (h0:vs=[.ref p]) (h1:H p=!(.tup (uA sa o))) (h2:StT K H sa st) (h3:st.2.2.length<=8) (h4:∀H',Same H H'->Q (.bl true) H'):sp_f6 K vs H Q E
abbrev Ks (K:W.Frag):TS:=(aF (bW (aZ (aH iK (aH (aO K) (aa 0) (tC (V.int 1))) (tC V.non))) (b7 (aH iK (aH (aO K) (aa 0) (tC (V.int 2))) (tC V.non))) bh)
  (b7 (iU (aR (sp_f23 K) [] E0 (aj (aH (aO K) (aa 0) (tC (V.int 1))) aA)) (aR (sp_f23 K) [] E0 (aj (aH (aO K) (aa 0) (tC (V.int 2))) aA)))))
def Hh (K:W.Frag) (E:XK) (Eh:XK):TS:=(aF (bW (uH (jJ (jw K (cF (dN K) (aj (aa 0) (aj (tC (V.ty "tuple")) aA))))) (uH (aZ (aH Mz (cF (cg K) (aj (aa 0) aA)) (tC (V.int 3)))) (jJ (jw K (aR (sp_f1 K) [] E0 (aj (aH (aO K) (aa 0) (tC (V.int 0))) aA)))))) (b7 (tC (V.bl false))) bh)
  (Ks K))
theorem Vr (h:sp_f6 K vs H Q E):∃g,Hh K E g {nx:=λ_ H'=>Q .non H',rt:=Q} (start ["row"] vs) H:=by
 let#[p,f,st,o,rfl,c,e,i,q]:=h;show#[E0,?_];unfold Hh;symm;show jC (.tup c) (b:=true) rfl ?_;symm;show bL (SqT.of c) ?_;symm;show nQ (by cases o<;>rfl) ?_;symm;show dW (SqT.of c) (aX (j:=0) (v:=.ref f) (by cases o<;>rfl)) ?_;symm;show#[f,st,rfl,e,i,λH1 d=>?_];symm;have a:=d.get c;cases o with|none=>show bV a ?_;symm;show eG a ?_;symm;show q _ d|some k=>show bV a ?_;symm;rw[È (show¬V.int (k.1:Nat)=V.non fromλz=>by cases z)];symm;show bV a ?_;symm;show#[_,rfl,?_];symm;show eG a ?_;symm;show#[_,rfl,?_];show q _ d
def Aj (k l:Nat×Nat):Prop:=k.1<l.1\/(k.1=l.1/\k.2<l.2)
instance (k l:Nat×Nat):Decidable (Aj k l):=inferInstanceAs (Decidable (_\/_))
theorem Ku {l:Nat×Nat}:HT.lexLt [(k.1:Int),(k.2:Int)] [(l.1:Int),(l.2:Int)]=decide (Aj k l):=by
 have a:HT.lexLt [(k.1:Int),(k.2:Int)] [(l.1:Int),(l.2:Int)]=if(k.1:Int)=l.1 then(if(k.2:Int)=l.2 then false else decide ((k.2:Int)<l.2))else decide ((k.1:Int)<l.1):=rfl;rw[a];show Eq.symm ?_;split
 .split;.show È (by unfold Aj;rfl')
  .show Ω.mpr (by unfold Aj;rfl')
 .show Ω.mpr (by unfold Aj;rfl')
noncomputable def xu (b:Option (Nat×Nat)) (h:Nat×Nat):Option (Nat×Nat):=
 match b with
 |none=>!h|some l=>if Aj h l then !h else !l
noncomputable def jh (kf:Sd->Option (Nat×Nat)) (b:Option (Nat×Nat)) (w:Nat×Sd):Option (Nat×Nat):=
 match kf w.2 with
 |none=>b|some k=>xu b (w.1+k.1,1+k.2)
noncomputable def Af (es:List Int) (kf:Sd->Option (Nat×Nat)) (ws:List (Nat×Sd)) (st:Sd):Option (Nat×Nat):=if jf es st=true then !(0,0)else ws.foldl (jh kf) none
structure FoT (K:W.Frag) (H:Hp) (fa:Addr) (gz:List Gz) (kf:Sd->Option (Nat×Nat)):Prop where
 d:Rd H fa (bA fa (cu gz))s:∀g∈gz,StT K H g.1 g.2.1/\H g.2.2=!(.tup (wO (kf g.2.1)))n:(gz.map (·.2.1)).Nodup
inductive sp_f29 (K:W.Frag) (vs:List V) (H:Hp) (Q:VK) (E:XK):Prop|mk (ha wy fa sa:Addr) (ds:L2S) (es:List Int) (ez:List Ez) (gz:List Gz) (p:Sd×(Sd->Option (Nat×Nat))) (h0:vs=[.ref ha,.ref wy,.ref fa,.ref sa]) (h1:HsT K H ha ds es) (h2:H wy=!(.lst (ez.map λz:Ez=>V.ref z.1))) (h3:(∀z∈ez,EzA K H z)) (h4:FoT K H fa gz p.2) (h5:StT K H sa p.1) (h6:(∀z∈ez,z.2.2.2∈gz.map (·.2.1))) (h7:∀r H',Same H H'->H' r=!(.tup (wO (Af es p.2 (ez.map λz:Ez=>(z.2.2.1,z.2.2.2)) p.1)))->Q (.ref r) H'):sp_f29 K vs H Q E
abbrev Hi (K:W.Frag):TS:=(aF (aP (bZ (aj (aH cD (aa 5) (aH (aO K) (aa 7) (tC (V.int 0)))) (aj (aH cD (tC (V.int 1)) (aH (aO K) (aa 7) (tC (V.int 1)))) aA))) (au 8))
  (bW (uH (aZ (aH iK (aH (aO K) (aa 4) (tC (V.int 0))) (tC V.non))) (aZ (aH (MT K) (aa 8) (aa 4)))) (aP (aa 8) (au 4)) bh))
abbrev Hj (K:W.Frag):TS:=(aF (d9 (cO K (aa 1)) (gZ K 2 (bC (au 5) (bC (au 6) iQ))) (aF (aP (qN (aa 2) (aa 6) (bZ (aj (tC V.non) (aj (tC V.non) aA)))) (au 7))
  (bW (aZ (aH vh (aH (aO K) (aa 7) (tC (V.int 0))) (tC V.non))) (Hi K) bh)))
  (b7 (aa 4)))
def xx (K:W.Frag) (E:XK) (Eh:XK):TS:=(aF (bW (jH (aZ (aH (rEqD K) (aH (aO K) (aa 3) (tC (V.int 2))) (bZ aA))) (jH (aZ (aH (xX K false) (aH (aO K) (aa 3) (tC (V.int 0))) (aH (aO K) (aa 0) (tC (V.int 1))))) (aZ (aH (xX K false) (aH (aO K) (aa 3) (tC (V.int 1))) (aH (aO K) (aa 0) (tC (V.int 1))))))) (b7 (bZ (aj (tC (V.int 0)) (aj (tC (V.int 0)) aA)))) bh)
  (aF (aP (bZ (aj (tC V.non) (aj (tC V.non) aA))) (au 4))
  (Hj K)))
theorem R5 (h:sp_f29 K vs H Q E):∃Eh,xx K E Eh {nx:=λ_ H'=>Q .non H',rt:=Q} (start ["house","ways","found","stand","best","cost","onward","there","here"] vs) H:=by
 let#[ha,wy,U,sa,ds,es,D,gz,#[st,B],rfl,hH,hw,Y,f,L,ad,q]:=h;show#[E0,?_];unfold xx;dsimp only at f L q;let#[d,e,rs,a1,a2,a3,a4,a5]:=id hH;let#[c,h1,h2]:=id L;show yE (Lj (v:=jf es st) (λR hR=>?_) λH1 b=>?_)
 .symm;show eG h1 ?_;symm;intro p N;have b:Same H (upd H p (.tup [])):=aB N _;have ep:upd H p (.tup []) p=!(.tup []):=ao;generalize upd H p (.tup [])=H1 at b ep⊢;have af:H1 c=!(.tup ((st.2.2.map λn:Nat=>(n:Int)).map V.int)):=by rw[b.get h2,Á];rfl
  show rEqD.intsT (ns:=st.2.2.map λn:Nat=>(n:Int)) (ms:=[]) (SqT.of af) (SqT.of ep) ?_;rw[show decide ((st.2.2.map λn:Nat=>(n:Int))=[])=decide (st.2.2.length=0)from Ω.mpr (by rw[ρ,ž])];symm;by_cases F:st.2.2.length=0
  .show uh F ?_;symm;show cM (b.get h1) ?_;symm;show bV (b.get a1) ?_;symm;show Eo (.inr (SqT.of (b.get a5))) rfl (gf _) ?_;rw[iC];by_cases S:st.1∈es
   .rw [Ö S];symm;show bV (b.get h1) ?_;symm;show bV (b.get a1) ?_;symm;show Eo (.inr (SqT.of (b.get a5))) rfl (gf _) ?_;rw[iC];have:jf es st=decide (st.2.1∈es):=by unfold jf;rw[Ö F,Ö S];rfl
    rw[<-this];symm;show hR _ b
   .rw [È S];symm;have:jf es st=false:=by unfold jf;rw[Ö F,È S];rfl
    rw[<-this];show hR _ b
  .show q9 F ?_;have:jf es st=false:=by unfold jf;rw[È F];rfl
   rw[<-this];show hR _ b
 by_cases P:jf es st=true;.rw [if_pos P];symm;intro r u;show q r _ (b.new u) ?_;rw[ao];unfold Af;rw[if_pos P];rfl
 rw[if_neg P];symm;intro b0 J;symm;have G:∀{H':Hp},Same H H'->Rd H' U (bA U (cu gz)):=λs=>by
  rcases f.d with e|⟨od,e⟩;.show .inl (s.get e)
  .show .inr #[od,s.get e]
 show gD (λz:Ez=>V.ref z.1) (zs:=D) (SqL.of ((b.new J).get hw)) (λi M H'=>Same H H'/\∃(w:Addr) (Z X o7 W:Option V),H' w=!(.tup (wO (((D.take i).map λz:Ez=>(z.2.2.1,z.2.2.2)).foldl (jh B) none)))/\M=[!(.ref ha),!(.ref wy),!(.ref U),!(.ref sa),!(.ref w),Z,X,o7,W]) #[b.new J,b0,_,_,_,_,ao,rfl] ?_ ?_ ?_;.rintro i M H' ⟨s,_⟩;show SqL.of (s.get hw)
 .rintro i z M H' hi ⟨s,w,Z,X,o7,W,O,rfl⟩;have mz:=Zs hi;let#[z1,z2]:=Y z mz;have ae:((D.take (i+1)).map λz:Ez=>(z.2.2.1,z.2.2.2)).foldl (jh B) none=jh B (((D.take i).map λz:Ez=>(z.2.2.1,z.2.2.2)).foldl (jh B) none) (z.2.2.1,z.2.2.2):=by rw[Ø,hi,Wp,List.foldl_append];rfl
  rw[ae];generalize((D.take i).map λz:Ez=>(z.2.2.1,z.2.2.2)).foldl (jh B) none=bst at O⊢;let#[g,mg,eg]:=Zl.mp (ad z mz);show dh (SqT.of (s.get z1)) rfl ?_;symm;show#[U,cu gz,rfl,G s,?_];symm;intro p N;symm;have x:=s.new (o:=.tup [.non,.non]) N;have C:=(aB (o:=.tup [.non,.non]) N).get O;show#[_,SGet.ofR (G x) (λq mq=>?_) (z2.same x).a,?_];.obtain ⟨y,my,rfl⟩:=Zl.mp mq;show((f.s y my).1.same x).a
  rw[<-eg,fQ f.n mg];have A:=x.get (f.s g mg).2;symm;unfold jh;dsimp only;cases hk:B g.2.1 with
  |none=>rw[hk]at A;show cM A ?_;symm;show#[x,w,_,_,_,_,C,rfl]|some k=>rw[hk]at A;show cM A ?_;symm;rw[È (show¬V.int (k.1:Nat)=V.non fromλz=>by cases z),if_pos (show(not false)=true from rfl)];symm;show cM A ?_;symm;show bV A ?_;symm;intro u I;have ek:((z.2.2.1:Nat):Int)+(k.1:Int)=((z.2.2.1+k.1:Nat):Int)/\(1:Int)+(k.2:Int)=((1+k.2:Nat):Int):=#[(),()];rw[ek.1,ek.2];have T:=x.new (o:=.tup [.int ((z.2.2.1+k.1:Nat):Int),.int ((1+k.2:Nat):Int)]) I;have j:=(aB (o:=.tup [.int ((z.2.2.1+k.1:Nat):Int),.int ((1+k.2:Nat):Int)]) I).get C;have m:upd (upd H' p (.tup [.non,.non])) u (.tup [.int ((z.2.2.1+k.1:Nat):Int),.int ((1+k.2:Nat):Int)]) u=!(.tup [.int ((z.2.2.1+k.1:Nat):Int),.int ((1+k.2:Nat):Int)]):=ao;generalize upd (upd H' p (.tup [.non,.non])) u (.tup [.int ((z.2.2.1+k.1:Nat):Int),.int ((1+k.2:Nat):Int)])=H4 at T j m⊢;symm;cases bst with
   |none=>show cM j ?_;symm;show#[T,u,_,_,_,_,m,rfl]|some l=>
    show cM j ?_;symm;rw[È (show¬V.int (l.1:Nat)=V.non fromλz=>by cases z)];symm;show#[u,w,[((z.2.2.1+k.1:Nat):Int),((1+k.2:Nat):Int)],[(l.1:Int),(l.2:Int)],rfl,rfl,SqT.of m,SqT.of j,?_];rw[Ku (k:=(z.2.2.1+k.1,1+k.2))];symm;by_cases t:Aj (z.2.2.1+k.1,1+k.2) l;.show uh t ?_;symm;show#[T,u,_,_,_,_,by unfold xu;dsimp only;rw[if_pos t];show m,rfl]
    .show q9 t ?_;symm;show#[T,w,_,_,_,_,by unfold xu;dsimp only;rw[if_neg t];show j,rfl]
 .rintro M H' ⟨s,w,Z,X,o7,W,O,rfl⟩;symm;show q w _ s ?_;rw[O,ä];unfold Af;rw[if_neg P]
abbrev Z6:=List (Sd×Option (Nat×Nat))
def Z7 (ls:List (Str×List Nat)) (ds:L2S) (es:List Int) (R:Z6):Prop:=∃N,(bF (ds.map (aN ls)) N).length<=N/\(R.map λr=>dG r.1).Pairwise (λa b=>Nk.fP a b=true)/\(R.map (·.1)).Nodup/\(∀x,x∈R.map (·.1)↔Mm.Rch (rC (ds.map (aN ls)) N) (wC (ds.map (aN ls))) x)/\Dj (wJ es (R.map (·.1))) (ux (uJ ls (ds.map (aN ls))) (R.map (·.1))) (λx k=>(x,!k)∈R) (λ_ _=>False)
theorem Kv (b:Option (Nat×Nat)) (h:Nat×Nat):(∀m,xu b h=!m->b=!m\/m=h)/\∀l,b=!l\/l=h->∃m,xu b h=!m/\leP m l:=by cases b with
 |none=>show#[λm e=>.inr (Ô e).symm,λl a=>a.elim (λz=>by cases z) λe=>#[h,rfl,e▸leP.refl _]]|some b=>
  change(∀m,(if Aj h b then !h else !b)=!m->_)/\∀l,_->∃m,(if Aj h b then !h else !b)=!m/\_;by_cases c:Aj h b
  .rw [if_pos c];show#[λm e=>.inr (Ô e).symm,λl a=>#[h,rfl,?_]];rcases a with e|e;.rw [<-Ô e];unfold Aj at c;unfold leP;rfl'
   .rw [e];show leP.refl _
  .rw [if_neg c];show#[λm e=>.inl e,λl a=>#[b,rfl,?_]];rcases a with e|e;.rw [<-Ô e];show leP.refl _
   .rw [e];unfold Aj at c;unfold leP;rfl'
theorem uE (a:Sd->Option (Nat×Nat)):∀(c:List (Nat×Sd)) (b:Option (Nat×Nat)),(∀m,c.foldl (jh a) b=!m->b=!m\/∃w∈c,∃k,a w.2=!k/\m=(w.1+k.1,1+k.2))/\∀h,(b=!h\/∃w∈c,∃k,a w.2=!k/\h=(w.1+k.1,1+k.2))->∃m,c.foldl (jh a) b=!m/\leP m h
 |[],b=>#[λm e=>.inl e,λh g=>g.elim (λe=>#[h,e,leP.refl _]) λ⟨w,u,_⟩=>by cases u]|w::c,b=>by let#[o,j]:=uE a c (jh a b w);rw[List.foldl_cons];cases hk:a w.2 with
  |none=>
   have e:jh a b w=b:=by unfold jh;rw[hk]
   rw[e]at o j⊢;show#[λm p=>(o m p).imp id λ⟨v,mv,h⟩=>#[v,Í _ mv,h],λh g=>j h (g.imp id λ⟨v,mv,k,d,f⟩=>?_)];rcases Å.mp mv with rfl|mv;.rw [hk]at d;cases d
   .show #[v,mv,k,d,f]|some k=>
   have e:jh a b w=xu b (w.1+k.1,1+k.2):=by unfold jh;rw[hk]
   let#[b1,s]:=Kv b (w.1+k.1,1+k.2);rw[e]at o j⊢;have i:∀l,b=!l\/l=(w.1+k.1,1+k.2)->∃m,c.foldl (jh a) (xu b (w.1+k.1,1+k.2))=!m/\leP m l:=λl r=>by
    let#[m,q,t]:=s l r;let#[n,x,y]:=j m (.inl q);show#[n,x,y.trans t]
   show#[λm p=>?_,λh g=>?_]
   .rcases o m p with h|⟨v,mv,h⟩
    .rcases b1 m h with h|h;.show .inl h
     .show .inr #[w,Ì ..,k,hk,h]
    .show .inr #[v,Í _ mv,h]
   .rcases g with h|⟨v,mv,k',d,f⟩
    .show i _ (.inl h)
    .rcases Å.mp mv with rfl|mv;.rw [hk]at d;rw[<-Ô d]at f;show i _ (.inr f)
     .show j h (.inr #[v,mv,k',d,f])
theorem R6 {xs:List Sd} {F:Sd->Nat×Nat->Prop} (j:Dj (wJ es xs) (ux st xs) F (λ_ _=>False)) (d:∀x k,kf x=!k↔F x k) (n:x∈xs):kf x=Af es kf ((st x).map λe=>(e.2.1,e.2.2)) x:=by
 unfold Af;by_cases i:jf es x=true;.rw [if_pos i];show(d _ _).mpr ((j.e x #[n,i]).elim id False.elim)
 rw[if_neg i];let#[t,r]:=uE kf ((st x).map λe=>(e.2.1,e.2.2)) none;have f:∀m,((st x).map λe=>(e.2.1,e.2.2)).foldl (jh kf) none=!m->∃u,kf x=!u/\leP u m:=λm q=>by
  rcases t m q with h|⟨w,mw,k,e1,e2⟩
  .cases h
  .obtain ⟨e,p,rfl⟩:=Zl.mp mw;rcases j.b e.2.1 x e.2.2 k #[n,e.1,p] ((d _ _).mp e1)with⟨u,a,g⟩|h;.show #[u,(d _ _).mpr a,?_];rw[e2];dsimp only;rw[Ε e.2.1,Ε 1];show g
   .show h.elim
 cases hx':kf x with
 |none=>cases hf:((st x).map λe=>(e.2.1,e.2.2)).foldl (jh kf) none with
  |none=>rfl|some m=>let#[u,a,_]:=f m hf;rw[hx']at a;cases a
 |some k=>
  rcases j.s x k (.inl ((d _ _).mp hx'))with h|⟨c,y,v,⟨_,s,ms⟩,hF,e⟩;.show absurd h.1.2 i
  .obtain ⟨m,l,o⟩:=r (c+v.1,1+v.2) (.inr #[(c,y),Zl.mpr #[(s,c,y),ms,rfl],v,(d _ _).mpr hF,rfl]);let#[u,a,g]:=f m l;rw[hx']at a;rw[<-Ô a]at g;rw[Ε c,Ε 1,<-e]at o;rw[l,g.anti o]
inductive sp_f8 (K:W.Frag) (vs:List V) (H:Hp) (Q:VK) (E:XK):Prop|mk (ha pc pa:Addr) (zs:List Lz) (ds:L2S) (es:List Int) (rz:List Rz) (N:Nat) (h0:vs=[.ref ha,.ref pc,.ref pa]) (h1:HsT K H ha ds es) (h2:PcT H pc zs) (h3:Ai (dj zs) ds) (h4:(∀z∈zs,z.2.2.2.length<=8)) (h5:H pa=!(.lst (rz.map λz=>V.ref z.1))) (h6:(∀z∈rz,H z.1=!(.tup (uA z.2.1 z.2.2.2))/\StT K H z.2.1 z.2.2.1/\z.2.2.1.2.2.length<=8)) (h7:rz.length<=50000) (h8:(rz.map (·.2.2.1)).Nodup) (h9:(∀x∈rz.map (·.2.2.1),∃r:Nat,x.1=(r:Int)/\r<ds.length)) (h10:(bF (ds.map (aN (dj zs))) N).length<=N) (h11:(∀x,x∈rz.map (·.2.2.1)↔Mm.Rch (rC (ds.map (aN (dj zs))) N) (wC (ds.map (aN (dj zs)))) x)) (h12:Dj (wJ es (rz.map (·.2.2.1))) (ux (uJ (dj zs) (ds.map (aN (dj zs)))) (rz.map (·.2.2.1))) (λx k=>∃z∈rz,z.2.2.1=x/\z.2.2.2=!k) (λ_ _=>False)) (h13:∀H',Same H H'->Q (.bl true) H'):sp_f8 K vs H Q E
abbrev Kw (K:W.Frag):TS:=(aF (d9 (cO K (aa 7)) (gZ K 2 (bC (au 5) (bC (au 8) iQ))) (bW (tB (jm (aa 8) (aa 3))) (b7 (tC (V.bl false))) bh))
  (bW (aZ (aH (rNeD K) (gQ (aa 3) (aa 6)) (aR (sp_f29 K) [] E0 (aj (aa 0) (aj (aa 7) (aj (aa 3) (aj (aa 6) aA))))))) (b7 (tC (V.bl false))) bh))
abbrev Ky (K:W.Frag):TS:=(aF (d9 (cO K (aR (sp_f10 K) [] E0 (aj (aa 0) (aj (aa 1) aA)))) (gZ K 2 (bC (au 5) (bC (au 6) iQ))) (bW (tB (jm (aa 6) (aa 3))) (b7 (tC (V.bl false))) bh))
  (aF (d9 (nO (aa 3)) (au 6) (aF (aP (aR (sp_f14 K) [] E0 (aj (aa 0) (aj (aa 1) (aj (aa 6) aA)))) (au 7))
  (Kw K)))
  (b7 (tC (V.bl true)))))
def Hk (K:W.Frag) (E:XK) (Eh:XK):TS:=(aF (bW (uH (jJ (jw K (cF (dN K) (aj (aa 2) (aj (tC (V.ty "list")) aA))))) (jJ (jw K (cF (Cu K) (aj (oR [none] (cO K (aa 2)) (au 0) fu (aR (sp_f6 K) [] E0 (aj (aa 0) aA))) aA))))) (b7 (tC (V.bl false))) bh)
  (aF (aP nJ (au 3))
  (aF (d9 (cO K (aa 2)) (au 4) (nM (aa 3) (aH (aO K) (aa 4) (tC (V.int 0))) (bZ (aj (aH (aO K) (aa 4) (tC (V.int 1))) (aj (aH (aO K) (aa 4) (tC (V.int 2))) aA)))))
  (Ky K))))
theorem Vs (h:sp_f8 K vs H Q E):∃Eh,Hk K E Eh {nx:=λ_ H'=>Q .non H',rt:=Q} (start ["house","pictures","paper","found","row","cost","stand","ways","onward"] vs) H:=by
 let#[ha,pc,pa,zs,ds,es,f,N,rfl,hH,hP,sz,ar,W,U,bo,am,be,hN,hR,hD,q]:=h;show#[E0,?_];unfold Hk;let#[Z,a2,a5]:∃Z:Sd->Option (Nat×Nat),(∀x k,Z x=!k↔ ∃z∈f,z.2.2.1=x/\z.2.2.2=!k)/\∀z∈f,Z z.2.2.1=z.2.2.2:=by
  have key:∀z∈f,(f.find? λy=>decide (y.2.2.1=z.2.2.1))=!z:=λz u=>by cases e:f.find? λy=>decide (y.2.2.1=z.2.2.1)with
   |none=>show absurd (List.find?_eq_none.mp e z u) (by simp)|some y=>have h1:=ň e;have h2:=ξ e;rw[di am h1 u (ò h2)]
  show#[λx=>(f.find? λy=>decide (y.2.2.1=x)).bind (·.2.2.2),λx k=>#[λh=>?_,λ⟨z,u,e1,e2⟩=>?_],λz u=>?_];.obtain ⟨z,e1,e2⟩:=Option.bind_eq_some_iff.mp h;have e3:=ξ e1;show#[z,ň e1,ò e3,e2]
  .subst e1;change(f.find? _).bind _=_;rw[key z u];show e2
  .show (f.find? _).bind _=_;rw[key z u];rfl
 show yE (Lj (v:=false) (λR bb=>?_) λH1 S1=>?_)
 .symm;show jC (.lst W) (b:=true) rfl ?_;symm;show zX (λz:Rz=>V.ref z.1) (zs:=f) (SqL.of W) () (λi ys H'=>Same H H'/\ys=(List.replicate i true).map V.bl) #[Same.refl _,rfl] ?_ ?_ ?_ ?_;.rintro i ys H' ⟨s,_⟩;show SqL.of (s.get W)
  .rintro i ys H' ⟨_,rfl⟩;rw[Qb,List.length_replicate];show Ã _
  .rintro i z ys H' hi ⟨s,rfl⟩;let#[X,z2,z3]:=U z (Zs hi);symm;show#[z.1,z.2.1,z.2.2.1,z.2.2.2,rfl,s.get X,z2.same s,z3,λH2 Y=>?_];symm;show#[s.trans Y,by rw[List.replicate_succ',Wp];rfl]
  .rintro ys H' ⟨s,rfl⟩ p hp;symm;show Lg (bs:=List.replicate f.length true) (SqL.of ao) ?_;rw[show(List.replicate f.length true).all id=true by simp];symm;show bb _ (s.new hp)
 rw[if_neg (by decide)];symm;intro C aw;symm;have S2:=S1.new (o:=bA C []) aw;have ad:H C=none:=S1.free aw;show gD (λz:Rz=>V.ref z.1) (zs:=f) (SqL.of (S2.get W)) (λi t H'=>Same H H'/\∃(j:List Gz) (L F P T D:Option V),j.map (λg=>(g.1,g.2.1))=(f.take i).map (λz=>(z.2.1,z.2.2.1))/\H' C=!(bA C (cu j))/\(∀g∈j,H' g.2.2=!(.tup (wO (Z g.2.1))))/\t=[!(.ref ha),!(.ref pc),!(.ref pa),!(.ref C),L,F,P,T,D]) #[S2,[],_,_,_,_,_,rfl,ao,by simp,rfl] ?_ ?_ ?_;.rintro i t H' ⟨s,_⟩;show SqL.of (s.get W)
 .rintro i z t H' hi ⟨s,j,L,F,P,T,D,A,ef,ak,rfl⟩;have u:=Zs hi;let#[X,z2,z3]:=U z u;let#[v1,v2,eo,er]:∃v1 v2,wO z.2.2.2=[v1,v2]/\uA z.2.1 z.2.2.2=[.ref z.2.1,v1,v2]:=by cases z.2.2.2<;>show#[_,_,rfl,rfl]
  rw[er]at X;symm;show bV (s.get X) ?_;symm;show eG (s.get X) ?_;symm;intro p hp;symm;have Y:=s.new (o:=.tup [v1,v2]) hp;have I:=(aB (o:=.tup [v1,v2]) hp).get ef;have bw:i<f.length:=(É.mp hi).1;have bq:j.length<=50000:=by have:=ß List.length A;rw[Qb,Qb,Ñ]at this;rfl'
  have B:∀g∈j,StT K H g.1 g.2.1:=λg c=>by
   have:(g.1,g.2.1)∈(f.take i).map (λz=>(z.2.1,z.2.2.1)):=by rw[<-A];show Zl.mpr #[g,c,rfl]
   let#[y,O,G]:=Zl.mp this;have:=(U y (Ē O)).2.1;rw[(Ś G).1,(Ś G).2]at this;show this
  have ev:cR (cu j) (dG z.2.2.1)=none:=gk λm=>by have e:=ß (List.map Prod.snd) A;rw[Á,Á]at e;rw[show j.map (·.2.1)=(f.take i).map (·.2.2.1)from e]at m;have a4:((f.take (i+1)).map (·.2.2.1)).Nodup:=am.sublist ((Ě _ _).map _);rw[Ø,hi,Wp,ð]at a4;show a4.2.2 _ m z.2.2.1 (by simp) rfl
  show cM (Y.get X) ?_;symm;show#[C,_,rfl,SPut.of I (λq mq=>?_) (z2.same Y).a (by unfold cu;rw[Qb];rfl'),?_];.obtain ⟨g,c,rfl⟩:=Zl.mp mq;show((B g c).same Y).a
  rw[jb ev];symm;have bi:∀{a:Addr} {l:List V} {o:HO},upd H' p (.tup [v1,v2]) a=!(.tup l)->upd (upd H' p (.tup [v1,v2])) C o a=!(.tup l):=λe=>by rw[az (λz=>by rw[z,I]at e;cases e)];show e
  show#[λa o e=>?_,j++[(z.2.1,z.2.2.1,p)],_,_,_,_,_,by rw[Wp,A,Ø,hi,Wp];rfl,by rw[ao];unfold cu;rw[Wp];rfl,λg c=>bi ?_,rfl];.rw [az (λz=>by rw[z,ad]at e;cases e)];show Y.get e
  .rcases Â.mp c with c|c;.show (aB hp _).get (ak g c)
   .rw [Zp.mp c];dsimp only;rw[a5 z u,eo];show ao
 .rintro t H' ⟨s,j,L,F,P,T,D,A,ef,ak,rfl⟩;rw[ä]at A;symm;have S:j.map (·.2.1)=f.map (·.2.2.1):=by have e:=ß (List.map Prod.snd) A;rw[Á,Á]at e;show e
  have B:∀g∈j,StT K H g.1 g.2.1:=λg c=>by
   have:(g.1,g.2.1)∈f.map (λz=>(z.2.1,z.2.2.1)):=by rw[<-A];show Zl.mpr #[g,c,rfl]
   let#[y,O,G]:=Zl.mp this;have:=(U y O).2.1;rw[(Ś G).1,(Ś G).2]at this;show this
  show#[ha,pc,zs,ds,es,rfl,hH.same s,hP.same s,sz,ar,λbp H2 M ez Y bn hM a3 a9 al bk=>?_];replace al:ez.map (λz:Ez=>z.2.2.2)=rC (ds.map (aN (dj zs))) N:=by have:=ß (List.map (·.2)) al;rw[Á,Á,oA hM hN]at this;show this
  symm;have I:=Y.get ef;have av:=s.trans Y;show gD (λz:Ez=>V.ref z.1) (zs:=ez) (SqL.of a3) (λi t H'=>H'=H2/\∃(L F P T D:Option V),t=[!(.ref ha),!(.ref pc),!(.ref pa),!(.ref C),L,F,P,T,D]) #[rfl,_,_,_,_,_,rfl] ?_ ?_ ?_;.rintro i t H' ⟨rfl,_⟩;show SqL.of a3
  .rintro i z t H' hi ⟨rfl,L,F,P,T,D,rfl⟩;have u:=Zs hi;let#[X,z2]:=a9 z u;show dh (SqT.of X) rfl ?_;symm;have hm:z.2.2.2∈j.map (·.2.1):=by rw[S];show(hR _).mpr (.base ?_);rw[<-al];show Zl.mpr #[z,u,rfl]
   let#[v,ev]:=je hm;show#[C,_,rfl,SGet.of I (λq mq=>?_) z2.a,?_];.obtain ⟨g,c,rfl⟩:=Zl.mp mq;show((B g c).same av).a
   rw[ev];symm;change if(not true)=true then _ else _;symm;show#[rfl,_,_,_,_,_,rfl]
  .rintro t H' ⟨rfl,L,F,P,T,D,rfl⟩;symm;have a8:∀g∈j,g.2.1.2.2.length<=8:=λg c=>by
    have:g.2.1∈f.map (·.2.2.1):=by rw[<-S];show Zl.mpr #[g,c,rfl]
    let#[y,O,G]:=Zl.mp this;rw[<-show y.2.2.1=g.2.1 from G];show(U y O).2.2
   have ae:(j.map (·.2.1)).Nodup:=by rw[S];show am
   show Ey (.inl I) (λod i t H'=>Same H H'/\H' C=!(.frz od (bA C (cu j)))/\(∀g∈j,H' g.2.2=!(.tup (wO (Z g.2.1))))/\∃(L F P T D:Option V),t=[!(.ref ha),!(.ref pc),!(.ref pa),!(.ref C),L,F,P,T,D]) ?_ ?_ ?_ ?_;.intro od H3 ap e3;show#[λa o e=>ap a o (λm=>by rw[Zp.mp m,ad]at e;cases e) (av.get e),e3,λg c=>?_,_,_,_,_,_,rfl];have e:=Y.get (ak g c);show ap.get (λm=>by rw[Zp.mp m,I]at e;cases e) e
   .rintro od i t H' ⟨_,e,_⟩;show e
   .rintro od i z t H3 hi ⟨s3,e3,ah,L,F,P,T,D,rfl⟩;let#[g,hg,rfl]:=rG hi;have c:=Zs hg;have hx:g.2.1∈f.map (·.2.2.1):=by rw[<-S];show Zl.mpr #[g,c,rfl]
    let#[r,er,hr]:=be _ hx;symm;show#[ha,pc,g.1,zs,ds,es,g.2.1,r,ds[r],rfl,hH.same s3,hP.same s3,ar,(B g c).same s3,a8 g c,er,Zz hr,(sz.2.2.1 _ (ì hr)).1,λwp H4 G s4 br ai as a6=>?_];symm;have e4:=s4.get e3;have J:=s3.trans s4;have bd:((ds.map (aN (dj zs))).getD g.2.1.1.toNat []).map (qZ (dj zs) g.2.1)=(aN (dj zs) ds[r]).map (qZ (dj zs) g.2.1):=by rw[er,Ó,Æ,Xs,Zz hr];rfl
    have af:G.map (λz:Ez=>(z.2.2.1,z.2.2.2))=(((ds.map (aN (dj zs))).getD g.2.1.1.toNat []).map (qZ (dj zs) g.2.1)).map λe=>(e.2.1,e.2.2):=by rw[a6,bd,Á];rfl
    have a1:∀z∈G,z.2.2.2∈j.map (·.2.1):=λz u=>by rw[S];show(hR _).mpr (.step ((hR _).mp hx) ?_);have:(z.2.2.1,z.2.2.2)∈G.map (λz:Ez=>(z.2.2.1,z.2.2.2)):=Zl.mpr #[z,u,rfl];rw[af,Á]at this;let#[w,mw,e]:=Zl.mp this;show Zl.mpr #[w,mw,(Ś e).2]
    have ag:∀p∈cu j,StA H4 p.1 p.2.1:=λp mp=>by let#[y,O,rfl]:=Zl.mp mp;show((B y O).same J).a
    show gD (λz:Ez=>V.ref z.1) (zs:=G) (SqL.of ai) (λi t H'=>H'=H4/\∃(F D:Option V),t=[!(.ref ha),!(.ref pc),!(.ref pa),!(.ref C),L,F,!(.ref g.1),!(.ref wp),D]) #[rfl,_,_,rfl] ?_ ?_ ?_;.rintro i t H' ⟨rfl,_⟩;show SqL.of ai
    .rintro i z t H' hi ⟨rfl,F,D,rfl⟩;have u:=Zs hi;let#[X,z2]:=as z u;show dh (SqT.of X) rfl ?_;symm;let#[v,ev]:=je (a1 z u);show#[C,_,rfl,SGet.ofR (.inr #[od,e4]) ag z2.a,?_];rw[ev];symm;change if(not true)=true then _ else _;symm;show#[rfl,_,_,rfl]
    .rintro t H' ⟨rfl,F,D,rfl⟩;symm;show#[C,.ref g.2.2,rfl,by rw[<-fQ ae c];show SGet.ofR (.inr #[od,e4]) ag ((B g c).same J).a,?_];symm;show#[ha,wp,C,g.1,ds,es,G,j,(g.2.1,Z),rfl,hH.same J,ai,as,#[.inr #[od,e4],λy O=>#[(B y O).same J,s4.get (ah y O)],ae],(B g c).same J,a1,λrr H5 s5 e5=>?_];have ay:Af es Z (G.map λz:Ez=>(z.2.2.1,z.2.2.2)) g.2.1=Z g.2.1:=by rw[af];show(R6 (xs:=f.map (·.2.2.1)) (st:=λx=>uJ (dj zs) (ds.map (aN (dj zs))) x) hD a2 hx).symm
     dsimp only at e5;rw[ay]at e5;have bg:=s5.get (s4.get (ah g c));let#[d,ax,a7]:∃d,(∀{a:Addr},H5 a=!(.tup (wO (Z g.2.1)))->Dp K H5 (.ref a) d)/\Sh 1 d:=by
      cases Z g.2.1 with|none=>
       show#[.tuple [.none,.none],λe=>.tup (SqT.of e) (.cons .non (.cons .non .nil)),gh λx mx=>?_];have:x=.none:=by simpa using mx
       rw[this];show#[by simp[PyData.canLay0],by simp[PyData.depth]]|some k=>
       show#[.tuple [.int (k.1:Nat),.int (k.2:Nat)],λe=>.tup (SqT.of e) (.cons (.int _) (.cons (.int _) .nil)),gh λx mx=>?_];rcases Å.mp mx with rfl|mx;.show dZ _ _
       .rw [Zp.mp mx];show dZ _ _
     symm;show rNeD.same (n:=1) (ax bg) (ax e5) a7 (by decide) ?_;symm;show#[J.trans s5,s5.get e4,λy O=>s5.get (s4.get (ah y O)),_,_,_,_,_,rfl]
   .rintro od t H' ⟨s3,_,_,L,F,P,T,D,rfl⟩;symm;show q _ s3
noncomputable def optN:Option Nat->V
 |none=>.non|some L=>.int (L:Nat)
noncomputable def rv (o:Option (Nat×Nat)):V:=optN (o.map (·.1))
noncomputable def R7 (rz:List Rz):List (Addr×Sk×V):=rz.map λz=>(z.2.1,dG z.2.2.1,rv z.2.2.2)
theorem KD (f:(rz.map (·.2.2.1)).Nodup) {z:Rz} (d:z∈rz):cR (R7 rz) (dG z.2.2.1)=!(rv z.2.2.2):=by cases e:cR (R7 rz) (dG z.2.2.1)with
 |none=>show absurd (Zl.mpr #[_,Zl.mpr #[z,d,rfl],rfl]) (jr.mp e)|some v=>let#[b,m]:=qb e;let#[y,g,a]:=Zl.mp m;have c:rJ (dG y.2.2.1)=rJ (dG z.2.2.1):=ß (λp:Addr×Sk×V=>rJ p.2.1) a;rw[ju,ju]at c;rw[di f g d c]at a;show ß (λp:Addr×Sk×V=>!p.2.2) a.symm
inductive sp_f13 (K:W.Frag) (vs:List V) (H:Hp) (Q:VK) (E:XK):Prop|mk (ha pc pa:Addr) (zs:List Lz) (ds:L2S) (es:List Int) (rz:List Rz) (N:Nat) (h0:vs=[.ref ha,.ref pc,.ref pa]) (h1:HsT K H ha ds es) (h2:PcT H pc zs) (h3:Ai (dj zs) ds) (h4:(∀z∈zs,z.2.2.2.length<=8)) (h5:H pa=!(.lst (rz.map λz=>V.ref z.1))) (h6:(∀z∈rz,H z.1=!(.tup (uA z.2.1 z.2.2.2))/\StT K H z.2.1 z.2.2.1)) (h7:rz.length<=50000) (h8:(rz.map (·.2.2.1)).Nodup) (h9:(bF (ds.map (aN (dj zs))) N).length<=N) (h10:(∀x∈rC (ds.map (aN (dj zs))) N,x∈rz.map (·.2.2.1))) (h11:∀H' (o:Option Nat),Same H H'->LsO (ds.map (aN (dj zs))) N (λx k=>∃z∈rz,z.2.2.1=x/\z.2.2.2=!k) o->Q (optN o) H'):sp_f13 K vs H Q E
abbrev Hl (K:W.Frag):TS:=(aF (d9 (cO K (aR (sp_f10 K) [] E0 (aj (aa 0) (aj (aa 1) aA)))) (gZ K 2 (bC (au 6) (bC (au 7) iQ))) (bW (jH (aZ (aH vh (gQ (aa 3) (aa 7)) (tC V.non))) (uH (aZ (aH iK (aa 5) (tC V.non))) (aZ (aH J7 (aH cD (aa 6) (gQ (aa 3) (aa 7))) (aa 5))))) (aP (aH cD (aa 6) (gQ (aa 3) (aa 7))) (au 5)) bh))
  (b7 (aa 5)))
def xF (K:W.Frag) (E:XK) (Eh:XK):TS:=(aF (aP nJ (au 3))
  (aF (d9 (cO K (aa 2)) (au 4) (nM (aa 3) (aH (aO K) (aa 4) (tC (V.int 0))) (aH (aO K) (aa 4) (tC (V.int 1)))))
  (aF (aP (tC V.non) (au 5))
  (Hl K))))
theorem R8 (h:sp_f13 K vs H Q E):∃Eh,xF K E Eh {nx:=λ_ H'=>Q .non H',rt:=Q} (start ["house","pictures","paper","found","row","best","cost","stand"] vs) H:=by
 let#[ha,pc,pa,zs,ds,es,g,N,rfl,hH,hP,sz,ad,S,w,ai,A,hN,X,q]:=h;show#[E0,?_];unfold xF;symm;intro d O;symm;have S2:=aB (o:=bA d []) O;show gD (λz:Rz=>V.ref z.1) (zs:=g) (SqL.of (S2.get S)) (λi j H'=>Same H H'/\∃(t o5 n r:Option V),H' d=!(bA d (R7 (g.take i)))/\j=[!(.ref ha),!(.ref pc),!(.ref pa),!(.ref d),t,o5,n,r]) #[S2,_,_,_,_,ao,rfl] ?_ ?_ ?_;.rintro i j H' ⟨s,_⟩;show SqL.of (s.get S)
 .rintro i z j H' hi ⟨s,t,o5,n,r,D,rfl⟩;have U:=Zs hi;let#[I,Z]:=w z U;let#[v2,er]:∃v2,uA z.2.1 z.2.2.2=[.ref z.2.1,rv z.2.2.2,v2]:=by cases z.2.2.2<;>show#[_,rfl]
  rw[er]at I;symm;show bV (s.get I) ?_;symm;show cM (s.get I) ?_;symm;have ev:cR (R7 (g.take i)) (dG z.2.2.1)=none:=jr.mpr λm=>by let#[_,mq,e1]:=Zl.mp m;let#[y,v,rfl]:=Zl.mp mq;have h1:rJ (dG y.2.2.1)=rJ (dG z.2.2.1):=ß rJ e1;rw[ju,ju]at h1;have R:((g.take (i+1)).map (·.2.2.1)).Nodup:=A.sublist ((Ě _ _).map _);rw[Ø,hi,Wp,ð]at R;show R.2.2 _ (Zl.mpr #[y,v,rfl]) z.2.2.1 (by simp) h1
  show#[d,_,rfl,SPut.of D (λq mq=>?_) (Z.same s).a (by unfold R7;rw[Qb,Ñ];rfl'),?_];.obtain ⟨y,v,rfl⟩:=Zl.mp mq;show((w y (Ē v)).2.same s).a
  rw[jb ev];symm;show#[λa o e=>?_,_,_,_,_,?_,rfl];.rw [az (λz=>by rw[z,O]at e;cases e)];show s.get e
  .rw [ao,Ø,hi];unfold R7;rw[Wp];rfl
 .rintro j H' ⟨s,t,o5,n,r,D,rfl⟩;rw[ä]at D;symm;show#[ha,pc,zs,ds,es,rfl,hH.same s,hP.same s,sz,ad,λbp H2 M G s2 ah hM P ae u ag=>?_];rw[oA hM hN]at u;have Y:=s2.get D;have J:=s.trans s2;symm;show gD (λz:Ez=>V.ref z.1) (zs:=G) (SqL.of P) (λi j H'=>H'=H2/\∃(o:Option Nat) (t n r:Option V),LsE (λx k=>∃z∈g,z.2.2.1=x/\z.2.2.2=!k) ((G.take i).map (·.2.2)) o/\j=[!(.ref ha),!(.ref pc),!(.ref pa),!(.ref d),t,!(optN o),n,r]) #[rfl,none,_,_,_,λe me=>(by cases me),rfl] ?_ ?_ ?_;.rintro i j H' ⟨rfl,_⟩;show SqL.of P
  .rintro i z j H' hi ⟨rfl,o,t,n,r,b,rfl⟩;have U:=Zs hi;let#[I,Z]:=ae z U;let#[y,v,ey]:∃y∈g,y.2.2.1=z.2.2.2:=by show Zl.mp (X _ ?_);have:z.2.2∈G.map (λz:Ez=>z.2.2):=Zl.mpr #[z,U,rfl];rw[u]at this;let#[f,mf,D]:=Zl.mp this;show Zl.mpr #[f,mf,ß (·.2) D]
   have l:∀k,(∃x∈g,x.2.2.1=z.2.2.2/\x.2.2.2=!k)->y.2.2.2=!k:=λk ⟨x,mx,e1,e2⟩=>by rw[di A v mx (ey.trans e1.symm)];show e2
   have af:(G.take (i+1)).map (λz:Ez=>z.2.2)=(G.take i).map (λz:Ez=>z.2.2)++[z.2.2]:=by rw[Ø,hi,Wp];rfl
   rw[af];have T:∀p∈R7 g,StA H' p.1 p.2.1:=λp mp=>by let#[x,mx,rfl]:=Zl.mp mp;show((w x mx).2.same J).a
   have C:SGet H' d (.ref z.2.1) !(rv y.2.2.2):=by rw[<-KD A v,ey];show SGet.of Y T Z.a
   show dh (SqT.of I) rfl ?_;symm;show#[d,_,rfl,C,?_];cases hy:y.2.2.2 with|none=>rw[hy]at l;symm;show#[rfl,o,_,_,_,b.skip λk W=>(by cases l k W),rfl]|some k=>rw[hy]at C l;change SGet H' d (.ref z.2.1) !(.int (k.1:Nat)) at C;have W:∃x∈g,x.2.2.1=z.2.2.2/\x.2.2.2=!k:=#[y,v,ey,hy];have B:∀F,(∃x∈g,x.2.2.1=z.2.2.2/\x.2.2.2=!F)->F=k:=λF h=>(Ô (l F h)).symm;have eC:((z.2.2.1:Nat):Int)+((k.1:Nat):Int)=((z.2.2.1+k.1:Nat):Int):=();symm;change if(not (decide (V.int (k.1:Nat)=V.non)))=true then _ else _;rw[È (show¬V.int (k.1:Nat)=V.non fromλz=>by cases z)];symm;cases o with
    |none=>
     change if decide (V.non=V.non)=true then _ else _;symm;show#[d,.int (k.1:Nat),rfl,C,?_];symm;show#[rfl,!(z.2.2.1+k.1),_,_,_,b.take W B λL e=>(by cases e),by rw[eC];rfl]|some L=>
     change if decide (V.int (L:Nat)=V.non)=true then _ else _;rw[È (show¬V.int (L:Nat)=V.non fromλz=>by cases z)];symm;show#[d,.int (k.1:Nat),rfl,C,?_];symm;show#[_,(L:Nat),rfl,rfl,?_];symm;show gb (λc=>?_) λc=>?_;.symm;show#[d,.int (k.1:Nat),rfl,C,?_];symm;show#[rfl,!(z.2.2.1+k.1),_,_,_,b.take W B λL' e=>(by have:=Ô e;rfl'),by rw[eC];rfl]
     .symm;show#[rfl,!L,_,_,_,b.skip λF h=>#[L,rfl,by rw[B F h];rfl'],rfl]
  .rintro j H' ⟨rfl,o,t,n,r,b,rfl⟩;rw[ä,u]at b;symm;show q _ o J b.ls
theorem yU {s:Str} {r:Int}:∀{ps:L1S},(ps.map (·.1)).Nodup->(s,r)∈ps->(ps.filter λq=>decide (q.1=s))=[(s,r)]
 |p::ps,hn,m=>by
  let#[a,f]:=Ĉ.mp hn;by_cases c:p.1=s
  .rw [List.filter_cons_of_pos (by simpa using c)];have b:ps.filter (λq=>decide (q.1=s))=[]:=List.filter_eq_nil_iff.mpr λq d=>by intro e;show a (Zl.mpr #[q,d,(ò e).trans c.symm])
   rw[b];rcases Å.mp m with e|m;.rw [e]
   .show absurd (Zl.mpr #[_,m,c.symm]) a
  .rw [List.filter_cons_of_neg (by simpa using c)];rcases Å.mp m with e|m;.rw [<-e]at c;show absurd rfl c
   .show yU f m
inductive sp_f20 (K:W.Frag) (vs:List V) (H:Hp) (Q:VK) (E:XK):Prop|mk (ha pc:Addr) (zs:List Lz) (ds:L2S) (es:List Int) (p:List cX) (h0:vs=[.ref ha,.ref pc,.str (tP p)]) (h1:HsT K H ha ds es) (h2:PcT H pc zs) (h3:(∀z∈zs,z.2.2.2.length<=8)) (h4:(∀ps∈ds,ps.length<=18/\(ps.map (·.1)).Nodup/\∀q∈ps,0<=q.2)) (h5:(∀z∈zs,Hs.Sg z.2.1)) (h6:Wk (ds.map (aN (dj zs))) p) (h7:rP p∈es) (h8:p.length<=60000) (h9:∀r H',Same H H'->H' r=!(.lst (nv (stP p)))->(stP p).length<=480000->Q (.ref r) H'):sp_f20 K vs H Q E
abbrev Hm (K:W.Frag):TS:=(aF (aP (oR [none,!5,!1] (lJ K (aH (aO K) (aH (aO K) (aa 0) (tC (V.int 0))) (aa 3))) (au 0) (jH (aZ (aH oH (aH (aO K) (aa 0) (tC (V.int 0))) (aa 1))) (tB (uZ (aa 1) (aa 2)))) (aH (aO K) (aa 0) (tC (V.int 1)))) (au 6))
  (aF (bW (aZ (aH (rEqD K) (aa 6) (gG aA))) (b7 (tC V.non)) bh)
  (aF (aP (aH (fj K) (aa 6) (tC (V.int 0))) (au 3))
  (du (oO K "list" (jR K) (aa 4) (aj (gw (aa 1) (aa 5)) aA))))))
def xG (K:W.Frag) (E:XK) (Eh:XK):TS:=(aF (aP (tC (V.int 0)) (au 3))
  (aF (aP (gG aA) (au 4))
  (aF (d9 (Nv (aa 2)) (au 5) (Hm K))
  (aF (bW (aZ (aH (xX K false) (aa 3) (aH (aO K) (aa 0) (tC (V.int 1))))) (b7 (aa 4)) bh)
  (b7 (tC V.non))))))
theorem R9 (h:sp_f20 K vs H Q E):∃Eh,xG K E Eh {nx:=λ_ H'=>Q .non H',rt:=Q} (start ["house","pictures","text","room","strip","sign","ways"] vs) H:=by
 let#[ha,pc,zs,ds,es,p,rfl,hH,hP,R,Y,am,hw,ah,ax,q]:=h;show#[E0,?_];unfold xG;let#[d,e,rs,a1,a2,a3,a4,a5]:=id hH;have n:∀(i:Nat) (w:cX),p[i]?=!w->∃a,rs[(rP (p.take i)).toNat]?=!a/\(w.1,w.2.2)∈a.2/\Fo.lk (dj zs) w.1=!w.2.1:=λi w e=>by
  have:=hw i w e;rw[Æ,Xs,<-a2,Xs]at this;cases h:rs[(rP (p.take i)).toNat]? with|none=>rw[h]at this;cases this|some a=>rw[h]at this;let#[q,mq,eq]:=ý.mp (show w∈a.2.filterMap _ from this);let#[co,ai,rfl]:=á.mp eq;show#[a,rfl,mq,ai]
 have C:∀w∈p,Hs.Sg w.1:=λw mw=>by let#[i,hi,e]:=ó.mp mw;let#[_,_,_,h]:=n i w (by rw[Zz hi,e]);have:=Fo.nY h;let#[z,J,P]:=Zl.mp this;have t:=am z J;rw[show z.2.1=w.1 from ß (·.1) P]at t;show t
 have ad:tP p=tx (p.map HX):=yQ C;have hz:(tP p).cps.size=p.length:=by rw[ad];change(p.map HX).toArray.size=_;rw[Î,Qb]
 have y:∀l:List cX,(∀w∈l,w∈p)->(stP l).length<=l.length*8:=λl=>by induction l with
  |nil=>intro _;show Ã _|cons w l ih=>
   intro h;have h1:=ih λu mu=>h u (Í _ mu);let#[i,hi,e]:=ó.mp (h w Ì);let#[_,_,_,t]:=n i w (by rw[Zz hi,e]);let#[z,J,P,_]:=iH t;have h3:=R z J;rw[P]at h3;change(w.2.1++stP l).length<=_;rw[À,é];rfl'
 symm;intro U X;symm;walk_at "ns";have D:∀b∈[U],H b=none:=λb mb=>by rw[Zp.mp mb];show X
 show UW (λi σ H'=>Sb [U] H H'/\∃(o5 o6:Option V),H' U=!(.lst (nv (stP (p.take i))))/\σ=[!(.ref ha),!(.ref pc),!(.str (tP p)),!(.int (rP (p.take i))),!(.ref U),o5,o6]) #[Sb.of (aB X _),_,_,ao,rfl] ?_ ?_
 .rintro i c σ H' hi ⟨sb,o5,o6,r,rfl⟩;have m:=sb.off D;have al:i<p.length:=by rw[<-hz];show(Array.getElem?_eq_some_iff.mp hi).1
  let#[w,x]:∃w,p[i]?=!w:=#[_,Zz al];let#[a,I,hm,ag]:=n i w x;have af:(⟨([c].toArray)⟩:Str)=w.1:=by
   rw[ad]at hi;have t:(p.map HX)[i]?=!c:=by rw[<-hi];simp[tx]
   rw[Xs,x]at t;rw[rK (C w (Zs x)),show HX w=c from Ô t];rfl
  rw[af];have W:p.take (i+1)=p.take i++[w]:=by rw[Ø,x];rfl
  let#[j,ej]:∃j:Nat,rP (p.take i)=(j:Int):=by
   show#[(rP (p.take i)).toNat,(ų ?_).symm];unfold rP;cases e:(p.take i).getLast? with|none=>show Int.le_refl _|some u=>let#[k,hk,e]:=ó.mp (Ē (List.mem_of_getLast? e));let#[a,h1,t,_]:=n k u (by rw[Zz hk,e]);show(Y a.2 (by rw[<-a2];show Zl.mpr #[a,Zs h1,rfl])).2.2 _ t
  rw[ej,Ó]at I;rw[ej];have ae:=Zs I;let#[dz,S,b1,b2]:=a4 a ae;let#[as,ak,_]:=Y a.2 (by rw[<-a2];show Zl.mpr #[a,ae,rfl]);have aw:dz.length=a.2.length:=by rw[<-S,Qb]
  let#[z,J,P,ev]:=iH ag;symm;show cM (m.get a1) ?_;symm;show dW (SqT.of (m.get a3)) (aX (j:=j) (v:=.ref a.1) (by rw[Xs,I];rfl)) ?_;walk_at "ns";show Er (λz:Dz=>V.ref z.1) (zs:=dz) (SqT.of (m.get b1)) () (λk M H2=>H2=H'/\M=(((a.2.take k).filter λq=>decide (q.1=w.1)).map (·.2)).map V.int/\M.length<=k) #[rfl,rfl,Ã _] ?_ ?_ ?_ ?_;.rintro k M H2 ⟨rfl,_⟩;show SqT.of (m.get b1)
  .rintro k M H2 ⟨_,_,h⟩;show h
  .rintro k ⟨za,s,f⟩ M H2 hk ⟨rfl,rfl,av⟩;have N:a.2[k]?=!(s,f):=by rw[<-S,Xs,hk];rfl
   have tz:=m.get (b2 _ (Zs hk));dsimp only at tz;symm;show cM tz ?_;symm;by_cases c1:s=w.1;.rw [Ö c1];symm;show#[pc,_,rfl,DGet.k (k:=Sum.inr w.1) (m.get hP.1),?_];rw[ev];symm;change if true=true then _ else _;symm;show bV tz ?_;show#[rfl,?_,by rw[À,Õ];rfl'];rw[Ø,N,List.filter_append,show(!(s,f)).toList.filter (λq:Str×Int=>decide (q.1=w.1))=[(s,f)]from List.filter_cons_of_pos (by simpa using c1),Wp,Wp];rfl
   .rw [È c1];symm;show#[rfl,?_,()];rw[Ø,N,List.filter_append,show(!(s,f)).toList.filter (λq:Str×Int=>decide (q.1=w.1))=[]from List.filter_cons_of_neg (by simpa using c1),å]
  rintro M H2 ⟨rfl,rfl,_⟩ L ar;rw[è (),yU ak hm];have s2:=aB (o:=.lst ([w.2.2].map V.int)) ar;have G:upd H2 L (.lst ([w.2.2].map V.int)) L=!(.lst ([w.2.2].map V.int)):=ao;have B:=s2.get r;have F:=sb.same s2;change au 6 (V.ref L) _ (upd H2 L (.lst ([w.2.2].map V.int))) _;generalize upd H2 L (.lst ([w.2.2].map V.int))=H3 at s2 G B F⊢;have S3:=F.off D;symm;intro np Z;show rEqD.ints (ns:=[w.2.2]) (ms:=[]) ((aB Z _).seq (SqL.of G)) (SqL.of ao) ?_;rw[È (λe=>by cases e)];symm;have O:=aB (o:=.lst []) Z;have A:=O.get G;have g:=O.get B;have T:=F.same O;have S4:=S3.trans O;generalize upd H3 np (.lst [])=H4 at O A g T S4⊢;show dU (SqL.of A) (aX (j:=0) (v:=.int w.2.2) rfl) ?_;symm;show dI (SqL.of g) ?_;symm;show#[pc,.ref z.2.2.1,rfl,by rw[<-ev];show DGet.k (k:=Sum.inr w.1) (S4.get hP.1),?_];symm;have ap:=y (p.take i) λu mu=>Ē mu;have ay:=R z J;rw[Ñ]at ap;show zZ g (SqT.of (S4.get (hP.2 z J))) (by rw[Qb,Qb];rfl') ?_;symm;show#[T.set Ì,!(.str w.1),!(.ref L),?_,?_];.rw [ao,W,jd,P];unfold nv;rw[Wp]
  .rw [W,jc];rfl
 .rintro σ H' ⟨sb,o5,o6,r,rfl⟩;rw[hz,ä];rw[hz,ä]at r;have m:=sb.off D;symm;show bV (m.get a1) ?_;symm;show Eo (.inr (SqT.of (m.get a5))) rfl (gf _) ?_;rw[iC,Ö ah];symm;show q U H' m r (by have:=y p λw mw=>mw;rfl')
inductive sp_f25 (K:W.Frag) (vs:List V) (H:Hp) (Q:VK) (E:XK):Prop|mk (ha pc fa:Addr) (zs:List Lz) (ds:L2S) (es:List Int) (L m n:Nat) (t0 t1:Str) (h0:vs=[.ref ha,.ref pc,.ref fa,.int (m:Nat)]) (h1:HsT K H ha ds es) (h2:PcT H pc zs) (h3:(∀z∈zs,z.2.2.2.length<=8)) (h4:(∀ps∈ds,ps.length<=18/\(ps.map (·.1)).Nodup/\∀q∈ps,0<=q.2)) (h5:(∀z∈zs,Hs.Sg z.2.1)) (h6:H fa=!(.tup [.int (L:Nat),.str t0,.str t1])) (h7:Told (ds.map (aN (dj zs))) es L n t0 t1) (h8:n<=m) (h9:n<=60000) (h10:∀H',Same H H'->Q (.bl true) H'):sp_f25 K vs H Q E
abbrev Hn (K:W.Frag):TS:=(aF (bW (uH (aZ (aH iK (aa 4) (tC V.non))) (uH (aZ (aH iK (aa 5) (tC V.non))) (aZ (aH Mz (cF (cg K) (aj (aa 4) aA)) (cF (cg K) (aj (aa 5) aA)))))) (b7 (tC (V.bl false))) bh)
  (b7 (aH oH (aR (sp_f21 K) [] E0 (aj (aa 4) (aj (aa 5) aA))) (aH (aO K) (aa 2) (tC (V.int 0))))))
abbrev Ho (K:W.Frag):TS:=(aF (aP (aR (sp_f20 K) [] E0 (aj (aa 0) (aj (aa 1) (aj (aH (aO K) (aa 2) (tC (V.int 1))) aA)))) (au 4))
  (aF (aP (aR (sp_f20 K) [] E0 (aj (aa 0) (aj (aa 1) (aj (aH (aO K) (aa 2) (tC (V.int 2))) aA)))) (au 5))
  (Hn K)))
abbrev Hq (K:W.Frag):TS:=(aF (bW (uH (jJ (jw K (cF (dN K) (aj (aH (aO K) (aa 2) (tC (V.int 1))) (aj (tC (V.ty "str")) aA))))) (uH (jJ (jw K (cF (dN K) (aj (aH (aO K) (aa 2) (tC (V.int 2))) (aj (tC (V.ty "str")) aA))))) (jJ (aZ (aH Cm (aH (aO K) (aa 2) (tC (V.int 1))) (aH (aO K) (aa 2) (tC (V.int 2)))))))) (b7 (tC (V.bl false))) bh)
  (aF (bW (uH (aZ (aH kO (cF (cg K) (aj (aH (aO K) (aa 2) (tC (V.int 1))) aA)) (aa 3))) (aZ (aH kO (cF (cg K) (aj (aH (aO K) (aa 2) (tC (V.int 2))) aA)) (aa 3)))) (b7 (tC (V.bl false))) bh)
  (Ho K)))
def xH (K:W.Frag) (E:XK) (Eh:XK):TS:=(aF (bW (uH (jJ (jw K (cF (dN K) (aj (aa 2) (aj (tC (V.ty "tuple")) aA))))) (uH (aZ (aH Mz (cF (cg K) (aj (aa 2) aA)) (tC (V.int 3)))) (jJ (jw K (aR (sp_f23 K) [] E0 (aj (aH (aO K) (aa 2) (tC (V.int 0))) aA)))))) (b7 (tC (V.bl false))) bh)
  (Hq K))
theorem Ra (h:sp_f25 K vs H Q E):∃F,xH K E F {nx:=λ_ H'=>Q .non H',rt:=Q} (start ["house","pictures","found","most","one","other"] vs) H:=by
 let#[t,v,fa,zs,ds,es,L,m,n,t0,t1,rfl,C,x,g,f,d,a,#[I,J,rfl,rfl,l,#[A,G,Z],#[s,X,l1],u,P],S,hn,q]:=h;show#[E0,?_];unfold xH;have c:∀{p:List cX},Wk (ds.map (aN (dj zs))) p->∀w∈p,Hs.Sg w.1:=λ{p} N w T=>by
  let#[i,hi,e]:=ó.mp T;have:=N i w (by rw[Zz hi,e]);rw[Æ,Xs]at this;cases h:ds[(rP (p.take i)).toNat]?with
  |none=>rw[h]at this;cases this|some ps=>rw[h]at this;let#[q,mq,W]:=ý.mp (show w∈ps.filterMap _ from this);let#[Y,r,rfl]:=á.mp W;let#[z,O,U]:=Zl.mp (Fo.nY r);rw[<-show z.2.1=q.1 from ß (·.1) U];show d z O
 have M:=rM (c A);have R:=rM (c s);symm;show jC (.tup a) (b:=true) rfl ?_;symm;show bL (SqT.of a) ?_;symm;show nQ rfl ?_;symm;show cM a ?_;symm;show#[_,rfl,?_];symm;show bV a ?_;symm;show jC (.str _) (b:=true) rfl ?_;symm;show eG a ?_;symm;show jC (.str _) (b:=true) rfl ?_;symm;show bV a ?_;symm;show eG a ?_;symm;show#[_,_,rfl,rfl,?_];rw[Ö l];symm;show bV a ?_;symm;show qT () ?_;symm;show q9 () ?_;symm;show eG a ?_;symm;show qT () ?_;symm;show q9 () ?_;symm;show bV a ?_;symm;show#[t,v,zs,ds,es,I,rfl,C,x,g,f,d,A,G,(),λB H1 j k b1=>?_];symm;show eG (j.get a) ?_;symm;show#[t,v,zs,ds,es,J,rfl,C.same j,x.same j,g,f,d,s,X,(),λD H2 o y b2=>?_];replace k:=o.get k;symm;rw[È (show¬V.ref B=V.non fromλz=>by cases z)];symm;rw[È (show¬V.ref D=V.non fromλz=>by cases z)];symm;show fB (SqL.of k) ?_;rw[Qb];symm;show fB (SqL.of y) ?_;rw[Qb];symm;show nQ () ?_;symm;show#[B,D,_,_,rfl,.inl (SqL.of k),.inl (SqL.of y),(),(),?_];symm;show cM (o.get (j.get a)) ?_;rw[<-u,Nat.min_self,ä,u,ä,P];symm;rw[Ö rfl];show q _ (j.trans o)
theorem ls_eq {ls:List (Str×List Nat)} {o:Option Nat} {N:Nat} {T:List Sd} {F:Sd->Nat×Nat->Prop} (w:(bF (ds.map (aN ls)) N).length<=N) (r:(bF (ds.map (aN ls)) M).length<=M) (B:∀x,x∈S↔Mm.Rch (rC (ds.map (aN ls)) N) (wC (ds.map (aN ls))) x) (v:∀x,x∈T↔Mm.Rch (rC (ds.map (aN ls)) M) (wC (ds.map (aN ls))) x) (n:(fz.map (·.2.1)).Nodup) (p:Dj (wJ es S) (ux (uJ ls (ds.map (aN ls))) S) F (λ_ _=>False)) (e:Dj (wJ es T) (ux (uJ ls (ds.map (aN ls))) T) (jg fz) (λ_ _=>False)) (C:∀x k l,F x k->F x l->k=l) (h:LsO (ds.map (aN ls)) N F o) (h':LsO (ds.map (aN ls)) M (jg fz) o'):o=o'/\fz.length<=S.length:=by
 have j:=oA r w;have b:∀x,x∈T↔x∈S:=λx=>by rw[v x,B x];unfold rC;rw[j]
 have a:Dj (wJ es S) (ux (uJ ls (ds.map (aN ls))) S) (jg fz) (λ_ _=>False):=e.cong (λx=>and_congr (b x) χ) (λc x y=>and_congr (b x) χ) λx k=>χ;have q:jg fz=F:=funext λx=>funext λk=>propext #[λi=>a.uni p (λx k l ⟨f,E,z,t⟩ ⟨g,d,u,D⟩=>by rw[<-t,<-D,di n E d (z.trans u.symm)]) i,λi=>p.uni a C i]
 rw[q]at h';show#[h.uni (by cases o'<;>(unfold LsO at h'⊢;rw[j]at h';show h')),?_];have:=cZ (l:=fz.map (·.2.1)) (m:=S) n λx A=>by
  let#[g,d,rfl]:=Zl.mp A;rcases a.s g.2.1 g.2.2.2 (.inl #[g,d,rfl,rfl])with h|⟨_,_,_,h,_⟩;.show h.1.1
  .show h.1
 rw[Qb]at this;show this
inductive sp_f19 (K:W.Frag) (vs:List V) (H:Hp) (Q:VK) (E:XK):Prop|mk (f ha:Addr) (h:Nat) (ls:List (Str×List Nat)) (ds:L2S) (es:List Int) (o:Option Nat) (m N:Nat) (S:List Sd) (F:Sd->Nat×Nat->Prop) (h0:vs=[.ref f,.ref ha,optN o,.int (m:Nat)]) (h1:FnF K H f h ls) (h2:Fo.Wf h ls) (h3:HsT K H ha ds es) (h4:Ai ls ds) (h5:(∀ps∈ds,(ps.map (·.1)).Nodup)) (h6:(bF (ds.map (aN ls)) N).length<=N) (h7:(∀x,x∈S↔Mm.Rch (rC (ds.map (aN ls)) N) (wC (ds.map (aN ls))) x)) (h8:Dj (wJ es S) (ux (uJ ls (ds.map (aN ls))) S) F (λ_ _=>False)) (h9:(∀x k l,F x k->F x l->k=l)) (h10:LsO (ds.map (aN ls)) N F o) (h11:S.length<=50000) (h12:m=ds.length+S.length) (h13:∀H',Same H H'->Q (.bl true) H'):sp_f19 K vs H Q E
abbrev Hr (K:W.Frag):TS:=(aF (bW (aZ (aH iK (aa 2) (tC V.non))) (b7 (aH iK (aa 4) (tC V.non))) bh)
  (b7 (iU (aR (sp_f25 K) [] E0 (aj (aa 1) (aj (cF (gC K) (aj (aH (aO K) (aa 0) (tC (V.int 1))) aA)) (aj (aa 4) (aj (aa 3) aA))))) (aH oH (aH (aO K) (aa 4) (tC (V.int 0))) (aa 2)))))
def xJ (K:W.Frag) (E:XK) (Eh:XK):TS:=(aF (aP (aR (sp_f34 K) [] E0 (aj (aa 0) (aj (aa 1) aA))) (au 4))
  (Hr K))
theorem Rb (h:sp_f19 K vs H Q E):∃Eh,xJ K E Eh {nx:=λ_ H'=>Q .non H',rt:=Q} (start ["font","house","far","most","found"] vs) H:=by
 let#[f,X,h,ls,ds,es,o,m,N,S,F,rfl,U,v,I,sz,j,R,J,O,Z,n,ae,hm,q]:=h;show#[E0,?_];unfold xJ;let#[ah,af,e,ak]:=id sz;symm;show#[f,X,h,ls,ds,es,rfl,U,v,I.g,sz,j,λM T fz hM P u t=>#[λh0 H1 s=>?_,λr H1 L t0 t1 s W hl ht=>?_]];.obtain ⟨rfl,_⟩:=ls_eq R hM J P u O t Z n h0;symm;change if decide (V.non=V.non)=true then _ else _;symm;show q _ s
 .obtain ⟨rfl,ai⟩:=ls_eq R hM J P u O t Z n hl;symm;change if decide (V.int (L:Nat)=V.non)=true then _ else _;rw[È (show¬V.int (L:Nat)=V.non fromλz=>by cases z)];let#[l,ob,b,h1,w,C,h3,Y]:=U.same s;symm;show bV h1 ?_;symm;have A:(b.map (·.2.1)).Nodup:=by have:=jY v.up;rw[<-w,Á]at this;show this
  have ag:b.length=ls.length:=by rw[<-w,Qb]
  have ad:=v.le;show j8 (zs:=b.map λz:Lz=>(z.1,z.2.1,V.ref z.2.2.1)) C (by rw[Á];show h3) (λz m=>?_) (by rw[Á];show A) (by rw[Qb];rfl') λB D=>?_;.obtain ⟨y,my,rfl⟩:=Zl.mp m;show SqT.of (Y y my).1
  rw[Á];let#[x,a]:∃x,x=upd H1 B (HO.dK (b.map ((λz:Addr×Str×V=>((Sum.inr z.2.1:Key),z.2.2))∘λz:Lz=>(z.1,z.2.1,V.ref z.2.2.1)))):=#[_,rfl];have k:Same H1 x:=by rw[a];show aB D _
  have hP:PcT x B b:=#[by rw[a];show ao,λz c=>k.get (Y z c).2];rw[<-a];clear a;have p:dj b=ls:=w;have i:∀z∈b,(z.2.1,z.2.2.2)∈ls:=λz c=>by rw[<-w];show Zl.mpr #[z,c,rfl]
  symm;show#[X,B,r,b,ds,es,L,m,_,t0,t1,rfl,(I.same s).same k,hP,λz c=>(v.c1 _ (i z c)).2,λps d=>#[(e ps d).1,j ps d,λq mq=>((e ps d).2 q mq).1],λz c=>v.sg _ (i z c),k.get W,by rw[p];show ht,(),(),λH8 G=>?_];symm;show cM (G.get (k.get W)) ?_;symm;rw[Ö (show V.int (L:Nat)=optN !L from rfl)];show q _ ((s.trans k).trans G)
inductive sp_f7 (K:W.Frag) (vs:List V) (H:Hp) (Q:VK) (E:XK):Prop|mk (f ha:Addr) (h:Nat) (ls:List (Str×List Nat)) (ds:L2S) (es:List Int) (o:Option Nat) (N:Nat) (S:List Sd) (F:Sd->Nat×Nat->Prop) (h0:vs=[.ref f,.ref ha,optN o]) (h1:FnF K H f h ls) (h2:Fo.Wf h ls) (h3:HsT K H ha ds es) (h4:Ai ls ds) (h5:(∀ps∈ds,(ps.map (·.1)).Nodup)) (h6:(bF (ds.map (aN ls)) N).length<=N) (h7:(∀x,x∈S↔Mm.Rch (rC (ds.map (aN ls)) N) (wC (ds.map (aN ls))) x)) (h8:Dj (wJ es S) (ux (uJ ls (ds.map (aN ls))) S) F (λ_ _=>False)) (h9:(∀x k l,F x k->F x l->k=l)) (h10:LsO (ds.map (aN ls)) N F o) (h11:∀H',Same H H'->Q (.bl true) H'):sp_f7 K vs H Q E
def Ht (K:W.Frag) (E:XK) (Eh:XK):TS:=(aF (aP (aR (sp_f44 K) [] E0 (aj (aa 0) (aj (aa 1) aA))) (au 3))
  (aF (bW (aZ (aH iK (aa 2) (tC V.non))) (b7 (aH iK (aa 3) (tC V.non))) bh)
  (b7 (iU (aR (sp_f23 K) [] E0 (aj (aa 3) aA)) (aH oH (aa 3) (aH cC (aH jO (aa 2) (tC (V.int 1))) (tC (V.int 2))))))))
theorem Vt (h:sp_f7 K vs H Q E):∃p,Ht K E p {nx:=λ_ H'=>Q .non H',rt:=Q} (start ["font","house","far","found"] vs) H:=by
 let#[f,s,h,ls,ds,es,o,N,S,F,rfl,u,x,w,sz,d,k,l,n,m,a,q]:=h;show#[E0,?_];unfold Ht;symm;show#[f,s,h,ls,ds,es,rfl,u,x,w.g,sz,d,λM T y i j c b=>#[λv H1 e=>?_,λH1 L e t=>?_]];.obtain ⟨rfl,_⟩:=ls_eq k i l j c n b m a v;symm;change if decide (V.non=V.non)=true then _ else _;symm;show q _ e
 .obtain ⟨rfl,r⟩:=ls_eq k i l j c n b m a t;symm;change if decide (V.int (L:Nat)=V.non)=true then _ else _;rw[È (show¬V.int (L:Nat)=V.non fromλz=>by cases z)];symm;show#[_,rfl,?_];symm;show#[(L:Nat),1,rfl,rfl,?_];symm;rw[Ö rfl];show q _ e
inductive sp_f46 (K:W.Frag) (vs:List V) (H:Hp) (Q:VK) (E:XK):Prop|mk (a:Addr) (ns:List Int) (h0:vs=[.ref a]) (h1:SqL K H a (ns.map V.int)) (h2:ns.length<=63) (h3:(∀i∈ns,PySem.Builtin.Int.intBits i<=2^20)) (h4:∀H',Q (.bl true) H'):sp_f46 K vs H Q E
abbrev Hu (K:W.Frag):TS:=(aF (aP (aH cD (cF (cg K) (aj (aH (aO K) (aa 4) (tC (V.int 0))) aA)) (cF (cg K) (aj (aa 5) aA))) (au 7))
  (b7 (iU (aR (sp_f19 K) [] E0 (aj (aa 3) (aj (aa 4) (aj (aa 6) (aj (aa 7) aA))))) (aR (sp_f7 K) [] E0 (aj (aa 3) (aj (aa 4) (aj (aa 6) aA)))))))
abbrev Hv (K:W.Frag):TS:=(aF (bW (jJ (jw K (aR (sp_f8 K) [] E0 (aj (aa 4) (aj (cF (gC K) (aj (aH (aO K) (aa 3) (tC (V.int 1))) aA)) (aj (aa 5) aA)))))) (b7 (tC (V.bl false))) bh)
  (aF (aP (aR (sp_f13 K) [] E0 (aj (aa 4) (aj (cF (gC K) (aj (aH (aO K) (aa 3) (tC (V.int 1))) aA)) (aj (aa 5) aA)))) (au 6))
  (Hu K)))
abbrev Hw (K:W.Frag):TS:=(aF (aP (aR (sp_f26 K) [] E0 (aj (aa 0) (aj (aa 1) (aj (aa 2) aA)))) (au 3))
  (aF (aP (aR (sp_f16 K) [] E0 (aj (aa 0) (aj (aa 1) (aj (aa 2) aA)))) (au 4))
  (aF (aP (aR (sp_f28 K) [] E0 (aj (aa 3) (aj (aa 4) aA))) (au 5))
  (Hv K))))
def xK (K:W.Frag) (E:XK) (Eh:XK):TS:=(aF (aP (aR (sp_f17 K) [] E0 (aj (aa 0) aA)) (au 1))
  (aF (aP (aR (sp_f15 K) [] E0 (aj (aR (sp_f3 K) [] E0 (aj (aa 0) (aj (tC (V.int 3)) aA))) (aj (aH cD (aH (aO K) (aa 1) (tC (V.int 2))) (tC (V.int 2))) aA))) (au 2))
  (Hw K)))
theorem Rc (h:sp_f46 K vs H Q E):∃Eh,xK K E Eh {nx:=λ_ H'=>Q .non H',rt:=Q} (start ["script","shape","signs","font","house","paper","far","most"] vs) H:=by
 let#[a,ns,rfl,n,am,hb,q]:=h;show#[E0,?_];unfold xK;have ay:∀k:Nat,PySem.Builtin.Int.intBits (Mm.cellAt ns k)<=2^20:=λk=>by
  by_cases c:k<ns.length;.rw [Mm.getD_some (Zz c)];show hb _ (ì c)
  .rw [Mm.getD_none ()];decide
 symm;show#[a,ns,rfl,n,λsh H1 kd rm s ms ht s1 i hO=>?_];replace n:=s1.seq n;let#[o1,o2,o3,o4,o5,o6]:=id hO;symm;show#[a,ns,3,rfl,n,?_];symm;show eG i ?_;symm;rw[show(s:Int)+2=((s+2:Nat):Int)by rfl'];show#[_,s+2,rfl,ay 3,(),λsg H3 ss s3 W u ag ah a7=>?_];replace n:=s3.seq n;replace i:=s3.get i;symm;show#[a,sh,sg,ns,kd,rm,s,ms,ht,ss,rfl,n,hb,i,hO,SqL.of u,ag,ah,a7,λf H4 ls s4 hF R ap=>?_];replace n:=s4.seq n;replace i:=s4.get i;replace u:=s4.get u;symm;show#[a,sh,sg,ns,kd,rm,s,ms,ht,ss,rfl,n,am,i,hO,SqL.of u,ag,ah,λha H5 ds es s5 hH al bb P=>?_];have Y:∀ps∈ds,(ps.map (·.1)).Nodup:=λps G=>(P ps G).2.1;replace n:=s5.seq n;replace hF:=hF.same s5;clear s3 s4 s5 W i u;have sz:Ai ls ds:=by
  show#[al,(),λps G=>#[(P ps G).1,(P ps G).2.2],?_];rw[ap];rcases o6 with c|c;.show Û (Ř (Ř (show ds.length<=9 by rfl') (show ds.length<=9 by rfl')) (show s*9<=144 by rfl')) (by decide)
  .show Û (Ř (Ř (show ds.length<=41 by rfl') (show ds.length<=41 by rfl')) (show s*9<=18 by rfl')) (by decide)
 have O:∀p∈ls,p.2.length<=8:=λp Z=>(R.c1 p Z).2;have ai:=rE R sz;have ad:∀{N x},Mm.Rch (rC (ds.map (aN ls)) N) (wC (ds.map (aN ls))) x->InU ds.length ls x:=λ{N x} hx=>Mm.Rch.all (Fy ai N) (Fx O ai) hx;have aw:∀{x},InU ds.length ls x->x.2.2.length<=8:=λ{x} hx=>by let#[_,_,p,Z,dd,_,e]:=hx;rw[e,ô];have:=O p Z;rfl'
 symm;show#[f,ha,ht,ls,ds,es,rfl,hF,R,hH.g,sz,λpa H6 N zs s6 bl hN M C J bd A S hD=>?_];have a8:=s6.seq n;have I:=hF.same s6;have v:=hH.same s6;let#[l,ob,t,h1,ez,af,h3,h4]:=id I;symm;show bV h1 ?_;symm;have U:(t.map (·.2.1)).Nodup:=by have:=jY R.up;rw[<-ez,Á]at this;show this
 have bk:t.length=ls.length:=by rw[<-ez,Qb]
 have a9:=R.le;show j8 (zs:=t.map λz:Lz=>(z.1,z.2.1,V.ref z.2.2.1)) af (by rw[Á];show h3) (λz m=>?_) (by rw[Á];show U) (by rw[Qb];rfl') λpc ax=>?_;.obtain ⟨y,s,rfl⟩:=Zl.mp m;show SqT.of (h4 y s).1
 rw[Á];let#[H7,F]:∃H7,H7=upd H6 pc (HO.dK (t.map ((λz:Addr×Str×V=>((Sum.inr z.2.1:Key),z.2.2))∘λz:Lz=>(z.1,z.2.1,V.ref z.2.2.1)))):=#[_,rfl];have T:Same H6 H7:=by rw[F];show aB ax _
 have hP:PcT H7 pc t:=#[by rw[F];show ao,λz j=>T.get (h4 z j).2];rw[<-F];clear F;have b:dj t=ls:=ez;have X:∀z∈t,z.2.2.2.length<=8:=λz j=>O (z.2.1,z.2.2.2) (by rw[<-ez];show Zl.mpr #[z,j,rfl]);symm;show#[ha,pc,pa,t,ds,es,zs,N,rfl,v.same T,hP,by rw[b];show sz,X,T.get M,λz j=>#[T.get (C z j).1,(C z j).2.same T,aw (ad ((S _).mp (Zl.mpr #[z,j,rfl])))],J,A,λx mx=>?_,by rw[b];show hN,by rw[b];show S,by rw[b];show hD,λH8 s8=>?_];.obtain ⟨⟨a1,a2⟩,_⟩:=ad ((S x).mp mx);show#[x.1.toNat,(),()]
 have B:=T.trans s8;symm;show bV (B.get h1) ?_;symm;show j8 (zs:=t.map λz:Lz=>(z.1,z.2.1,V.ref z.2.2.1)) af (by rw[Á];show B.get h3) (λz m=>?_) (by rw[Á];show U) (by rw[Qb];rfl') λpd as=>?_;.obtain ⟨y,s,rfl⟩:=Zl.mp m;show SqT.of (B.get (h4 y s).1)
 rw[Á];let#[H9,D]:∃H9,H9=upd H8 pd (HO.dK (t.map ((λz:Addr×Str×V=>((Sum.inr z.2.1:Key),z.2.2))∘λz:Lz=>(z.1,z.2.1,V.ref z.2.2.1)))):=#[_,rfl];have s9:Same H8 H9:=by rw[D];show aB as _
 have a6:PcT H9 pd t:=#[by rw[D];show ao,λz j=>(B.trans s9).get (h4 z j).2];rw[<-D];clear D;have w:=B.trans s9;symm;show#[ha,pd,pa,t,ds,es,zs,N,rfl,v.same w,a6,by rw[b];show sz,X,w.get M,λz j=>#[w.get (C z j).1,(C z j).2.same w],J,A,by rw[b];show hN,λx mx=>(S x).mpr (.base (by rw[b]at mx;show mx)),λbi o ar L=>?_];rw[b]at L;have r:=w.trans ar;let#[d,e,rs,a1,a2,a3,a4,a5]:=v.same r;symm;show cM a1 ?_;symm;show bL (SqT.of a3) ?_;rw[Qb];symm;show fB (SqL.of (r.get M)) ?_;rw[Qb];symm;have av:rs.length=ds.length:=by rw[<-a2,Qb]
 have ae:∀x k l,(∃z∈zs,z.2.2.1=x/\z.2.2.2=!k)->(∃z∈zs,z.2.2.1=x/\z.2.2.2=!l)->k=l:=λx k l ⟨z,j,e1,e2⟩ ⟨y,s,e3,e4⟩=>by rw[di A j s (e1.trans e3.symm),e4]at e2;show(Ô e2).symm
 show#[f,ha,ht,ls,ds,es,o,ds.length+zs.length,N,zs.map (·.2.2.1),_,by rw[av];rfl,I.same r,R,v.same r,sz,Y,hN,S,hD,ae,L,by rw[Qb];show J,by rw[Qb],λbn ak=>?_];symm;show#[f,ha,ht,ls,ds,es,o,N,zs.map (·.2.2.1),_,rfl,(I.same r).same ak,R,(v.same r).same ak,sz,Y,hN,S,hD,ae,L,λbe bg=>?_];symm;show q _
theorem Rf (h:sp_f46 K vs H Q E):vs.length=1:=by let#[_,_,rfl,_]:=h;rfl
end Pg
set_option Elab.async false
set_option linter.all false
set_option maxRecDepth 100000
namespace Pg
open PySem L2 PySem.W
set_option maxHeartbeats 0
variable{n:Str} {w:World} {t:Option Addr} {mg:Str->Option Value}
theorem Hx:FnScope ["column","dots"] ["column"] (aC (top 1)):=by ac_rfl
theorem Rg:FnScope ["one","other"] ["one","other"] (aC (top 2)):=by ac_rfl
theorem Vu:FnScope ["one","other"] ["one","other"] (aC (top 8)):=by ac_rfl
theorem Rh:FnScope ["one","other"] ["one","other"] (aC (top 7)):=by ac_rfl
theorem Ri:FnScope ["letters","doors"] ["letters","doors"] (aC (top 11)):=by ac_rfl
theorem Hy:FnScope ["font","house","letters"] ["font","house"] (aC (top 10)):=by ac_rfl
theorem Rj:FnScope ["font","over","costs","sign","columns","wide"] ["font","over"] (aC (top 15)):=by ac_rfl
theorem Vv:FnScope ["ways","texts","waiting","here","sign","columns","room"] ["ways"] (aC (top 14)):=by ac_rfl
theorem Vw:FnScope ["way","ahead","over","wide"] ["way","ahead","over"] (aC (top 16)):=by ac_rfl
theorem Rk:FnScope ["font","ways","costs","sign","columns","found","room","place","later","way","stand"] ["font","ways"] (aC (top 13)):=by ac_rfl
theorem Rm:FnScope ["ways","costs","stand"] ["ways","costs","stand"] (aC (top 17)):=by ac_rfl
theorem Hz:FnScope ["font","house","ways","costs","found","waiting","stand"] ["font","house"] (aC (top 18)):=by ac_rfl
theorem Ro:FnScope ["onward","backward","stand","steps","sign","cost","later"] ["onward"] (aC (top 24)):=by ac_rfl
theorem Rp:FnScope ["stand","ends"] ["stand","ends"] (aC (top 25)):=by ac_rfl
theorem Rq:FnScope ["waiting","rest","backs","cost","earlier"] ["waiting","rest","backs"] (aC (top 23)):=by ac_rfl
theorem Rr:FnScope ["onward","ends","backward","found","waiting","rest","reached","stand"] ["onward","ends"] (aC (top 22)):=by ac_rfl
theorem Rt:FnScope ["stand","found","rest"] ["stand","found"] (aC (top 21)):=by ac_rfl
theorem HB:FnScope ["font","house","onward","found"] ["font","house"] (aC (top 20)):=by ac_rfl
theorem Ru:FnScope ["texts","sign","passes","longer"] ["texts","sign","passes"] (aC (top 28)):=by ac_rfl
theorem Vx:FnScope ["ways","fork","text","way","later"] ["ways","fork"] (aC (top 27)):=by ac_rfl
theorem Rv:FnScope ["steps","found","rest","step"] ["steps","found","rest"] (aC (top 30)):=by ac_rfl
theorem Rw:FnScope ["font","onward","found","stand","texts","letters","step"] ["font","onward","found","stand","texts"] (aC (top 29)):=by ac_rfl
theorem xM:FnScope ["font","house","ways","onward","found","pairs","least","texts"] ["font","house"] (aC (top 26)):=by ac_rfl
theorem Rx:FnScope ["font","house","told"] ["font","house"] (aC (top 31)):=by ac_rfl
theorem Vy:FnScope ["script","k"] ["script","k"] (aC (top 33)):=by ac_rfl
theorem Ry:FnScope ["found"] ["found"] (aC (top 34)):=by ac_rfl
theorem RB:FnScope ["cell","many","some","number","found","k","at"] ["cell","many"] (aC (top 35)):=by ac_rfl
theorem Lp:FnScope ["script","many","most","height","alike","letters","k","cell","wide","number","columns"] ["script","many","most","height","alike"] (aC (top 36)):=by ac_rfl
theorem RC:FnScope ["script","head","kind","rooms","many","tall","height","most"] ["script"] (aC (top 37)):=by ac_rfl
theorem HD:FnScope ["script","shape","signs","alike","letters"] ["script","shape","signs"] (aC (top 38)):=by ac_rfl
theorem HF:FnScope ["cells","many","signs","doors","ends","cell","room","sign","rest","last"] ["cells","many","signs"] (aC (top 39)):=by ac_rfl
theorem RD:FnScope ["script","shape","signs","kind","rooms","many","doors","room","pairs","k"] ["script","shape","signs"] (aC (top 40)):=by ac_rfl
theorem RG:FnScope ["one","other","many","k","left"] ["one","other"] (aC (top 41)):=by ac_rfl
theorem RJ:FnScope ["one","other","x","y","cost"] ["one","other","x","y"] (aC (top 42)):=by ac_rfl
theorem RK:FnScope ["house","pictures","rooms","at","sign","room"] ["house","pictures"] (aC (top 43)):=by ac_rfl
theorem HH:FnScope ["house","pictures","found","room","some","j","k","x","y"] ["house","pictures"] (aC (top 44)):=by ac_rfl
theorem RL:FnScope ["house","pictures","stand","found","sign","room","columns","over","cost"] ["house","pictures","stand"] (aC (top 45)):=by ac_rfl
theorem Vz:FnScope ["stand"] ["stand"] (aC (top 46)):=by ac_rfl
theorem VB:FnScope ["row"] ["row"] (aC (top 47)):=by ac_rfl
theorem RM:FnScope ["house","ways","found","stand","best","cost","onward","there","here"] ["house","ways","found","stand"] (aC (top 48)):=by ac_rfl
theorem VD:FnScope ["house","pictures","paper","found","row","cost","stand","ways","onward"] ["house","pictures","paper"] (aC (top 49)):=by ac_rfl
theorem RN:FnScope ["house","pictures","paper","found","row","best","cost","stand"] ["house","pictures","paper"] (aC (top 50)):=by ac_rfl
theorem xN:FnScope ["house","pictures","text","room","strip","sign","ways"] ["house","pictures","text"] (aC (top 51)):=by ac_rfl
theorem RP:FnScope ["house","pictures","found","most","one","other"] ["house","pictures","found","most"] (aC (top 52)):=by ac_rfl
theorem RQ:FnScope ["font","house","far","most","found"] ["font","house","far","most"] (aC (top 53)):=by ac_rfl
theorem VF:FnScope ["font","house","far","found"] ["font","house","far"] (aC (top 54)):=by ac_rfl
theorem HJ:FnScope ["script","shape","signs","font","house","paper","far","most"] ["script"] (aC (top 55)):=by ac_rfl
inductive DI (K:Frag) (n:Str) (st:Stmt) (dv:Value):Prop|mk {f:Addr} {oc kV dc pm cd ct:Value} {od an:Option Addr} {sl:Array (Option Value)} (a:nsIn K mainGlobals n=!(!(.ref f))) (l:K.lookup f=!#[oc,od,.func (fnOf n n (fJ st) (eN st) (aC st) dv kV dc pm an cd ct),sl]) (q:codeIn K cd n=true) (k:keepIn K (.ref f)=true):DI K n st dv
noncomputable def Z8:Option Addr->Value
 |none=>.none|some t=>.ref t
theorem Lq {K:Frag} {i:Nat} (h:RV K n=RW t n i):DI K n (top i) (Z8 t):=by
 unfold RV RW at h;split at h
 .rename_i f v;split at h
  .rename_i c D d G p;let#[t',b,e]:=á.mp h;simp only[Prod.mk.injEq]at e;let#[rfl,s,q,r,w,u,m,o,l,g,a]:=e;let#[dn,F,B,H,ds,C,E,I,J,k,x,y,j,A,z]:=d;dsimp only at s q r w u m o l g b;subst s q r w u m o l;split at b;.cases b;show .mk v p g a
   .cases b;show .mk v p g a
   .cases b
  .cases h
 .cases h
theorem HN {K:Frag} {C:Addr} (h:WT K C=Wo):ExcK K C:=by simp only[WT,Wo,Prod.mk.injEq,List.cons.injEq,and_true]at h;let#[a,#[b,c,d,e],f,g,i]:=h;show#[a,b,c,d,e,f,g,i]
theorem oG {a d:Type} {f:a->d} {l:List a} {r:List d} (h:l.map f=r) (i:Nat) {b:a} {c:d} (g:l[i]?=!b) (e:r[i]?=!c):f b=c:=by rw[<-h,Xs,g]at e;show Ô e
theorem ck {P:Program} {K:Frag} {c h:Heap} {st:Stmt} {ps:List Str} {d:Nat} {sp:Sp} (X:K.In h) (G:h.Ns mainGlobals mg) (D:DI K n st .none)(b:∀(kV e i:Value) (an:Option Addr) (g ct:Value) (us:List Value),us.length=ps.length->bindArgs (fnOf n n (fJ st) (eN st) (aC st) .none kV e i an g ct) #[us,[]]=pure (ps.zip us))(o:∀f fd,Fun K n n st f fd->FnOk P w K mg c KN d f fd ps sp):Cal P w K mg c d n ps sp:=by let#[a,l,q,k]:=D;show#[_,_,o _ _ (uY l q k),(uY l q k).binds b,k,mg_of X G a]
section
abbrev v0 {X:Cx}:=@pv X 0
abbrev v1 {X:Cx}:=@pv X 1
abbrev v2 {X:Cx}:=@pv X 2
abbrev v3 {X:Cx}:=@pv X 3
abbrev v4 {X:Cx}:=@pv X 4
abbrev v5 {X:Cx}:=@pv X 5
abbrev v6 {X:Cx}:=@pv X 6
abbrev v7 {X:Cx}:=@pv X 7
abbrev v8 {X:Cx}:=@pv X 8
abbrev v9 {X:Cx}:=@pv X 9
abbrev YG {X:Cx}:=@pv X 10
set_option hygiene false
local macro_rules | `(#[$a]) => `(ik $a cY) | `(#[$a, $b,*]) => `(ik $a #[$b,*])
local macro_rules | `(($a, $b)) => `(rZ $a (aG $b)) | `(($a, $b, $c,*)) => `(rZ $a ($b, $c,*))
local macro_rules | `($a + $b) => `(sG (J3 K rfl) $a $b (λ _ _ => rfl))
local macro_rules | `($a - $b) => `(sG (Cj K rfl) $a $b (λ _ _ => rfl))
local macro_rules | `($a < $b) => `(Bd $a rfl (by assumption) (by decide +kernel) $b)
local macro_rules | `($a > $b) => `(Nz ($a X G e2 z_len z_sum z_zip z_dict z_min z_enumerate z_sorted z_max z_isinstance z_bool z_int z_range z_tuple z_all z_list z_str k_BlotError k_NotAlike) hr (by decide) rfl $b)
local macro_rules | `($a && $b) => `(kE (i := $a) nd rfl (Or.inl rfl) $b)
local macro_rules | `(↑$a) => `(qj (i := $a) nd rfl (Or.inl rfl))
local macro_rules | `($a :: $b :: $c) => `(Mt Ī rfl $a $b $c)
local macro_rules | `($a ++ $b) => `(qD K rfl ķ PySem.F.slot_list_append PySem.F.type_list_append zm $a $b)
local macro_rules | `($a ^ $b ^ $c ^ $d) => `(Cal pWo w K mg base $a $b $c ($d K))
local macro_rules | `($a / $b / $c / $d / $e / $f / $g / $h) => `(Tf $a $b rfl $c (show CScope (aC (top $d)) _ from ⟨rfl, by decide +kernel, by decide +kernel, by decide +kernel⟩) (show capOk $a $b ($e : List Str) _ = true from by decide +kernel) (λ _ _ _ _ _ _ => $f) (λ _ _ _ _ _ _ => $g) (λ _ _ _ _ _ _ => $h)) | `($a / $b / $c / $d / $e / $f) => `(ck (st := top $b) X G (Lq (oG e2 $a rfl rfl)) (by first | exact λ _ _ _ _ _ _ => ar1 λ _ => rfl | exact λ _ _ _ _ _ _ => ar2 λ _ _ => rfl | exact λ _ _ _ _ _ _ => Z3 λ _ _ _ => rfl | exact λ _ _ _ _ _ _ => Z4 λ _ _ _ _ => rfl | exact λ _ _ _ _ _ _ => Z5 λ _ _ _ _ _ => rfl) λ _ _ F => F.ok $c (λ _ _ _ _ h => by cases h; subst_vars; rfl) λ cdv A outer s H vs Q E hr h => by have nd := ($c).nd; obtain ⟨Eh, h⟩ := $d h; exact ⟨$e K E Eh, $f, h⟩) | `($a / $b) => `(qj (i := $a) (show List.Nodup ($b : List Str) by decide +kernel) rfl (Or.inl rfl))
section
variable{w:World} {K:Frag} {h:Heap} {mg:Str->Option Value} {base:Heap} (X:K.In h) (G:h.Ns mainGlobals mg) (e2:RX.map (λd=>RV K d.1)=RX.map (λd=>RW none d.1 d.2)) (z_len:mg "len"=none) (z_sum:mg "sum"=none) (z_zip:mg "zip"=none) (z_dict:mg "dict"=none) (z_min:mg "min"=none) (z_enumerate:mg "enumerate"=none) (z_sorted:mg "sorted"=none) (z_max:mg "max"=none) (z_isinstance:mg "isinstance"=none) (z_bool:mg "bool"=none) (z_int:mg "int"=none) (z_range:mg "range"=none) (z_tuple:mg "tuple"=none) (z_all:mg "all"=none) (z_list:mg "list"=none) (z_str:mg "str"=none) (k_BlotError:mg "BlotError"=some (.ref WP)/\ExcK K WP) (k_NotAlike:mg "NotAlike"=some (.ref WQ)/\ExcK K WQ)
include X G e2 z_len z_sum z_zip z_dict z_min z_enumerate z_sorted z_max z_isinstance z_bool z_int z_range z_tuple z_all z_list z_str k_BlotError k_NotAlike
theorem VG:1^"inked"^["column"]^sp_f42:=0/1/Hx/Qi/vY/(1&&aq,eQ Ī (aM gK v0 aq (aQ _)) (0&&aJ Mx v0 (aJ ig v0 aq),Mq (i:=1) Hx.nd rfl (Or.inl rfl) aq Mr),aL v1)
theorem VH:2^"apart"^["one","other"]^sp_f41:=1/2/Rg/Qj/vZ/(aG (aL (VG>#[aJ Ax v0 v1])))
theorem XS:1^"check_alike"^["one","other"]^sp_f9:=2/8/Vu/Vd/Fd/(aG (bj (aM su (aK K rfl<#[v0]) (aK K rfl<#[v1]) (aQ _)) (aG Aq) aV))
theorem VJ:3^"gap"^["one","other"]^sp_f45:=3/7/Rh/Qk/w5/(bO (XS>#[v0,v1]),aL (zF K rfl rfl<#[[none,none]/["left","right"]/CK K rfl rfl rfl z_zip #[v0,v1]/7/["one","other"]/cH K rfl rfl (aU (0/["left","right"]) (aU (1/["left","right"]) cG))/d7/(VH>#[v0,v1])]))
theorem VL:1^"lettered"^["letters","doors"]^sp_f32:=4/11/Ri/Ql/w6/(aG (aL ([none,none,some 0]/["sign","room","letters"]/fO K rfl v1/11/["letters","doors"]/cH K rfl rfl (aU (0/["sign","room","letters"]) (aU (1/["sign","room","letters"]) cG))/jN (eY (mQ (cJ hr) v0 v2) (by with_unfolding_all rfl))/aY #[v0,dF (cJ hr) v2 v0 (λ_ _=>rfl),v1])))
theorem Lr:2^"ways_of"^["font","house"]^sp_f33:=5/10/Hy/Qm/wg/(kE (i:=2) Hy.nd rfl (Or.inr rfl) (bI (dO K rfl rfl) rfl z_dict (by ac_nf) #[v0+aq]),aL ([none,some 2]/["doors","letters"]/fO K rfl (v1+aq)/10/["font","house","letters"]/(0/["doors","letters"])/d7/(VL>#[v1,v0])))
theorem Ls:4^"costs_over"^["font","over"]^sp_f11:=6/15/Rj/Qn/wk/(2&&sU,fO K rfl (v0+aq)::cH K rfl rfl (aU ↑3 (aU ↑4 cG))::(5&&gM rfl<#[aK K rfl<#[v4],aK K rfl<#[v1]],lU (cJ hr) v2 v3 (VJ>#[cI (eV K rfl) v4 dC (cV v5),cI (eV K rfl) v1 dC (cV v5)]) rfl),aL v2)
theorem VM:1^"texts_to_rooms"^["ways"]^sp_f0:=7/14/Vv/Ve/Fg/(1&&IK (sV aq uM xZ) rfl rfl (by simp) (by decide),2&&cN #[aq],eQ Ī (aM gK (aK K rfl<#[v2]) aq (aQ _)) (3&&qD K rfl ķ PySem.F.slot_list_pop PySem.F.type_list_pop Bu v2 #[aq],b8 K rfl (v0-v3)::cH K rfl rfl (aU ↑4 (aU ↑5 (aU ↑6 cG)))::aG (bj (eY (pJ (cJ hr) v6 v1) (by with_unfolding_all rfl)) (lU (cJ hr) v1 v6 (aJ fX (dF (cJ hr) v1 v3 (λ_ _=>rfl)) v4) rfl,bO (v2++#[v6])) aV)),aL v1)
theorem VN:1^"stand_behind"^["way","ahead","over"]^sp_f4:=8/16/Vw/Vf/Fi/(3&&aK K rfl<#[v0+aq],bj (aM Az v3 (aK K rfl<#[v2]) (aQ _)) (aG (aL (aY #[v0+aq,v1,cI (eV K rfl) v2 (cV v3) dC]))) aV,aL (aY #[v1,v0+aq,cI (eV K rfl) (v0+aq) (cV (aK K rfl<#[v2])) dC]))
theorem Lx:5^"forks"^["font","ways"]^sp_f40:=9/13/Rk/Qo/wu/(2&&sU,fO K rfl (v0+aq)::cH K rfl rfl (aU ↑3 (aU ↑4 cG))::aG (lU (cJ hr) v2 v3 (Ls>#[v0,v4]) rfl),5&&cN cY,CJ (VM>#[v1])::↑6::aG (Cr K rfl rfl rfl z_enumerate #[v1-v6]::cH K rfl rfl (aU ↑7 (aU ↑8 cG))::aG (b8 K rfl (cI (sY K rfl) (v1-v6) dC (cV v7))::↑9::(10&&VN>#[v9,v8+aq,v8+aq],bO (v5++#[aY #[dF (cJ hr) (dF (cJ hr) v2 (v8+aq) (λ_ _=>rfl)) (v9+aq) (λ_ _=>rfl),YG,v6,v9,v8]])))),aL v5)
theorem VP:2^"steps_by"^["ways","costs","stand"]^sp_f31:=10/17/Rm/Qp/ww/(aG (aL ([none,some 1,some 2]/["way","costs","stand"]/b8 K rfl (v0-(v2+aq))/17/["ways","costs","stand"]/(0/["way","costs","stand"])/d7/aY #[v0+aq,dF (cJ hr) v1 (v0+aq) (λ_ _=>rfl),VN>#[v0,v2+aq,v2+aq]])))
theorem Ly:6^"all_steps"^["font","house"]^sp_f27:=11/18/Hz/Qq/wF/(2&&Lr>#[v0,v1],3&&BL,4&&jV,sW (i:=5) [none] ["fork"] rfl Hz.nd rfl rfl (b8 K rfl (Lx>#[v0,v2])) (show CScope (aC (top 18)) _ from⟨rfl,by ac_nf,by ac_nf,by ac_nf⟩) (show capOk [none] ["fork"] (["font","house","ways","costs","found","waiting","stand"]:List Str) _=true from by ac_nf) (λ_ _ _ _ _ _=>(0/["fork"])) (λ_ _ _ _ _ _=>d7) (λ_ _ _ _ _ _=>(v0+aq)),eQ Ī (aM gK (aK K rfl<#[v5]) aq (aQ _)) (6&&J6 K rfl ķ PySem.F.slot_list_pop PySem.F.type_list_pop Ng v5,bj (eY (jn (bT hr) v6 v4) (by with_unfolding_all rfl)) (bj (eY (pJ (cJ hr) (v6+aq) v3) (by with_unfolding_all rfl)) (aG (lU (cJ hr) v3 (v6+aq) (Ls>#[v0,v6+aq]) rfl)) aV,jW (bT hr) v4 v6 (VP>#[v2,dF (cJ hr) v3 (v6+aq) (λ_ _=>rfl),v6]) rfl,bO (qD K rfl ķ PySem.F.slot_list_extend PySem.F.type_list_extend zp v5 #[[none]/["step"]/b8 K rfl (dR (bT hr) v4 v6 (λ_ _=>rfl))/18/["font","house","ways","costs","found","waiting","stand"]/(0/["step"])/d7/(v0+aq)])) aV),aL v4)
theorem VR:1^"steps_back"^["onward"]^sp_f22:=12/24/Ro/Qs/wG/(1&&jV,nP v0::↑2::aG (jW (bT hr) v1 v2 (cN cY) rfl),zT v0::cH K rfl rfl (aU ↑2 (aU ↑3 cG))::aG (b8 K rfl v3::cH K rfl rfl (aU ↑4 (aU ↑5 (aU ↑6 cG)))::aG (bO (dR (bT hr) v1 v6 (λ_ _=>rfl)++#[aY #[v5,v2]]))),aL v1)
theorem W3:1^"is_even"^["stand","ends"]^sp_f36:=13/25/Rp/Qt/wH/(aG (aL (iV (cT eU (aK K rfl<#[v0+aq]) aq (aQ _)) (iV (cT (fZ K rfl) (v0+aq) v1 (by with_unfolding_all rfl)) (jz (cT (fZ K rfl) (v0+aq) v1 (by with_unfolding_all rfl)))))))
theorem W4:1^"let_wait"^["waiting","rest","backs"]^sp_f30:=14/23/Rq/Qv/wI/(aG (b8 K rfl v2::cH K rfl rfl (aU ↑3 (aU ↑4 cG))::aG (bO (JG (cJ hr) v0 (aY #[aJ bB (v1+aq) v3,aJ bB (v1+aq) aq]) (cN cY) ⟨rfl,rfl,rfl,rfl⟩++#[v4]))))
theorem LC:2^"rests"^["onward","ends"]^sp_f43:=15/22/Rr/Qx/wK/(2&&VR>#[v0],3&&jV,4&&Dt (cJ hr) (aY #[aq,aq]) ([none,some 1]/["stand","ends"]/nP v0/22/["onward","ends","backward","found","waiting","rest","reached","stand"]/(0/["stand","ends"])/jN (bJ K rfl (W3>#[v0,v1]) (λ_=>rfl))/v0),eQ Ī (aM gK (zR<#[v4]) aq (aQ _)) (5&&zU rfl (cJ hr)<#[v4],6&&JF (cJ hr) v4 v5 ⟨rfl,rfl,rfl,rfl⟩,b8 K rfl v6::↑7::aG (bj (eY (jn (bT hr) v7 v3) (by with_unfolding_all rfl)) (jW (bT hr) v3 v7 v5 rfl,bO (W4>#[v4,v5,dR (bT hr) v2 v7 (λ_ _=>rfl)])) aV)),aL v3)
theorem W5:1^"row_of"^["stand","found"]^sp_f37:=16/21/Rt/Qy/wL/(2&&u9 (bT hr) v1 v0 (aY #[bK,bK]) ⟨rfl,rfl,rfl,rfl⟩,aL (aY #[v0,v2+aq,v2+aq]))
theorem W6:7^"far_paper"^["font","house"]^sp_f28:=17/20/HB/QB/wM/(2&&Ly>#[v0,v1],kE (i:=3) HB.nd rfl (Or.inr rfl) (LC>#[v2,v1+aq]),aL ([none,some 3]/["stand","found"]/b8 K rfl (u6 rfl (Oo hr)<#[v2])/20/["font","house","onward","found"]/(0/["stand","found"])/d7/(W5>#[v0,v1])))
theorem LK:1^"grown"^["texts","sign","passes"]^sp_f39:=18/28/Ru/QC/wN/(3&&aJ fX (v0+aq) v1,aL (Am (bJ K rfl v2 (λ_=>rfl)) (aY #[v0+aq,v3]) (aY #[v3,v0+aq])))
theorem XX:2^"texts_of_fork"^["ways","fork"]^sp_f2:=19/27/Vx/Vk/G7/(2&&dF (cJ hr) (VM>#[v0]) (v1+aq) (λ_ _=>rfl),3&&v1+aq,4&&v1+aq,aL (LK>#[aY #[v2,aJ fX v2 (v4+aq)],v3+aq,cT gK (aK K rfl<#[v3+aq]) (aK K rfl<#[v4+aq]) (aQ _)]))
theorem W7:1^"step_on"^["steps","found","rest"]^sp_f35:=20/30/Rv/QF/wQ/(b8 K rfl v0::↑3::aG (bj (aM (qC K rfl hr.units) (Ec (bT hr) v1 (v3+aq) ⟨rfl,rfl,rfl,rfl⟩) (aY #[aJ ig (v2+aq) (v3+aq),aJ ig (v2+aq) aq]) (aQ _)) (aG (aL v3)) aV),aL bK)
theorem W8:2^"led_on"^["font","onward","found","stand","texts"]^sp_f38:=21/29/Rw/QG/wR/(5&&bI (dO K rfl rfl) rfl z_dict (by ac_nf) #[v0+aq],eQ Ī (aM (ye K rfl hr.units) (dR (bT hr) v2 v3 (λ_ _=>rfl)) (aY #[aq,aq]) (aQ _)) (6&&W7>#[dR (bT hr) v1 v3 (λ_ _=>rfl),v2,dR (bT hr) v2 v3 (λ_ _=>rfl)],4&&LK>#[v4,v6+aq,cT gK (aK K rfl<#[dF (cJ hr) v5 (v6+aq) (λ_ _=>rfl)]) (aK K rfl<#[v3+aq]) (aQ _)],3&&v6+aq),aL v4)
theorem LQ:7^"farness"^["font","house"]^sp_f34:=22/26/xM/QL/wU/(2&&Lr>#[v0,v1],3&&Ly>#[v0,v1],kE (i:=4) xM.nd rfl (Or.inr rfl) (LC>#[v3,v1+aq]),sW (i:=5) [none,some 4] ["fork","found"] rfl xM.nd rfl rfl (b8 K rfl (Lx>#[v0,v2])) (show CScope (aC (top 26)) _ from⟨rfl,by ac_nf,by ac_nf,by ac_nf⟩) (show capOk [none,some 4] ["fork","found"] (["font","house","ways","onward","found","pairs","least","texts"]:List Str) _=true from by ac_nf) (λ_ _ _ _ _ _=>(0/["fork","found"])) (λ_ _ _ _ _ _=>jN (eY (Om (bT hr) (v0+aq) v1) (by with_unfolding_all rfl))) (λ_ _ _ _ _ _=>(aY #[aJ bB (v0+aq) (dR (bT hr) v1 (v0+aq) (λ_ _=>rfl)+aq),v0])),bj (aM eU (aK K rfl<#[v5]) aq (aQ _)) (aG (aL bK)) aV,6&&uf K rfl rfl (Jz hr)<#[v5],7&&W8>#[v0,v3,v4,v6+aq+aq,XX>#[v2,v6+aq]],aL (aY #[v6+aq,vQ K rfl rfl<#[v7],vR K rfl rfl<#[v7]]))
theorem W9:8^"mends"^["font","house"]^sp_f44:=23/31/Rx/QM/wV/(2&&LQ>#[v0,v1],bj (aM fW v2 bK (aQ _)) (aG (aL bK)) aV,aL (aJ bG (aJ ig (v2+aq) aq) aq))
theorem uF:1^"_law_cell_at"^["script","k"]^sp_f3:=24/33/Vy/Vn/Gg/(bj (aM xR v1 (aK K rfl<#[v0]) (aQ _)) (aG (aL (v0-v1))) aV,aL aq)
theorem uG:1^"_law_whole"^["found"]^sp_f23:=25/34/Ry/QQ/wW/(aG (aL (iV (bR K rfl<#[v0,fK (v:=.ty "int") (u:=.type "int") rfl z_int (by ac_nf) rfl]) (jz (Ma (bR K rfl<#[v0,fK (v:=.ty "bool") (u:=.type "bool") rfl z_bool (by ac_nf) rfl]))))))
theorem Wa:1^"_law_signs"^["cell","many"]^sp_f15:=26/35/RB/QS/wX/(2&&uM,2&&aJ fX v2 uM,3&&aJ bG v0 aq,bj (aM eU (aJ bH v0 aq) aq (aQ _)) (aG (3&&aJ bB (aJ ym v3 (aJ Aw aq aq)) aq)) aV,4&&cN cY,cQ rfl z_range #[v1]::↑5::(6&&aJ bH v3 (aK K rfl<#[v2]),3&&aJ bG v3 (aK K rfl<#[v2]),bO (v4++#[sG Bo v2 v6 (λ_ _=>rfl)]),2&&aJ fX (cI Cq v2 dC (cV v6)) (cI Cq v2 (cV (aJ bB v6 aq)) dC)),aL v4)
theorem Y0:2^"_law_letters"^["script","many","most","height","alike"]^sp_f5:=27/36/Lp/Vo/Gj/(5&&cN cY,cQ rfl z_range #[v1]::↑6::(7&&uF>#[v0,aJ bB aq v6],8&&aJ bB aq (aJ bH v7 v2),kE (i:=9) Lp.nd rfl (Or.inr rfl) (aJ bH (aJ ym (aJ bB (aJ bG v7 v2) v6) (aJ Aw aq aq)) (aJ ql aq (aJ kI v3 v8))),10&&bI (c7 K rfl) rfl z_tuple (by ac_nf) #[[none,some 9,some 3]/["j","number","height"]/cQ rfl z_range #[v8]/36/["script","many","most","height","alike","letters","k","cell","wide","number","columns"]/(0/["j","number","height"])/d7/aJ bH (aJ tV v1 (aJ ql aq (aJ kI v2 v0))) (aJ ql aq v2)],bj (PW.pt (gF (bJ K rfl v4 (λ_=>rfl)) (fL (aM eU (aJ bH v6 aq) aq (aQ _))))) (aG (10&&v5-aJ ig v6 aq)) aV,bO (v5++#[YG])),aL v5)
theorem Wb:2^"_law_shape"^["script"]^sp_f17:=28/37/RC/QT/wY/(1&&uF>#[v0,aq],2&&aJ bH v1 aq,3&&aJ bB aq (aJ bH (aJ bG v1 aq) aq),4&&aJ bB aq (aJ bH (uF>#[v0,aq]) aq),5&&uF>#[v0,aq],6&&aJ bB aq (aJ bH (aJ bG v5 aq) (cN #[aq,aq,aq,aq]-aJ bH v5 aq)),7&&gM rfl<#[(by (with_reducible refine cN ?_);(with_reducible refine@ik _ _ _ _ _ ?_ ?_ rfl);(exact aq);(with_reducible refine@ik _ _ _ _ _ ?_ ?_ rfl);(exact aq);(with_reducible refine@ik _ _ _ _ _ ?_ ?_ rfl);(exact aq);(with_reducible refine@ik _ _ _ _ _ ?_ ?_ rfl);(exact aq);(with_reducible refine@ik _ _ _ _ _ ?_ ?_ rfl);(exact aq);exact cY)-aJ bH (uF>#[v0,aq]) aq,aJ bG aq v6],bj (PW.pt (gF (aM gK v2 aq (aQ _)) (fL (aM eU (aJ bH (aJ bG v1 aq) aq) aq (aQ _))))) (4&&aq,7&&gM rfl<#[v7,aJ ig v2 aq],3&&aJ bB aq (aJ bH (aJ bG v1 aq) (cN #[aq,aq,aq]-aJ bB (aJ ig v2 aq) (bI z9 rfl z_int (by ac_nf) #[iV (cT gK v2 aq (aQ _)) (jz (cT eU v7 aq (aQ _)))]))),bj (PW.pt (gF (aM eU v2 aq (aQ _)) (fL (aM eU (aJ bH (aJ bG v1 aq) aq) aq (aQ _))))) (3&&aJ bB aq (aJ bH (aJ bG v1 aq) aq),4&&aJ bB aq (aJ bH (aJ bG v1 aq) aq),6&&gM rfl<#[v6,aq],aL (aY #[v2,v3,v4,v7,v6])) aV) aV,eQ Ī (PW.pt (gF (aM gK v4 aq (aQ _)) (fL (aM gK (aJ kI (aJ kI (aJ kI v3 v3) (aJ bB aq (aJ kI v4 v7))) v4) aq (aQ _))))) (aG (4&&aJ ig v4 aq)),aL (aY #[v2,v3,v4,v7,v6]))
theorem Wc:3^"_law_font"^["script","shape","signs"]^sp_f26:=29/38/HD/QV/wZ/(3&&cT eU (aJ bH (aJ bG (uF>#[v0,aq]) aq) aq) aq (aQ _),kE (i:=4) HD.nd rfl (Or.inr rfl) (Y0>#[v0,v1+aq,v1+aq,v1+aq,v3]),aL (aY #[v1+aq,bI (vo K rfl) rfl z_tuple (by ac_nf) #[iy K rfl<#[[none,some 2,some 4]/["k","signs","letters"]/cQ rfl z_range #[v1+aq]/38/["script","shape","signs","alike","letters"]/(0/["k","signs","letters"])/d7/aY #[v1-v0,v2-v0]]]]))
theorem Wd:1^"_law_drawn"^["cells","many","signs"]^sp_f12:=30/39/HF/QW/xf/(sW (i:=3) [none] ["k"] rfl HF.nd rfl rfl (cQ rfl z_range #[v1]) (show CScope (aC (top 39)) _ from⟨rfl,by ac_nf,by ac_nf,by ac_nf⟩) (show capOk [none] ["k"] (["cells","many","signs","doors","ends","cell","room","sign","rest","last"]:List Str) _=true from by ac_nf) (λ_ _ _ _ _ _=>(0/["k"])) (λ_ _ _ _ _ _=>d7) (λ_ _ _ _ _ _=>(cN cY)),4&&cN cY,b8 K rfl v0::↑5::(6&&aJ bH v5 v1,7&&v2-aJ bH (aJ bG v5 v1) (aK K rfl<#[v2]),8&&aJ bG (aJ bG v5 v1) (aK K rfl<#[v2]),bj (aM (gH K rfl) v7 ([none]/["pair"]/b8 K rfl (v3-v6)/39/["cells","many","signs","doors","ends","cell","room","sign","rest","last"]/(0/["pair"])/d7/(v0+aq)) (by with_unfolding_all rfl)) (aG (bO ((v3-v6)++#[aY #[v7,aJ bH v8 v1]]))) aV,9&&aJ bH (aJ bG (aJ bG v8 v1) aq) v1,bj (PW.pt (gF (aM eU (aJ bH (aJ bG v8 v1) aq) aq (aQ _)) (fL (aM (gH K rfl) v9 v4 (by with_unfolding_all rfl))))) (aG (bO (v4++#[v9]))) aV),aL (aY #[bI (c7 K rfl) rfl z_tuple (by ac_nf) #[[none]/["pairs"]/b8 K rfl v3/39/["cells","many","signs","doors","ends","cell","room","sign","rest","last"]/(0/["pairs"])/d7/bI (c7 K rfl) rfl z_tuple (by ac_nf) #[iy K rfl<#[v0]]],bI (c7 K rfl) rfl z_tuple (by ac_nf) #[sZ K rfl<#[v4]]]))
theorem We:2^"_law_house"^["script","shape","signs"]^sp_f16:=31/40/RD/QX/xg/(Mj (cI (J4 K rfl) v1 dC (cV aq)) (cH K rfl rfl (aU ↑3 (aU ↑4 (aU ↑5 cG)))),bj (aM xR v3 aq (aQ _)) (aG (aL (Wd>#[cI (sY K rfl) v0 (cV aq) (cV aq),v4,v2]))) aV,6&&cN cY,cQ rfl z_range #[v4]::↑7::(8&&cN cY,cQ rfl z_range #[v5]::↑9::aG (bj (aM eU v3 aq (aQ _)) (aG (bO (v8++#[aY #[v2-v9,aJ bH (aJ bB (aJ bB v7 v9) aq) v4]]))) (aG (bj (aM eU (aJ bH (aJ tV (uF>#[v0,aJ bB aq v7]) (aJ ql aq v9)) aq) aq (aQ _)) (aG (bO (v8++#[aY #[v2-v9,aJ bB v7 aq]]))) aV))),bO (v6++#[bI (c7 K rfl) rfl z_tuple (by ac_nf) #[iy K rfl<#[v8]]])),bj (aM eU v3 aq (aQ _)) (aG (aL (aY #[bI (c7 K rfl) rfl z_tuple (by ac_nf) #[v6],aY #[aq]]))) aV,aL (aY #[bI (c7 K rfl) rfl z_tuple (by ac_nf) #[aJ Nh v6 (cN #[aY cY])],aY #[v4]]))
theorem HQ:1^"_law_spots"^["one","other"]^sp_f21:=32/41/RG/QZ/xj/(2&&aq,cQ rfl z_range #[gM rfl<#[aK K rfl<#[v0],aK K rfl<#[v1]]]::↑3::(4&&aJ Ax (sG (yD K rfl) v0 v3 (λ_ _=>rfl)) (sG (yD K rfl) v1 v3 (λ_ _=>rfl)),eQ Ī (aM gK v4 aq (aQ _)) (2&&aJ bB v2 (aJ bH v4 aq),4&&aJ bG v4 aq)),aL v2)
theorem Wg:2^"_law_begin"^["one","other","x","y"]^sp_f18:=33/42/RJ/R0/xm/(4&&HQ>#[v0,v1],bj (aM Az (aK K rfl<#[v0]) (aK K rfl<#[v1]) (aQ _)) (aG (aL (aY #[v4,aY #[v2,v3,cI (eV K rfl) v1 (cV (aK K rfl<#[v0])) dC]]))) aV,aL (aY #[v4,aY #[v3,v2,cI (eV K rfl) v0 (cV (aK K rfl<#[v1])) dC]]))
theorem Wh:1^"_law_rooms"^["house","pictures"]^sp_f24:=34/43/RK/R1/xn/(2&&cN #[aq],3&&aq,eQ Ī (aM xR v3 (aK K rfl<#[v2]) (aQ _)) (fO K rfl (v0+aq+(v2-v3))::cH K rfl rfl (aU ↑4 (aU ↑5 cG))::aG (bj (PW.pt (gF (eY (mQ (cJ hr) v4 v1) (by with_unfolding_all rfl)) (fL (aM (gH K rfl) v5 v2 (by with_unfolding_all rfl))))) (aG (bO (v2++#[v5]))) aV),3&&aJ bB v3 aq),aL v2)
theorem LR:3^"_law_begins"^["house","pictures"]^sp_f10:=35/44/HH/R3/xq/(2&&cN cY,b8 K rfl (Wh>#[v0,v1])::↑3::(sW (i:=4) [none,some 1] ["pair","pictures"] rfl HH.nd rfl rfl (fO K rfl (v0+aq+v3)) (show CScope (aC (top 44)) _ from⟨rfl,by ac_nf,by ac_nf,by ac_nf⟩) (show capOk [none,some 1] ["pair","pictures"] (["house","pictures","found","room","some","j","k","x","y"]:List Str) _=true from by ac_nf) (λ_ _ _ _ _ _=>(0/["pair","pictures"])) (λ_ _ _ _ _ _=>jN (eY (mQ (cJ hr) (v0+aq) v1) (by with_unfolding_all rfl))) (λ_ _ _ _ _ _=>v0),cQ rfl z_range #[aK K rfl<#[v4]]::↑5::aG (cQ rfl z_range #[v5]::↑6::(7&&v4-v6,8&&v4-v5,bO (v2++#[Wg>#[dF (cJ hr) v1 (v7+aq) (λ_ _=>rfl),dF (cJ hr) v1 (v8+aq) (λ_ _=>rfl),v7+aq,v8+aq]])))),aL v2)
theorem Wi:2^"_law_steps"^["house","pictures","stand"]^sp_f14:=36/45/RL/R4/xr/(3&&cN cY,fO K rfl (v0+aq+(v2+aq))::cH K rfl rfl (aU ↑4 (aU ↑5 cG))::aG (bj (eY (mQ (cJ hr) v4 v1) (by with_unfolding_all rfl)) (6&&dF (cJ hr) v1 v4 (λ_ _=>rfl),7&&v2+aq,8&&HQ>#[v6,v7],bj (aM Az (aK K rfl<#[v6]) (aK K rfl<#[v7]) (aQ _)) (aG (bO (v3++#[aY #[v8,aY #[v5,v2+aq,cI (eV K rfl) v7 (cV (aK K rfl<#[v6])) dC]]]))) (aG (bO (v3++#[aY #[v8,aY #[v2+aq,v5,cI (eV K rfl) v6 (cV (aK K rfl<#[v7])) dC]]])))) aV),aL v3)
theorem Y4:2^"_law_is_stand"^["stand"]^sp_f1:=37/46/Vz/Vq/Hg/(bj (PW.pt (gr (eZ (bJ K rfl (bR K rfl<#[v0,fK (v:=.ty "tuple") (u:=.type "tuple") rfl z_tuple (by ac_nf) rfl]) (λ_=>rfl))) (gr (aM su (aK K rfl<#[v0]) aq (aQ _)) (gY (eZ (bJ K rfl (bR K rfl<#[v0+aq,fK (v:=.ty "tuple") (u:=.type "tuple") rfl z_tuple (by ac_nf) rfl]) (λ_=>rfl))))))) (aG (aL iI)) aV,aL (pM K rfl rfl<#[[none]/["part"]/fO K rfl (aJ (Ds K rfl) (aY #[v0+aq,v0+aq]) (v0+aq))/46/["stand"]/(0/["part"])/d7/(uG>#[v0])]))
theorem Y5:3^"_law_is_row"^["row"]^sp_f6:=38/47/VB/Vr/Hh/(bj (PW.pt (gr (eZ (bJ K rfl (bR K rfl<#[v0,fK (v:=.ty "tuple") (u:=.type "tuple") rfl z_tuple (by ac_nf) rfl]) (λ_=>rfl))) (gr (aM su (aK K rfl<#[v0]) aq (aQ _)) (gY (eZ (bJ K rfl (Y4>#[v0+aq]) (λ_=>rfl))))))) (aG (aL iI)) aV,bj (aM fW (v0+aq) bK (aQ _)) (aG (aL (cT fW (v0+aq) bK (aQ _)))) aV,aL (iV (uG>#[v0+aq]) (jz (uG>#[v0+aq]))))
theorem Wj:1^"_law_due"^["house","ways","found","stand"]^sp_f29:=39/48/RM/R5/xx/(bj (PW.pt (gF (aM (qC K rfl hr.units) (v3+aq) (aY cY) (aQ _)) (gF (aM (fZ K rfl) (v3+aq) (v0+aq) (by with_unfolding_all rfl)) (fL (aM (fZ K rfl) (v3+aq) (v0+aq) (by with_unfolding_all rfl)))))) (aG (aL (aY #[aq,aq]))) aV,4&&aY #[bK,bK],b8 K rfl v1::cH K rfl rfl (aU ↑5 (aU ↑6 cG))::(7&&u9 (bT hr) v2 v6 (aY #[bK,bK]) ⟨rfl,rfl,rfl,rfl⟩,bj (aM xT (v7+aq) bK (aQ _)) (8&&aY #[aJ bB v5 (v7+aq),aJ bB aq (v7+aq)],bj (PW.pt (gr (aM fW (v4+aq) bK (aQ _)) (gY (aM (J5 K rfl (Ù (ċ _ _) hr.units)) v8 v4 (aQ _))))) (aG (4&&v8)) aV) aV),aL v4)
theorem Y6:4^"_law_walked"^["house","pictures","paper"]^sp_f8:=40/49/VD/Vs/Hk/(bj (PW.pt (gr (eZ (bJ K rfl (bR K rfl<#[v2,fK (v:=.ty "list") (u:=.type "list") rfl z_list (by ac_nf) rfl]) (λ_=>rfl))) (gY (eZ (bJ K rfl (pM K rfl rfl<#[[none]/["row"]/b8 K rfl v2/49/["house","pictures","paper","found","row","cost","stand","ways","onward"]/(0/["row"])/d7/(Y5>#[v0])]) (λ_=>rfl)))))) (aG (aL iI)) aV,3&&jV,b8 K rfl v2::↑4::aG (jW (bT hr) v3 (v4+aq) (aY #[v4+aq,v4+aq]) rfl),b8 K rfl (LR>#[v0,v1])::cH K rfl rfl (aU ↑5 (aU ↑6 cG))::aG (bj (eY (jn (bT hr) v6 v3) (by with_unfolding_all rfl)) (aG (aL iI)) aV),nP v3::↑6::(7&&Wi>#[v0,v1,v6],b8 K rfl v7::cH K rfl rfl (aU ↑5 (aU ↑8 cG))::aG (bj (eY (jn (bT hr) v8 v3) (by with_unfolding_all rfl)) (aG (aL iI)) aV),bj (aM (ye K rfl hr.units) (dR (bT hr) v3 v6 (λ_ _=>rfl)) (Wj>#[v0,v7,v3,v6]) (aQ _)) (aG (aL iI)) aV),aL iI)
theorem Wl:4^"_law_least"^["house","pictures","paper"]^sp_f13:=41/50/RN/R8/xF/(3&&jV,b8 K rfl v2::↑4::aG (jW (bT hr) v3 (v4+aq) (v4+aq) rfl),5&&bK,b8 K rfl (LR>#[v0,v1])::cH K rfl rfl (aU ↑6 (aU ↑7 cG))::aG (bj (PW.pt (gF (aM xT (dR (bT hr) v3 v7 (λ_ _=>rfl)) bK (aQ _)) (fL (PW.pt (gr (aM fW v5 bK (aQ _)) (gY (aM xR (aJ bB v6 (dR (bT hr) v3 v7 (λ_ _=>rfl))) v5 (aQ _)))))))) (aG (5&&aJ bB v6 (dR (bT hr) v3 v7 (λ_ _=>rfl)))) aV),aL v5)
theorem M3:1^"_law_strip"^["house","pictures","text"]^sp_f20:=42/51/xN/R9/xG/(3&&aq,4&&cN cY,Ny v2::qj (i:=5) xN.nd rfl (Or.inr rfl)::(sW (i:=6) [none,some 5,some 1] ["pair","sign","pictures"] rfl xN.nd rfl rfl (fO K rfl (v0+aq+v3)) (show CScope (aC (top 51)) _ from⟨rfl,by ac_nf,by ac_nf,by ac_nf⟩) (show capOk [none,some 5,some 1] ["pair","sign","pictures"] (["house","pictures","text","room","strip","sign","ways"]:List Str) _=true from by ac_nf) (λ_ _ _ _ _ _=>(0/["pair","sign","pictures"])) (λ_ _ _ _ _ _=>jN (PW.pt (gF (aM eU (v0+aq) v1 (aQ _)) (fL (eY (mQ (cJ hr) v1 v2) (by with_unfolding_all rfl)))))) (λ_ _ _ _ _ _=>(v0+aq)),bj (aM (qC K rfl hr.units) v6 (cN cY) (aQ _)) (aG (aL bK)) aV,3&&v6-aq,bO (qD K rfl ķ PySem.F.slot_list_extend PySem.F.type_list_extend (tE K rfl) v4 #[dF (cJ hr) v1 v5 (λ_ _=>rfl)])),bj (aM (fZ K rfl) v3 (v0+aq) (by with_unfolding_all rfl)) (aG (aL v4)) aV,aL bK)
theorem Wm:2^"_law_told"^["house","pictures","found","most"]^sp_f25:=43/52/RP/Ra/xH/(bj (PW.pt (gr (eZ (bJ K rfl (bR K rfl<#[v2,fK (v:=.ty "tuple") (u:=.type "tuple") rfl z_tuple (by ac_nf) rfl]) (λ_=>rfl))) (gr (aM su (aK K rfl<#[v2]) aq (aQ _)) (gY (eZ (bJ K rfl (uG>#[v2+aq]) (λ_=>rfl))))))) (aG (aL iI)) aV,bj (PW.pt (gr (eZ (bJ K rfl (bR K rfl<#[v2+aq,fK (v:=.ty "str") (u:=.type "str") rfl z_str (by ac_nf) rfl]) (λ_=>rfl))) (gr (eZ (bJ K rfl (bR K rfl<#[v2+aq,fK (v:=.ty "str") (u:=.type "str") rfl z_str (by ac_nf) rfl]) (λ_=>rfl))) (gY (eZ (aM z8 (v2+aq) (v2+aq) (aQ _))))))) (aG (aL iI)) aV,bj (PW.pt (gr (aM gK (aK K rfl<#[v2+aq]) v3 (aQ _)) (gY (aM gK (aK K rfl<#[v2+aq]) v3 (aQ _))))) (aG (aL iI)) aV,4&&M3>#[v0,v1,v2+aq],5&&M3>#[v0,v1,v2+aq],bj (PW.pt (gr (aM fW v4 bK (aQ _)) (gr (aM fW v5 bK (aQ _)) (gY (aM su (aK K rfl<#[v4]) (aK K rfl<#[v5]) (aQ _)))))) (aG (aL iI)) aV,aL (cT eU (HQ>#[v4,v5]) (v2+aq) (aQ _)))
theorem Wn:8^"_law_right"^["font","house","far","most"]^sp_f19:=44/53/RQ/Rb/xJ/(4&&LQ>#[v0,v1],bj (aM fW v2 bK (aQ _)) (aG (aL (cT fW v4 bK (aQ _)))) aV,aL (iV (Wm>#[v1,bI (dO K rfl rfl) rfl z_dict (by ac_nf) #[v0+aq],v4,v3]) (jz (cT eU (v4+aq) v2 (aQ _)))))
theorem Y7:9^"_law_mended"^["font","house","far"]^sp_f7:=45/54/VF/Vt/Ht/(3&&W9>#[v0,v1],bj (aM fW v2 bK (aQ _)) (aG (aL (cT fW v3 bK (aQ _)))) aV,aL (iV (uG>#[v3]) (jz (cT eU v3 (aJ bG (aJ ig v2 aq) aq) (aQ _)))))
end
theorem RT {K:Frag} {h:Heap} {fa:Addr} (X:K.In h) (G:h.Ns mainGlobals mg) (hfa:mg "law"=some (.ref fa)) (e:obs K=ans):∃fd:FuncData,(∀(s:Shared) (v:Value),BindsTo s fd ⟨[v],[]⟩ [Prod.mk "script" v])/\∀base:Heap,K.In base->base.Ns mainGlobals mg->FnOk pWo w K mg base KN 10 fa fd ["script"] (sp_f46 K):=by
 have e1:nms.map (nsIn K mainGlobals)=Y8:=ß (·.1) e;have e2:RX.map (λd=>RV K d.1)=RX.map (λd=>RW none d.1 d.2):=ß (·.2.1) e;have e3:=ß (·.2.2) e;obtain @⟨_,_,kV,dc,pm,cd,ct,_,an,_,a,lL,qL,kL⟩:=Lq (oG e2 46 rfl rfl:RV K "law"=RW none "law" 55);cases hfa.symm.trans (mg_of X G a);refine ⟨fnOf "law" "law" (fJ (top 55)) (eN (top 55)) (aC (top 55)) .none kV dc pm an cd ct,λs v=>.of_eq rfl,λbase _ _=>?_⟩;have z_len:mg "len"=none:=mg_none_of X G (oG e1 0 rfl rfl);have z_sum:mg "sum"=none:=mg_none_of X G (oG e1 1 rfl rfl);have z_zip:mg "zip"=none:=mg_none_of X G (oG e1 2 rfl rfl);have z_dict:mg "dict"=none:=mg_none_of X G (oG e1 3 rfl rfl);have z_min:mg "min"=none:=mg_none_of X G (oG e1 4 rfl rfl);have z_enumerate:mg "enumerate"=none:=mg_none_of X G (oG e1 5 rfl rfl);have z_sorted:mg "sorted"=none:=mg_none_of X G (oG e1 6 rfl rfl);have z_max:mg "max"=none:=mg_none_of X G (oG e1 7 rfl rfl);have z_isinstance:mg "isinstance"=none:=mg_none_of X G (oG e1 8 rfl rfl);have z_bool:mg "bool"=none:=mg_none_of X G (oG e1 9 rfl rfl);have z_int:mg "int"=none:=mg_none_of X G (oG e1 10 rfl rfl);have z_range:mg "range"=none:=mg_none_of X G (oG e1 11 rfl rfl);have z_tuple:mg "tuple"=none:=mg_none_of X G (oG e1 12 rfl rfl);have z_all:mg "all"=none:=mg_none_of X G (oG e1 13 rfl rfl);have z_list:mg "list"=none:=mg_none_of X G (oG e1 14 rfl rfl);have z_str:mg "str"=none:=mg_none_of X G (oG e1 15 rfl rfl);have k_BlotError:mg "BlotError"=some (.ref WP)/\ExcK K WP:=⟨mg_of X G (oG e1 16 rfl rfl),HN (oG e3 0 rfl rfl)⟩;have k_NotAlike:mg "NotAlike"=some (.ref WQ)/\ExcK K WQ:=⟨mg_of X G (oG e1 17 rfl rfl),HN (oG e3 1 rfl rfl)⟩;have F:=uY (st:=top 55) lL qL kL;exact F.ok HJ (λ_ _ _ _ h=>Rf h) λcdv A outer s H vs Q E hr h=>by have nd:=HJ.nd;obtain⟨Eh,h⟩:=Rc h;exact ⟨xK K E Eh,(1&&Wb>#[v0],2&&Wa>#[uF>#[v0,aq],aJ bB (v1+aq) aq],3&&Wc>#[v0,v1,v2],4&&We>#[v0,v1,v2],5&&W6>#[v3,v4],bj (eZ (bJ K rfl (Y6>#[v4,bI (dO K rfl rfl) rfl z_dict (by ac_nf) #[v3+aq],v5]) (λ_=>rfl))) (aG (aL iI)) aV,6&&Wl>#[v4,bI (dO K rfl rfl) rfl z_dict (by ac_nf) #[v3+aq],v5],7&&aJ bB (aK K rfl<#[v4+aq]) (aK K rfl<#[v5]),aL (iV (Wn>#[v3,v4,v6,v7]) (jz (Y7>#[v3,v4,v6])))),h⟩
end
theorem fin:PySem.Challenge.rw_blotsure_k55_whole_farness.Holds:=by
 refine holds_law said λsaid=>holds_open (q:=vw) (loose:=[]) (Xt:=λs=>xlAt vw [] s&&recOk [] s) (XP:=XL vw []) (Ya:=λ_=>ans) (YP:=λ_ h=>∃K:Frag,K.In h/\obs K=ans) left (λw s e=>⟨_,qg,e⟩) (λw h h' ⟨K,X,e⟩ k=>⟨K,Frag.In.keeps X k,e⟩) (λs e=>xl_of s (Bool.and_eq_true_iff.mp e).1) XL.keeps (by rfl) (by rfl) (by rfl) (λs e=>recFacts_of (Bool.and_eq_true_iff.mp e).2) (by rfl) said (by ac_nf) ⟨rfl,rfl,rfl,rfl,rfl,by ac_nf⟩ ?hw ?hc
 case hw=>w_witness2
 rintro w s s' mg mb G ⟨K,X,e⟩;exact L2.zM (n:=63) (k:=10) (x:="script") (CX:=λ_=>L2.KN) (K:=λ_=>K) (YP:=λ_ h=>K.In h) (sp:=λ_=>sp_f46 K) rfl (by decide) rfl ⟨rfl,by decide,by decide⟩ (λ_ _ Y=>Y) (λ_ _ _ _ KX G hmg=>RT KX G hmg e) (λ_ _ a ns hl hb _ hS=>⟨a,ns,rfl,hS,hl,hb,λ_=>rfl⟩) (λ_ _ _ _ _ z=>z) w s s' mg mb G X
end Pg
open PySem PySem.W PyProof.Rows
theorem PySem.Challenge.cw_blotsure_k55_whole_farness_holds : PySem.Challenge.rw_blotsure_k55_whole_farness.Holds :=
 Pg.fin
