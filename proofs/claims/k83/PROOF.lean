import PyProof.Rows.All
import Wide.All
import OpenK.AllK
import PySem.Challenge.RW_blotsure_k83_whole_page_comes_back
abbrev Qb:=@List.length_map
abbrev Qr:=@List.getElem?_eq_getElem
abbrev Zl:=@PySem.wpAny_bind
abbrev Zp:=@List.mem_singleton
abbrev Zs:=@List.mem_map
abbrev Yf:=@List.getD_eq_getElem?_getD
abbrev Xs:=@List.mem_of_getElem?
abbrev Wp:=@List.getElem?_map
abbrev Jn:=@List.map_append
abbrev À:=@List.getElem?_eq_some_iff
abbrev Á:=@PySem.wpAny_pure
abbrev Â:=@List.length_append
abbrev Ã:=@PySem.Heap.get?_push_of_some
abbrev Ä:=@Nat.le_refl
abbrev Å:=@List.map_map
abbrev Æ:=@List.mem_append
abbrev Ç:=@List.map_cons
abbrev È:=@List.mem_cons
abbrev É:=@List.mem_cons_of_mem
abbrev Ê:=@PySem.Heap.get?_push_size
abbrev Ë:=@List.mem_cons_self
abbrev Ì:=@PySem.Heap.lt_size
abbrev Í:=@List.take_add_one
abbrev Î:=@Option.map_eq_some_iff
abbrev Ï:=@List.getElem_mem
abbrev Ð:=@List.length_take
abbrev Ñ:=@Bool.false_ne_true
abbrev Ò:=@Nat.le_trans
abbrev Ó:=@Int.toNat_natCast
abbrev Ô:=@Nat.lt_of_lt_of_le
abbrev Õ:=@List.take_length
abbrev Ö:=@congrArg
abbrev Ø:=@decide_eq_true
abbrev Ù:=@List.size_toArray
abbrev Ú:=@decide_eq_false
abbrev Û:=@Nat.lt_of_le_of_lt
abbrev Ü:=@List.mem_append_right
abbrev Ý:=@List.mem_append_left
abbrev Þ:=@Option.some.inj
abbrev ß:=@List.getElem?_eq_none
abbrev à:=@List.nodup_append
abbrev á:=@Bool.false_eq_true
abbrev â:=@List.length_singleton
abbrev ã:=@Nat.ne_of_lt
abbrev ä:=@List.getElem?_append_right
abbrev å:=@List.not_mem_nil
abbrev æ:=@Nat.zero_le
abbrev ç:=@List.getElem?_append_left
abbrev è:=@List.length_cons
abbrev é:=@List.append_assoc
abbrev ê:=@List.length_replicate
abbrev ë:=@List.take_of_length_le
abbrev ì:=@List.length_drop
abbrev í:=@List.mem_range
abbrev î:=@List.mem_filterMap
abbrev ï:=@List.mem_flatMap
abbrev ð:=@PySem.wpAny_call_entry
abbrev ñ:=@Nat.le_of_lt
abbrev ò:=@Array.getElem?_eq_getElem
abbrev ó:=@List.mem_iff_getElem?
abbrev ô:=@of_decide_eq_true
abbrev õ:=@PySem.wpAny_newObj_type
abbrev ö:=@List.length_range
abbrev ø:=@Array.getElem?_toList
abbrev ù:=@List.append_nil
abbrev ú:=@List.getElem_map
abbrev û:=@List.nodup_cons
abbrev ü:=@List.forIn_cons
abbrev ý:=@PyProof.Rows.wpS_bind
abbrev þ:=@PySem.wpAny_holding
abbrev ÿ:=@List.map_congr_left
abbrev Ā:=@PySem.sizeLine_eq
abbrev ā:=@List.mem_iff_getElem
abbrev Ă:=@List.Nodup.sublist
abbrev ă:=@PyProof.Rows.callWith_type1
abbrev Ą:=@PySem.Heap.SameBut.update
abbrev ą:=@if_false
abbrev Ć:=@Bool.and_eq_true
abbrev ć:=@Nat.lt_irrefl
abbrev Ĉ:=@List.mem_of_find?_eq_some
abbrev ĉ:=@PySem.wpAny_setField_rec
abbrev Ċ:=@Array.length_toList
abbrev ċ:=@PySem.wpAny_mono
abbrev Č:=@List.take_append_drop
abbrev č:=@PySem.wpAny_truthy_bool
abbrev Ď:=@List.take_sublist
abbrev ď:=@List.map_nil
abbrev Đ:=@Nat.lt_or_ge
abbrev đ:=@List.mem_filter
abbrev Ē:=@PySem.W.kia_one
abbrev ē:=@List.find?_cons
abbrev Ĕ:=@Bool.not_true
abbrev ĕ:=@PySem.Calls.callWith_builtin
abbrev Ė:=@Nat.succ_le_succ
abbrev ė:=@Nat.le_of_eq
abbrev Ę:=@PySem.F.plainAttrs_str
abbrev ę:=@List.getElem?_range
abbrev Ě:=@Int.toNat_of_nonneg
abbrev ě:=@PySem.wpAny_field
abbrev Ĝ:=@List.getElem?_set
abbrev ĝ:=@PySem.Heap.get?_update_self
abbrev Ğ:=@PySem.Paired.length
abbrev ğ:=@PyProof.Rows.wpS_pure
abbrev Ġ:=@PySem.wpAny_seqItems
abbrev ġ:=@List.sum_cons
abbrev Ģ:=@Nat.ne_of_gt
abbrev ģ:=@List.lookup_cons
abbrev Ĥ:=@Nat.eq_of_testBit_eq
abbrev ĥ:=@or_false
abbrev Ħ:=@PySem.Around.under_plainId
abbrev ħ:=@List.mem_of_mem_take
abbrev Ĩ:=@PySem.F.plainAttrs_list
abbrev ĩ:=@Nat.lt_succ_of_lt
abbrev Ī:=@PySem.Heap.size_push
abbrev ī:=@PySem.wpAny_dictEntries
abbrev Ĭ:=@List.drop_of_length_le
abbrev ĭ:=@List.flatMap_cons
abbrev Į:=@List.filterMap_cons
abbrev į:=@PyProof.Rows.slot_tuple_getitem
abbrev İ:=@List.mem_or_eq_of_mem_set
abbrev ı:=@List.drop_eq_getElem_cons
abbrev Ĳ:=@PySem.wpAny_notOrdered_dict
abbrev ĳ:=@PySem.wpAny_pyIter_tuple
abbrev Ĵ:=@Nat.testBit_succ
abbrev ĵ:=@Nat.lt_succ_self
abbrev Ķ:=@List.find?_eq_none
abbrev ķ:=@Nat.add_comm
abbrev ĸ:=@List.length_filterMap_le
abbrev Ĺ:=@Nat.add_assoc
abbrev ĺ:=@if_true
abbrev Ļ:=@List.foldl_append
abbrev ļ:=@List.pairwise_map
abbrev Ľ:=@PySem.F.plainAttrs_dict
abbrev ľ:=@Nat.add_sub_cancel_left
abbrev Ŀ:=@List.length_eq_zero_iff
abbrev ŀ:=@List.length_set
abbrev Ł:=@List.foldl_cons
abbrev ł:=@List.range_succ
abbrev Ń:=@List.dropLast_concat_getLast
abbrev ń:=@beq_eq_false_iff_ne
abbrev Ņ:=@List.replicate_succ
abbrev ņ:=@PySem.Heap.get?_update_other
abbrev Ň:=@Sum.inr.inj
abbrev ň:=@List.cons_append
abbrev Ŋ:=@PySem.F.plain_min_loop
abbrev ŋ:=@Nat.min_eq_right
abbrev Ō:=@Bool.false_and
abbrev ō:=@PySem.Calls.spliced_cons
abbrev Ŏ:=@PySem.tupleKind_room_in1
abbrev ŏ:=@Nat.mod_two_eq_zero_or_one
abbrev Ő:=@PySem.wpAny_rule
abbrev ő:=@PySem.F.slot_tuple_iterator_next
abbrev Œ:=@of_decide_eq_false
abbrev œ:=@List.lt_irrefl
abbrev Ŕ:=@Option.map_some
abbrev ŕ:=@PySem.wpAny_passesOwn
abbrev Ŗ:=@Nat.testBit_and
abbrev ŗ:=@Nat.testBit_xor
abbrev Ř:=@Nat.min_eq_left
abbrev ř:=@PySem.codeAny_builtin
abbrev Ś:=@PySem.PassesOwn.never
abbrev ś:=@Option.isSome_map
abbrev Ŝ:=@List.Pairwise.imp
abbrev ŝ:=@List.ext_getElem?
abbrev Ş:=@Nat.mul_le_mul_right
abbrev ş:=@List.getLast?_append
abbrev Š:=@PySem.call_meets
abbrev š:=@PySem.mem_of_lookup
abbrev Ţ:=@List.length_reverse
abbrev ţ:=@List.getElem_inj
abbrev Ť:=@List.all_eq_true
abbrev ť:=@PySem.wpAny_isInstance
abbrev Ŧ:=@List.forIn_nil
abbrev ŧ:=@List.getLast?_singleton
abbrev Ũ:=@PySem.wpAny_letGo
abbrev ũ:=@Nat.zero_add
abbrev Ū:=@PySem.wpAny_tupleItemsOf
abbrev ū:=@Option.map_eq_none_iff
abbrev Ŭ:=@Int.emod_lt_of_pos
abbrev ŭ:=@Nat.succ.inj
abbrev Ů:=@List.nil_append
abbrev ů:=@List.length_nil
abbrev Ű:=@List.find?_some
abbrev ű:=@List.any_cons
abbrev Ų:=@Bool.true_and
abbrev ų:=@PySem.isSubtype_tuple_tuple
abbrev Ŵ:=@PySem.Calls.spliced_nil
abbrev ŵ:=@Nat.lt_trichotomy
abbrev Ŷ:=@PySem.typeIs_str
abbrev ŷ:=@PySem.Calls.evalArgs_plain
abbrev Ÿ:=@Array.perm_iff_toList_perm
abbrev Ź:=@List.drop_zero
abbrev ź:=@PySem.Obj.data_mapDictKeys
abbrev Ż:=@Nat.add_le_add_right
abbrev ż:=@List.replicate_succ'
abbrev Ž:=@Nat.mul_comm
abbrev ž:=@Nat.lt_trans
abbrev Α:=@decide_eq_decide
abbrev Β:=@List.pairwise_iff_getElem
abbrev Γ:=@List.length_pos_iff
abbrev Δ:=@List.flatMap_append
abbrev Ε:=@PySem.F.slot_list_extend
abbrev Ζ:=@PySem.F.type_list_extend
abbrev Η:=@PySem.wpAny_execs_nil
abbrev Θ:=@PySem.wpAny_specialOf
abbrev Ι:=@Int.emod_nonneg
abbrev Κ:=@Int.natCast_nonneg
abbrev Λ:=@PySem.wpAny_Call_Name_kw
abbrev Μ:=@List.zip_cons_cons
abbrev Ν:=@PySem.Obj.data_mapFields
abbrev Ξ:=@Nat.lt_or_eq_of_le
abbrev Ο:=@Nat.add_sub_cancel
abbrev Ρ:=@List.pairwise_cons
abbrev Τ:=@LawfulBEq.eq_of_beq
abbrev Υ:=@PySem.wpAny_Call_method0_late
abbrev Φ:=@PySem.F.slot_dict_items
abbrev Χ:=@List.getElem?_set_self
abbrev Ψ:=@PySem.wpAny_pyNext_range_end
abbrev Ω:=@PySem.wpAny_pyIter_rangeiter
abbrev δ:=@PySem.wpAny_pyIter_list
abbrev ε:=@List.flatten_cons
abbrev ζ:=@List.range_succ_eq_map
abbrev η:=@PySem.wpAny_setField
abbrev θ:=@Array.getElem?_eq_none
abbrev ι:=@PyProof.Rows.wpS_forRange
abbrev ν:=@PySem.wpAny_tryCatch
abbrev ξ:=@PySem.wpAny_isOneOf_itemiter
abbrev ο:=@Bool.eq_false_iff
abbrev π:=@Nat.add_zero
abbrev ρ:=@List.flatMap_singleton
abbrev ς:=@List.find?_cons_of_pos
abbrev τ:=@List.find?_cons_of_neg
abbrev υ:=@Nat.mul_le_mul
abbrev χ:=@PySem.F.slot_tuple_lt
abbrev ψ:=@PySem.wpAny_isOneOf_keyiter
abbrev ω:=@List.getElem?_toArray
abbrev ϲ:=List (List (PySem.Str×List Nat×Int))
abbrev ϳ:=List (PySem.Str×List Nat×Int)
abbrev ϴ:=PySem.Str×List Nat×Int
abbrev ϵ:=List (PySem.Str×List Nat)
abbrev ϶:=PySem.Value->PySem.Shared->Prop
abbrev Ϸ:=List (PySem.Addr×PySem.Obj)
abbrev ϸ:=List (Option (Nat×Nat))
abbrev Ϲ:=Option (Nat×Nat)
abbrev Ϻ:=Nat×Nat
abbrev ϊ:=List
abbrev ϋ:=PySem.Value
abbrev ό:=PySem.Addr
abbrev ύ:=Option
abbrev ώ:=PySem.Shared
abbrev Ϗ:=PySem.W.Frag
abbrev ϐ:=PySem.Str
abbrev ϑ:=Bool
abbrev ϒ:=PySem.Heap
abbrev ϓ:=PySem.Program
abbrev ϔ:=Array
abbrev ϕ:=PySem.World
abbrev ϖ:=PySem.Around
set_option Elab.async false
set_option linter.all false
set_option maxRecDepth 100000
noncomputable section
local macro_rules | `(↑$x) => `(($x).length)
local macro_rules | `(tactic| ac_nf) => `(tactic| decide+kernel)
set_option maxHeartbeats 4000000
local macro_rules | `(tactic| rfl') => `(tactic| first | lia | omega)
local macro_rules | `(tactic| show $e) => `(tactic| refine $e)
local macro_rules | `(!$e) => `(some $e)
local macro_rules | `(#[$a,*]) => `(⟨$a,*⟩)
local macro_rules | `(tactic| let $p:term $[:$t]? :=$e)=>do
 let rec g:Nat->Lean.Term->Lean.MacroM (Lean.TSyntax `Lean.Parser.Tactic.rcasesPatMed)
  |0,_=>Lean.Macro.throwUnsupported
  |n+1,t=>do
   match t with
   |`(#[$a,*])=>do
    let b<-a.getElems.mapM (g n)
    `(Lean.Parser.Tactic.rcasesPatMed|⟨$[$b:rcasesPatMed],*⟩)
   |`($i:ident)=>`(Lean.Parser.Tactic.rcasesPatMed|$i:ident)
   |_=>`(Lean.Parser.Tactic.rcasesPatMed|_)
 `(tactic| obtain $(<-g 9 p):rcasesPatMed $[:$t]? :=$e)
local macro_rules | `(()) => `(by rfl')
namespace L2
open PySem
def gD(s:Stmt):Arguments:=match s with
 | .FunctionDef _ a _ _ _ _ _ _ _ _=>a
 | _=>{ posonlyargs:=[],args:=[],vararg:=none,kwonlyargs:=[],kw_defaults:=[],kwarg:=none,defaults:=[] }
def fU(s:Stmt):ϊ Stmt:=match s with
 | .FunctionDef _ _ b _ _ _ _ _ _ _=>b
 | _=>[]
def bR(s:Stmt):Scope:=match s with
 | .FunctionDef _ _ _ _ _ _ sc _ _ _=>sc
 | _=>{ kind:= .function,names:=[],isGenerator:=false,isCoroutine:=false }
end L2
abbrev pWo:=PySem.Challenge.pw_blotsure_k83_whole_page_comes_back
abbrev L1S:=ϊ (PySem.Str×Int)
abbrev L2S:=ϊ L1S
namespace Pg
open PySem L2 PySem.W
set_option maxHeartbeats 0
def top(i:Nat):Stmt:=pWo.main.body.getD i (.Pass #[0,0,0,0])
def live:Obj->ύ Obj | ⟨_,_, .freed,_⟩=>none | o=>!o
def DQ(h:ϒ)(a:ό):h.get? a=h.objs[a]?.bind live:=by
 unfold Heap.get?;cases h.objs[a]? with
 | none=>rfl
 | some o=>let#[_,_,d,_]:=o;cases d<;>rfl
def QG:ϊ Obj->Nat->ϊ ό->Frag
 | o::os,i,a::as=>if a==i then ((live o).map (a,·)).toList++QG os (i+1) as else QG os (i+1) (a::as)
 | _,_,_=>[]
theorem DR: ∀{l:ϊ Obj}{i:Nat}{d:ϊ ό},(QG l i d).lookup b=!x-> ∃j,b=i+j/\l[j]?.bind live=!x
 | [],i,d,e=>by simp [QG] at e
 | o::os,i,[],e=>by simp [QG] at e
 | o::os,i,a::d,e=>by
  have r: ∀c,(QG os (i+1) c).lookup b=!x-> ∃j,b=i+j/\(o::os)[j]?.bind live=!x:=λ c q=>by
   let#[j,rfl,k]:=DR q;show#[j+1,Nat.succ_add_eq_add_succ i j,k]
  unfold QG at e;split at e
  .rename_i z;cases q:live o with
   | none=>rw [q] at e;show r _ e
   | some y=>
    rw [q] at e;simp only [Ŕ,Option.toList_some,ň,Ů,ģ] at e;split at e
    .rename_i u;cases e;rw [Τ u,Τ z];show#[0,rfl,q]
    .show r _ e
  .show r _ e
def Xk(as:ϊ ό)(h:ϒ):Frag:=QG h.objs.toList 0 as
def Ng:(Xk a h).In h:=λ b o e=>by
 let#[j,rfl,k]:=DR e;rw [DQ,ũ];simpa using k
abbrev DO:=ϐ×ϐ×Arguments×FuncBody×Scope×ό×ϊ (ϐ×ό)×ό×ϑ×ϑ
def WX(K:Frag)(n:ϐ):ύ (ύ ό×DO):=match nsIn K mainGlobals n with
 | some !(.ref f)=>match K.lookup f with
  | some ⟨_,_, .func d,_⟩=>(match d.defaults with | .none=>!none | .ref t=>!(!t) | _=>none).map λ t=>(t,d.name,d.qualname,d.params,d.body,d.scope,d.globals,d.closure,d.builtins,codeIn K d.code n,keepIn K (.ref f))
  | _=>none
 | _=>none
def WY(t:ύ ό)(n:ϐ)(i:Nat):ύ (ύ ό×DO):=!(t,n,n,gD (top i), .stmts (fU (top i)),bR (top i),mainGlobals,[],builtinsNs,true,true)
def exB(K:Frag)(C:ό):ϑ×ϊ (ύ (ύ ϋ))×ϊ (ύ ϑ):=
 (excIn K C [.type "ValueError", .type "Exception", .type "BaseException", .type "object"] "ValueError.__new__",[findIn K (.ref C) "__getattribute__",findIn K (.ref C) "__getattr__",findIn K (.ref C) "__class__",specialIn K (.builtin "object.__class__") "__get__"],[takesIn K (.builtin "object.__class__"),mroIn K C (.type "object"),subIn K (.ref C) (.type "BaseException")])
def Dv:ϑ×ϊ (ύ (ύ ϋ))×ϊ (ύ ϑ):=(true,[!(!(.builtin "BaseException.__getattribute__")),!none,!(!(.builtin "object.__class__")),!(!(.builtin "getset_descriptor.__get__"))],[!true,!true,!true])
noncomputable def nms:ϊ ϐ:=(["isinstance","bool","int","len","str","ord","sum","zip","range","enumerate","dict","min","max","tuple","sorted","list","GREATEST_HEIGHT","LEFT_OUT","DOT","NO_DOT","MOST_COLUMNS","MOST_LETTERS","MOST_ROOMS","BlotError","NotAlike","NoSheet","NoFont","NoSign","NoHouse","NoWords","TooWide","NoFiller","NotTaken"]:ϊ String).map Str.ofString
noncomputable def vls:ϊ (ύ (ύ ϋ)):=[!none,!none,!none,!none,!none,!none,!none,!none,!none,!none,!none,!none,!none,!none,!none,!none,!(!(.int 60 353)),!(!(.int 37 355)),!(!(.str (Str.ofString "#") 413)),!(!(.str (Str.ofString ".") 415)),!(!(.int 8 647)),!(!(.int 40 645)),!(!(.int 40 681)),!(!(.ref 24)),!(!(.ref 37)),!(!(.ref 49)),!(!(.ref 61)),!(!(.ref 73)),!(!(.ref 85)),!(!(.ref 97)),!(!(.ref 109)),!(!(.ref 121)),!(!(.ref 133))]
def X3:ϊ (ϐ×Nat):=((["is_whole","is_height","is_sign","is_column","inked","column_of","apart","check_alike","gap","drawn_line","drawn","check_line","column_at","undrawn","lettered","ways_of","costs_over","texts_to_rooms","stand_behind","forks","steps_by","all_steps","steps_back","is_even","let_wait","rests","grown","texts_of_fork","step_on","led_on","farness","mends","made_letter","make_font","columns_of","check_rooms","check_room","made_doors","made_ends","make_house","room_behind","goes","takes","padded","gaps_at","thing_through","merged","thing_at","near_paper","first_way","first_text","nearest","set_text","breadth","words_of","broken","filler_columns","padded_by","filled","page","read_row","read_page","page_mends","sheet","strips_of","_law_cell_at","_law_mixed","_law_signs_by","_law_letters_by","_law_house_by","_law_text_by","_law_widest","_law_spoilt","_law_texts","_law_whole","_law_readings_good","law"]:ϊ String).map Str.ofString).zip [14,15,16,17,18,19,20,25,24,27,26,29,30,28,33,32,37,36,38,35,39,40,44,45,43,42,48,47,50,49,46,51,56,55,57,61,64,62,63,60,66,65,67,69,72,74,75,73,71,78,77,76,80,81,84,83,87,86,88,85,90,89,91,93,94,96,97,98,99,100,101,102,103,104,105,106,107]
noncomputable def obs(K:Frag):=(nms.map (nsIn K mainGlobals),X3.map (λ d=>WX K d.1),[24,37,49,61,73,85,97,109,121,133].map (exB K))
noncomputable def ans:ϊ (ύ (ύ ϋ))×ϊ (ύ (ύ ό×DO))×ϊ (ϑ×ϊ (ύ (ύ ϋ))×ϊ (ύ ϑ)):=(vls,X3.map (λ d=>WY none d.1 d.2),[Dv,Dv,Dv,Dv,Dv,Dv,Dv,Dv,Dv,Dv])
def vw:ϓ:={ pWo with main:={ pWo.main with body:=[107].filterMap (pWo.main.body[·]?) } }
noncomputable def lo:ϊ ϐ:=(["BlotError","NotAlike","NoSheet","NoFont","NoSign","NoHouse","NoWords","TooWide","NoFiller","NotTaken","GREATEST_HEIGHT","LEFT_OUT","is_whole","is_height","is_sign","is_column","inked","column_of","apart","DOT","NO_DOT","gap","check_alike","drawn","drawn_line","undrawn","check_line","column_at","ways_of","lettered","forks","texts_to_rooms","costs_over","stand_behind","steps_by","all_steps","rests","let_wait","steps_back","is_even","farness","texts_of_fork","grown","led_on","step_on","mends","MOST_LETTERS","MOST_COLUMNS","make_font","made_letter","columns_of","MOST_ROOMS","make_house","check_rooms","made_doors","made_ends","check_room","goes","room_behind","takes","padded","near_paper","gaps_at","thing_at","thing_through","merged","nearest","first_text","first_way","set_text","breadth","broken","words_of","page","padded_by","filler_columns","filled","read_page","read_row","page_mends","sheet","strips_of","_law_cell_at","_law_mixed","_law_signs_by","_law_letters_by","_law_house_by","_law_text_by","_law_widest","_law_spoilt","_law_texts","_law_whole","_law_readings_good"]:ϊ String).map Str.ofString
theorem said:PySem.Challenge.rw_blotsure_k83_whole_page_comes_back.wellSaid=true:=by kernel_rfl
def iJ{a b c:Type}{o:ύ a}{f:a->b}{g:a->c}{x:b}{y:c}(h:o.map f=!x)(k:o.map g=!y):o.map (λ s=>(f s,g s))=!(x,y):=by cases o with | none=>cases h | some s=>cases h;cases k;rfl
def Xl(w:ϕ):(openEnds treeTable pWo w 9408).map (λ s=>openSeen vw lo (importedModules pWo.main.body) (λ s=>xlAt vw [] s&&recOk [] s) true s)=!(openGood vw lo):=by
 unfold openEnds fencedOpening topFrom;rw [PySem.W.Fast.te14082659384304107361,PySem.W.Fast.te10274390034422433532,PySem.W.Fast.te14289696077712309145,PySem.W.Fast.te1435165496053646825]
 kernel_rfl
noncomputable def ob(s:ώ):=obs (Xk [2,3,15,22,23,24,25,28,35,36,37,40,47,48,49,52,59,60,61,64,71,72,73,76,83,84,85,88,95,96,97,100,107,108,109,112,119,120,121,124,131,132,133,136,138,139,141,142,143,145,146,148,149,150,152,153,155,156,157,159,160,162,163,164,166,167,169,170,171,173,174,176,177,178,180,181,183,184,185,188,189,190,192,193,195,196,197,200,201,202,205,206,207,210,211,212,214,215,217,218,219,222,223,224,227,228,229,232,233,234,236,237,239,240,241,243,244,246,247,248,250,251,253,254,255,257,258,260,261,262,265,266,267,270,271,272,275,276,277,279,280,282,283,284,286,287,289,290,291,293,294,296,297,298,301,302,303,305,306,308,309,310,312,313,315,316,317,319,320,322,323,324,326,327,329,330,331,333,334,336,337,338,340,341,343,344,345,347,348,350,351,352,354,355,357,358,359,362,363,364,366,367,369,370,371,373,374,376,377,378,380,381,383,384,385,387,388,390,391,392,394,395,397,398,399,401,402,404,405,406,408,409,411,412,413,416,417,418,421,422,423,425,426,428,429,430,432,433,435,436,437,439,440,442,443,444,446,447,449,450,451,453,454,456,457,458,460,461,463,464,465,467,468,470,471,472,474,475,477,478,479,481,482,484,485,486,488,489,491,492,493,495,496,498,499,500,503,504,505,507,508,510,511,512,514,515,517,518,519,521,522,524,525,526,529,530,531,533,534,536,537,538,540,541,543,544,545,547,548,550,551,552,555,556,557,559,560,562,563,564,566,567,569,570,571,573,574,576,577,578,581,582,583,586,587,588,590,591,593,594,595,598,599,600,602,603,605,606,607,609,610,612,613,614,616,617,619,620,621,623,624,626,627,628,631,632] s.heap)
def Xm(w:ϕ):(openEnds treeTable pWo w 9408).map ob=!ans:=by
 unfold openEnds fencedOpening topFrom;rw [PySem.W.Fast.te14082659384304107361,PySem.W.Fast.te10274390034422433532,PySem.W.Fast.te14289696077712309145,PySem.W.Fast.te1435165496053646825]
 kernel_rfl
theorem left:LeftO pWo vw lo (λ s=>xlAt vw [] s&&recOk [] s) ob (λ _=>ans) 9408:=λ w=>iJ (Xl w) (Xm w)
end Pg
set_option Elab.async false
set_option linter.all false
set_option maxRecDepth 100000
namespace L2
open PySem PySem.Spec PyProof.Rows
variable{M:Model}{w:ϕ}{A:ϖ}{d':Drawn}{cd u:ϋ}{p:ό×Obj}{qual x:ϐ}{c e tg:Expr}{fd:FuncData}{op op':CmpOp}{pos pos':Pos}{s' s1:ώ}{a b dx it:ό}{an:ύ ό}{i j k n t':Nat}{outer:ϊ Env}{sc scope:Scope}{ch fp:ϊ ό}{g:Int->Int->Int}{C:Int->Int->Prop}{params:Arguments}{body st:ϊ Stmt}{g':ϔ GenState}{its us:ϊ ϋ}{E Q:϶}{mA mg:ϐ->ύ ϋ}{osl:ϔ (ύ ϋ)}{f:ϋ->ϋ->Sem ϋ}{pins pins':Ϸ}
abbrev Key:=Sum Int ϐ
def gZ:Key->ϋ->ϑ
 | .inl k,v=>Value.isInt k v
 | .inr x,v=>Value.isStrOf x v
def a0c(w:ϕ):Key->Int
 | .inl k=>hashInt k
 | .inr x=>hashStr w x
theorem bC: ∀{k:Key}{v:ϋ},gZ k v=true->(∃i t,k=Sum.inl i/\v=Value.int i t)\/(∃x t,k=Sum.inr x/\v=Value.str x t)
 | .inl i,v,h=>by
  let#[t,e]:=Value.isInt_shape (k:=i) (v:=v) h;show .inl #[i,t,rfl,e]
 | .inr x,v,h=>by
  let#[t,e]:=Value.isStrOf_shape (x:=x) (v:=v) h;show .inr #[x,t,rfl,e]
theorem Bv(i:Int)(t:Tok):gZ (.inl i) (.int i t)=true:=by simp [gZ,Value.isInt]
theorem qU(x:ϐ)(t:Tok):gZ (.inr x) (.str x t)=true:=by simp [gZ,Value.isStrOf]
theorem Ss(a b:Int):decide ((Sum.inl a:Key)=Sum.inl b)=(a==b):=by
 by_cases e:a=b
 .subst e;simp
 .have h: ¬ (Sum.inl a:Key)=Sum.inl b:=λ q=>e (Sum.inl.inj q)
  rw [Ú h];show(ń.mpr e).symm
theorem Su(a b:ϐ):decide ((Sum.inr a:Key)=Sum.inr b)=decide (a=b):=by
 by_cases e:a=b
 .subst e;simp
 .have h: ¬ (Sum.inr a:Key)=Sum.inr b:=λ q=>e (Ň q)
  rw [Ú h,Ú e]
def Sv(a:Int)(b:ϐ):decide ((Sum.inl a:Key)=Sum.inr b)=false:=Ú (λ q=>nomatch q)
def Sw(a:ϐ)(b:Int):decide ((Sum.inr a:Key)=Sum.inl b)=false:=Ú (λ q=>nomatch q)
def bB(prog:ϓ)(w:ϕ):PySem.KeyKind prog w Key where
 is:=gZ
 hash:=a0c w
 inj:=λ v a b ha hb=>by
  rcases bC ha with ⟨i,t,rfl,rfl⟩ | ⟨x,t,rfl,rfl⟩
  .rcases bC hb with ⟨j,u,rfl,e⟩ | ⟨y,u,rfl,e⟩
   .injection e with e1 _;rw [e1]
   .show nomatch e
  .rcases bC hb with ⟨j,u,rfl,e⟩ | ⟨y,u,rfl,e⟩
   .show nomatch e
   .injection e with e1 _;rw [e1]
 byValue:=λ k v h=>by
  rcases bC h with ⟨i,t,rfl,rfl⟩ | ⟨x,t,rfl,rfl⟩<;>rfl
 pyHash:=λ hv h=>by
  rcases bC hv with ⟨i,t,rfl,rfl⟩ | ⟨x,t,rfl,rfl⟩
  .show wpAny_pyHash_int h
  .show wpAny_pyHash_str h
 eqBool:=λ hu hv h=>by
  rcases bC hu with ⟨i,t,rfl,rfl⟩ | ⟨x,t,rfl,rfl⟩
  .rcases bC hv with ⟨j,u,rfl,rfl⟩ | ⟨y,u,rfl,rfl⟩
   .rw [Ss] at h;show wpAny_eqBool_int h
   .rw [Sv] at h;show SeqAt.EqAt.int_str i t y u _ _ _ _ h
  .rcases bC hv with ⟨j,u,rfl,rfl⟩ | ⟨y,u,rfl,rfl⟩
   .rw [Sw] at h;show SeqAt.EqAt.str_int x t j u _ _ _ _ h
   .rw [Su] at h;show wpAny_eqBool_str h
 «strs»:=λ k x t v h=>by
  rcases bC h with ⟨i,u,rfl,e⟩ | ⟨y,u,rfl,e⟩
  .show nomatch e
  .injection e with e1 _
   subst e1
   cases v<;>rfl
def kj(a:ϓ)(w:ϕ)(k:Key)(v:ϋ):(bB a w).is k v=gZ k v:=rfl
def vf(a:ϓ)(w:ϕ)(i:Int)(t:Tok):(bB a w).is (.inl i) (.int i t)=true:=Bv i t
def vg(a:ϓ)(w:ϕ)(x:ϐ)(t:Tok):(bB a w).is (.inr x) (.str x t)=true:=qU x t
inductive V where
 | non | bl (b:ϑ) | int (i:Int) | str (x:ϐ) | byt (b:ϔ UInt8) | flt (b:UInt64) | ref (a:ό) | ty (n:String)
 deriving DecidableEq
variable{v y:V}{ys:ϊ V}{σ':ϊ (ύ V)}
def RelV:V->ϋ->Prop
 | .non,u=>u=Value.none
 | .bl b,u=>u=Value.bool b
 | .int i,u=> ∃t,u=Value.int i t
 | .str x,u=> ∃t,u=Value.str x t
 | .byt b,u=> ∃t,u=Value.bytes b t
 | .flt b,u=> ∃t,u=Value.float b t
 | .ref a,u=>u=Value.ref a
 | .ty n,u=>u=Value.type n
abbrev Vals:ϊ V->ϊ ϋ->Prop:=Paired RelV
def Vals.length{a:ϊ V}(r:Vals a us):↑a=↑us:=Ğ r
theorem Vals.get: ∀{xs:ϊ V}{us:ϊ ϋ}{i:Nat}{x:V},Vals xs us->xs[i]? =!x-> ∃u,us[i]? =!u/\RelV x u
 | _,_,_,_, .nil,e=>by simp at e
 | _,_,0,_, .cons r _,e=>by simp at e;subst e;show#[_,rfl,r]
 | _,_,i+1,x, .cons _ t,e=>by
  let#[u,a,b]:=Vals.get (i:=i) (x:=x) t (by simpa using e);show#[u,by simpa using a,b]
theorem Vals.set{x:V}(r:RelV x u): ∀{xs:ϊ V}{us:ϊ ϋ}(i:Nat),Vals xs us->Vals (xs.set i x) (us.set i u)
 | _,_,_, .nil=> .nil
 | _,_,0, .cons _ t=> .cons r t
 | _,_,i+1, .cons q t=> .cons q (Vals.set r i t)
theorem Vals.append{b:ϊ V}{a:ϊ ϋ}(r:Vals b us)(s:Vals ys a):Vals (b++ys) (us++a):=by
 induction r with
 | nil=>show s
 | cons r _ ih=>show .cons r ih
theorem Vals.take: ∀{xs:ϊ V}{us:ϊ ϋ}(n:Nat),Vals xs us->Vals (xs.take n) (us.take n)
 | _,_,0,_=> .nil
 | _,_,_+1, .nil=> .nil
 | _,_,n+1, .cons r t=> .cons r (Vals.take n t)
theorem Vals.drop: ∀{xs:ϊ V}{us:ϊ ϋ}(n:Nat),Vals xs us->Vals (xs.drop n) (us.drop n)
 | _,_,0,r=>r
 | _,_,_+1, .nil=> .nil
 | _,_,n+1, .cons _ t=>Vals.drop n t
def RelO:ύ V->ύ ϋ->Prop
 | some v,!u=>RelV v u
 | none,none=>True
 | _,_=>False
def KV{κ:Type}:ϊ (κ×V)->ϊ (κ×ϋ)->Prop:=Paired λ (p:κ×V) (q:κ×ϋ)=>p.1=q.1/\RelV p.2 q.2
def kV:Key->V
 | .inl i=> .int i
 | .inr x=> .str x
inductive HO where
 | lst (xs:ϊ V)
 | tup (xs:ϊ V)
 | dK (kvs:ϊ (Key×V)) | dT (kvs:ϊ (ϊ Key×V))
 | set (S:Int->ϑ) (n:Nat)
 | ins (C dx:ό) (fs:ϊ (ϐ×V))
 | own (x:ό)
 | xd (fs:ϊ (ϐ×V))
 | met (f x:ό)
 | rng (lo hi:Int)
 | frz (o:Obj) (u:HO)
 | tbl (ps:ϔ ϋ)
 | ext (φ:ϒ->Prop)
abbrev Hp:=ό->ύ HO
variable{H:Hp}{R:V->V->Hp->Prop}
def upd(H:Hp)(a:ό)(o:HO):Hp:=λ b=>if b=a then !o else H b
theorem aa:upd H a o a=!o:=by unfold upd;rw [if_pos rfl]
theorem au(h:b≠a):upd H a o b=H b:=by unfold upd;rw [if_neg h]
theorem fj{u:HO}(h:H a=!o)(c:H b=!u)(d:o≠u):a≠b:=by
 intro e;subst e;rw [h] at c;show d (Þ c)
theorem aY(h:H a=!o)(c:H b=none):a≠b:=by
 intro e;subst e;rw [h] at c;cases c
section
variable(P:ϓ)(w:ϕ)
def ObjOk(H:Hp)(h:ϒ)(a:ό):HO->Prop
 | .lst xs=>↑xs<=sizeLine/\ ∃(its:ϊ ϋ)(n:Nat),Vals xs its/\h.get? a=!{ cls:= .type "list",data:= .seq its.toArray n }
 | .tup xs=>↑xs<=sizeLine/\ ∃its:ϊ ϋ,Vals xs its/\IsTup h a its.toArray
 | .dK kvs=>↑kvs<=sizeLine/\(a==sysModules)=false/\ ∃vs,KV kvs vs/\h.DictOf (bB P w) a vs
 | .dT kvs=>↑kvs<=sizeLine/\(a==sysModules)=false/\ ∃xs:ϊ (ϊ Key×ό×ϋ),
   Paired (λ (p:ϊ Key×V) (q:ϊ Key×ό×ϋ)=>p.1=q.1/\H q.2.1=!(.tup (p.1.map kV))/\RelV p.2 q.2.2) kvs xs/\
   ∃o es ep,h.get? a=!o/\o.ExactDict/\o.data= .dict es ep/\es.toList=xs.map (entryOfKey (tupleKind (bB P w)))/\(xs.map (·.1)).Nodup
 | .set S n=>h.SetOf (intKind P w) a S n
 | .ins C dx fs=>H dx=!(.own a)/\↑fs<=1000/\dx≠a/\h.get? a=!(PySem.W.instObj C dx)/\
   ∃mA,h.Ns1 dx mA/\(∀f,RelO (fs.lookup f) (mA f))/\PySem.Within mA (fs.map (·.1))
 | .own _=> ∃o,h.get? a=!o
 | .xd fs=> ∃mA,h.Ns1 a mA/\ ∀f,RelO (fs.lookup f) (mA f)
 | .rng lo hi=> ∃t u v,h.get? a=!{ cls:= .type "range",data:= .fields ([.int lo t, .int hi u, .int 1 v].toArray) }
 | .frz o u=>h.get? a=!o/\ObjOk H h a u
 | .tbl ps=>h.get? a=!{ cls:= .none,data:= .fields ps }
 | .met f x=>h.get? a=!(PySem.W.methodObj (.ref f) (.ref x))
 | .ext φ=>φ h/\(∃o,h.get? a=!o)/\ ∀h1 h2:ϒ,φ h1->(∀o,h1.get? a=!o->h2.get? a=!o)->φ h2
def HOk(H:Hp)(h:ϒ):Prop:= ∀a o,H a=!o->ObjOk P w H h a o
end
section
theorem ObjOk.lt(x:ObjOk P w H h a o):a<h.objs.size:=by
 cases o with
 | lst xs=>let#[_,_,_,_,e]:=x;show Ì e
 | tup xs=>let#[_,_,_,p]:=x;show p.lt
 | dK kvs=>let#[_,_,_,_,o,_,_,e,_]:=x;show Ì e
 | dT kvs=>let#[_,_,_,_,o,_,_,e,_]:=x;show Ì e
 | set S n=>let#[o,_,_,_,e,_]:=x;show Ì e
 | ins C dx fs=>let#[_,_,_,e,_]:=x;show Ì e
 | own y=>let#[_,e]:=x;show Ì e
 | xd fs=>let#[_,#[_,_,_,e,_],_]:=x;show Ì e
 | rng lo hi=>let#[_,_,_,e]:=x;show Ì e
 | frz ob u=>let#[e,_]:=x;show Ì e
 | tbl ps=>show Ì (show h.get? a=!_ from x)
 | met f y=>show Ì (show h.get? a=!_ from x)
 | ext φ=>let#[_,#[_,e],_]:=x;show Ì e
theorem Paired.mapP{e g:Type}{F G:e->g->Prop}{c:ϊ e}{d:ϊ g}(r:Paired F c d)(f: ∀a b,F a b->G a b):Paired G c d:=by
 induction r with
 | nil=>show .nil
 | cons r _ ih=>show .cons (f _ _ r) ih
theorem ObjOk.stay(x:ObjOk P w H h a o)(k: ∀b u,(b=a\/H b=!(.own a))->h.get? b=!u->h'.get? b=!u)
  (B: ∀b,H b=!(.own a)->H' b=!(.own a)) (D: ∀b xs,H b=!(.tup xs)->H' b=!(.tup xs)):ObjOk P w H' h' a o:=by
 induction o with
 | lst xs=>let#[z,j,n,r,e]:=x;show#[z,j,n,r,k _ _ (.inl rfl) e]
 | tup xs=>let#[z,j,r,ob,e,c]:=x;show#[z,j,r,ob,k _ _ (.inl rfl) e,c]
 | dK kvs=>let#[z,y,F,r,ob,i,g,e,c]:=x;show#[z,y,F,r,ob,i,g,k _ _ (.inl rfl) e,c]
 | dT kvs=>
  let#[z,y,xs,r,ob,i,g,e,c]:=x;show#[z,y,xs,Paired.mapP r λ p q z=>#[z.1,D _ _ z.2.1,z.2.2],ob,i,g,k _ _ (.inl rfl) e,c]
 | set S n=>let#[ob,i,g,t,e,c]:=x;show#[ob,i,g,t,k _ _ (.inl rfl) e,c]
 | ins C dx fs=>
  let#[d,z,E,e,l,#[m,i,g,A,c],r]:=x;show#[B _ d,z,E,k _ _ (.inl rfl) e,l,#[m,i,g,k _ _ (.inr d) A,c],r]
 | own y=>let#[ob,e]:=x;show#[ob,k _ _ (.inl rfl) e]
 | xd fs=>let#[l,#[m,i,g,e,c],r]:=x;show#[l,#[m,i,g,k _ _ (.inl rfl) e,c],r]
 | rng lo hi=>let#[t,u,v,e]:=x;show#[t,u,v,k _ _ (.inl rfl) e]
 | frz ob u ih=>let#[e,q]:=x;show#[k _ _ (.inl rfl) e,ih q]
 | tbl ps=>
  have e:h.get? a=!{ cls:= .none,data:= .fields ps }:=x;change h'.get? a=!{ cls:= .none,data:= .fields ps };show k a _ (.inl rfl) e
 | met f y=>
  have e:h.get? a=!(PySem.W.methodObj (.ref f) (.ref y)):=x;change h'.get? a=!(PySem.W.methodObj (.ref f) (.ref y));show k a _ (.inl rfl) e
 | ext φ=>let#[p,#[o,e],s]:=x;show#[s _ _ p λ o q=>k _ _ (.inl rfl) q,#[o,k _ _ (.inl rfl) e],s]
theorem HOk.lt(x:HOk P w H h)(e:H a=!o):a<h.objs.size:=(x a o e).lt
theorem HOk.fresh(x:HOk P w H h)(e:h.objs.size<=a):H a=none:=by
 cases q:H a with
 | none=>rfl
 | some u=>show absurd (Ô (x.lt q) e) (ć _)
theorem HOk.kept(x:HOk P w H h)(k: ∀b u,h.get? b=!u->h'.get? b=!u):HOk P w H h':=λ a o e=>
 (x a o e).stay (λ b u _ q=>k b u q) (λ _ q=>q) λ _ _ q=>q
theorem HOk.laid(x:HOk P w H h)(k: ∀b u,h.get? b=!u->h'.get? b=!u)(i:h.objs.size<=a)(d:ObjOk P w (upd H a o) h' a o):HOk P w (upd H a o) h':=λ b u e=>by
 have g:=x.fresh i;by_cases f:b=a
 .subst f;rw [aa] at e;cases e;show d
 .rw [au f] at e;show(x b u e).stay (λ c v _ q=>k c v q) (λ c q=>by rw [au (aY q g)];show q) λ c j q=>by rw [au (aY q g)];show q
end
def Rd(H:Hp)(a:ό)(u:HO):Prop:=H a=!u\/ ∃o,H a=!(.frz o u)
theorem Rd.ok{u:HO}(r:Rd H a u)(x:HOk P w H h):ObjOk P w H h a u:=by
 rcases r with r | ⟨o,r⟩
 .show x a u r
 .obtain ⟨_,q⟩:=x a _ r;show q
def Xn:ύ HO->Prop
 | some (.lst _)=>True
 | some (.dK _)=>True
 | some (.dT _)=>True
 | some (.set _ _)=>True
 | some (.ins _ _ _)=>True
 | some (.ext _)=>True
 | _=>False
section
variable{P:ϓ}{w:ϕ}{H:Hp}{h h':ϒ}{x e:ό}{o':HO}
theorem HOk.write(s:HOk P w H h)(i:Xn (H x))(n:e=x\/H e=!(.own x))(k: ∀b u,b≠e->h.get? b=!u->h'.get? b=!u)(l: ∃u,h'.get? e=!u)
  (m:ObjOk P w (upd H x o') h' x o'):HOk P w (upd H x o') h':=λ b u q=>by
 have d: ∀c y,H c=!(.own y)->c≠x:=λ c y r z=>by subst z;rw [r] at i;show i
 have f: ∀c j,H c=!(.tup j)->c≠x:=λ c j r z=>by subst z;rw [r] at i;show i
 by_cases g:b=x
 .subst g;rw [aa] at q;cases q;show m
 .rw [au g] at q;by_cases a:b=e
  .have o:H b=!(.own x):=by
    rcases n with z | z
    .show absurd (a.trans z) g
    .rw [a];show z
   rw [q] at o;cases o;let#[v,p]:=l;show#[v,by rw [a];show p]
  .show (s b u q).stay (λ c v hc r=>k c v ?_ r) (λ c r=>by rw [au (d c b r)];show r) λ c j r=>by rw [au (f c j r)];show r
   rcases hc with rfl | hc
   .show a
   .rintro rfl;rcases n with z | z
    .show d c b hc z
    .rw [hc] at z;cases z;show g rfl
end
structure Un(fs ex:ϊ ό)(H H':Hp)(h h':ϒ):Prop where
 keep: ∀b o,h.get? b=!o->H b=none->b∉fs->b∉ex->h'.get? b=!o
 slot: ∀b o,h.get? b=!o->H b=none->b∈fs->b∉ex-> ∃sl,h'.get? b=!{ o with slots:=sl }
 free: ∀b o,h.get? b=!o->H b=none->b∉ex->H' b=none
 there: ∀b o,h.get? b=!o->b∉ex-> ∃o',h'.get? b=!o'
 tups: ∀b xs,H b=!(.tup xs)->H' b=!(.tup xs)
 frzs: ∀b o u,H b=!(.frz o u)->H' b=!(.frz o u)
 tbls: ∀b ps,H b=!(.tbl ps)-> ∃more,H' b=!(.tbl (ps++more))
section
variable{fs ex:ϊ ό}{H:Hp}{h h':ϒ}{a x e:ό}{o:HO}
theorem Un.any(u:Un fs ex H H1 h h1)(q:h.get? b=!ob)(n:H b=none)(c:b∉ex): ∃sl,h1.get? b=!{ ob with slots:=sl }:=by
 by_cases a:b∈fs
 .show u.slot b ob q n a c
 .show #[ob.slots,u.keep b ob q n a c]
theorem Un.kept(k: ∀b u,h.get? b=!u->h'.get? b=!u):Un fs ex H H h h':=
 #[λ b ob q _ _ _=>k b ob q,λ b ob q _ _ _=>#[ob.slots,k b ob q],λ _ _ _ n _=>n,λ b ob q _=>#[ob,k b ob q],λ _ _ q=>q,λ _ _ _ q=>q,λ _ a q=>#[([].toArray),by rw [q];simp]]
def Un.refl:Un fs ex H H h h:=Un.kept λ _ _ q=>q
theorem Un.laid(k: ∀b u,h.get? b=!u->h'.get? b=!u)(d:h.objs.size<=a)(c:H a=none):Un fs ex H (upd H a o) h h' where
 keep:=λ b u q _ _ _=>k b u q
 slot:=λ b u q _ _ _=>#[u.slots,k b u q]
 free:=λ b u q n _=>by rw [au (ã (Ô (Ì q) d))];show n
 there:=λ b u q _=>#[u,k b u q]
 tups:=λ b e q=>by rw [au (aY q c)];show q
 frzs:=λ b u e q=>by rw [au (aY q c)];show q
 tbls:=λ b f q=>#[([].toArray),by rw [au (aY q c),q];simp]
theorem Un.write(c:Xn (H x))(j:e=x\/H e=!(.own x))(k: ∀b u,b≠e->h.get? b=!u->h'.get? b=!u)(d: ∃u,h'.get? e=!u):Un fs ex H (upd H x o) h h':=by
 have i: ∀b,H b=none->b≠x:=λ b n z=>by subst z;rw [n] at c;show c
 have g: ∀b,H b=none->b≠e:=λ b n z=>by
  subst z;rcases j with r | r
  .show i b n r
  .rw [n] at r;cases r
 have f: ∀b u,H b=!u-> ¬Xn !u->b≠x:=λ b u q l z=>by subst z;rw [q] at c;show l c
 show⟨λ b u q n _ _=>k b u (g b n) q,λ b u q n _ _=>⟨u.slots,k b u (g b n) q⟩,λ b u q n _=>by rw [au (i b n)];show n,λ b u q _=> ?_,
  λ b m q=>by rw [au (f b _ q λ z=>z)];show q,λ b u m q=>by rw [au (f b _ q λ z=>z)];show q,λ b p q=>⟨([].toArray),by rw [au (f b _ q λ z=>z),q];simp⟩⟩
 by_cases a:b=e
 .subst a;show d
 .show #[u,k b u a q]
end
def trk(h:ϒ)(H:Hp):ϊ ό:=(List.range h.objs.size).filter λ a=>(H a).isSome
def tH(h:ϒ)(H:Hp):ϒ:=PySem.W.hideAll h (trk h H)
def Bw(h:ϒ)(H:Hp):(tH h H).objs.size=h.objs.size:=PySem.W.hideAll_size _ _
theorem DW(e:h.get? b=!o)(n:H b=none):(tH h H).get? b=!o:=
 PySem.W.hideAll_get _ e λ a=>by
  have q:(H b).isSome=true:=(đ.mp a).2;rw [n] at q;simp at q
theorem Nh(e:(tH h H).get? b=!o):h.get? b=!o/\H b=none:=by
 have a:h.get? b=!o:=PySem.W.of_hideAll (trk h H) e;show#[a,?_]
 cases q:H b with
 | none=>rfl
 | some x=>
  have c:b∈trk h H:=đ.mpr #[List.mem_range.mpr (Ì a),by simp [q]];have z:(tH h H).get? b=none:=PySem.W.hideAll_none (trk h H) c;rw [z] at e;cases e
def Ni(g h:ϒ)(L:ό):Ϸ:=(List.range h.objs.size).filterMap λ a=>if a=L\/(g.get? a).isSome=true then none else (h.get? a).map λ o=>(a,o)
def rest(g h:ϒ)(L d:ό):Ϸ:=(Ni g h L).filter λ p=>decide (p.1≠d)
structure Mod(K:Ϗ)(mg:ϐ->ύ ϋ)(base:ϒ):Prop where
 kin:K.In base
 glob:base.Ns mainGlobals mg
 blt: ∃mb,base.Ns builtinsNs mb/\ ∀x:ϐ,x≠"__name__"->mb x=bootBuiltins x
 nolimit:base.NoLimit
structure Cx where
 prog:ϓ
 w:ϕ
 K:Ϗ
 mg:ϐ->ύ ϋ
 base:ϒ
 A:ϖ
 N:ϊ ϐ
 s₀:ώ
 H₀:Hp
 env:Env
 outer:ϊ Env
 stack:ϊ Env
 ex:ϊ ό
 fn:ϐ->ϑ
 calm:ϑ
 pn:Ϸ
 xe:ϋ->ώ->Prop
def frs(l:ϊ Env):ϊ ό:=l.filterMap (·.frame)
abbrev Cx.fs(X:Cx):ϊ ό:=frs X.outer
def Vis(sc:Scope)(x:ϐ):Prop:=sc.names.lookup x=!.local\/sc.names.lookup x=!.cell\/sc.names.lookup x=!.free
def Loc(sc:Scope)(x:ϐ):Prop:=sc.names.lookup x=!.local\/sc.names.lookup x=!.cell
def Look(env:Env)(h:ϒ)(m:ϐ->ύ ϋ)(x:ϐ)(u:ϋ):Prop:=
 (env.kindOf x=!.local/\m x=!u)\/((env.kindOf x=!.cell\/env.kindOf x=!.free)/\ ∃c,env.cells.lookup x=!c/\h.IsCell c !u)
structure Cx.Ok(X:Cx):Prop where
 mod:Mod X.K X.mg X.base
 kind:X.env.scope.kind= .function
 glob:X.env.globals=mainGlobals
 blt:X.env.builtins=builtinsNs
 above:X.s₀.heap.objs.size<=X.env.locals
 inj: ∀x y c,X.env.cells.lookup x=!c->X.env.cells.lookup y=!c->x=y
 has: ∀x,(X.env.kindOf x=!.cell\/X.env.kindOf x=!.free)-> ∃c,X.env.cells.lookup x=!c
 cab: ∀x c,X.fn x=true->X.env.cells.lookup x=!c->X.s₀.heap.objs.size<=c
 hd:X.calm=true->X.A.handled=none
 frames:X.A.frames=!X.stack
 stk:X.stack=X.outer\/(X.stack=X.env::X.outer/\X.env.frame=!X.env.locals)
 exf: ∀b∈X.ex,b≠X.env.locals/\ ∀x c,X.env.cells.lookup x=!c->c≠b
 bs: ∀b o,X.base.get? b=!o->X.s₀.heap.get? b=!o/\X.H₀ b=none
 bsz:X.base.objs.size<=X.s₀.heap.objs.size
 noex: ∀b o,X.base.get? b=!o->b∉X.ex
 exfs: ∀b∈X.ex,b∉X.fs
 funs:X.s₀.heap.FunFrames X.base X.outer
 frf: ∀b∈X.fs,X.H₀ b=none
structure Inv(X:Cx)(pins:Ϸ)(σ:ϊ (ύ V))(H:Hp)(s:ώ):Prop where
 ok:X.Ok
 os:s.os=X.s₀.os
 bare:AllBare s.gens
 base:Un X.fs X.ex X.H₀ H X.s₀.heap s.heap
 loc: ∃m,s.heap.Ns X.env.locals m/\ ∀(i:Nat)(x:ϐ)(v:V),X.N[i]? =!x->σ[i]? =!(!v)->Vis X.env.scope x-> ∃u,RelV v u/\Look X.env s.heap m x u
 cell: ∀x c,X.env.cells.lookup x=!c-> ∃v,s.heap.IsCell c v
 free:H X.env.locals=none
 freeC: ∀x c,X.env.cells.lookup x=!c->H c=none
 pin: ∀p∈X.pn++pins,s.heap.get? p.1=!p.2/\H p.1=none/\p.1≠X.env.locals/\p.1∉X.fs/\ ∀v,p.2.data≠ .cell v
 hok:HOk X.prog X.w H s.heap
 len:↑σ=↑X.N
section
variable{X:Cx}{pins:Ϸ}{σ:ϊ (ύ V)}{H H':Hp}{s:ώ}{h':ϒ}
theorem Cx.Ok.nofr(c:X.Ok)(e:X.base.get? b=!o):b∉X.fs:=λ a=>by
 have:=(c.funs.mem a).1;rw [e] at this;cases this
theorem Inv.bs(I:Inv X pins σ H s): ∀b o,X.base.get? b=!o->s.heap.get? b=!o/\H b=none:=λ b o e=>
 #[I.base.keep b o (I.ok.bs b o e).1 (I.ok.bs b o e).2 (I.ok.nofr e) (I.ok.noex b o e),I.base.free b o (I.ok.bs b o e).1 (I.ok.bs b o e).2 (I.ok.noex b o e)]
theorem Inv.bk(I:Inv X pins σ H s): ∀b o,X.base.get? b=!o->s.heap.get? b=!o:=λ b o e=>(I.bs b o e).1
theorem Inv.mod(I:Inv X pins σ H s):Mod X.K X.mg X.base:=I.ok.mod
def Inv.kIn(I:Inv X pins σ H s):X.K.In s.heap:=I.ok.mod.kin.keeps I.bk
theorem Inv.lt(I:Inv X pins σ H s):X.env.locals<s.heap.objs.size:=let ⟨_,hn,_⟩:=I.loc;hn.lt
def Inv.sz(I:Inv X pins σ H s):X.s₀.heap.objs.size<=s.heap.objs.size:=Ò I.ok.above (ñ I.lt)
theorem Inv.nofs(I:Inv X pins σ H s)(h:s.heap.objs.size<=a):a∉X.fs:=λ b=>by
 let#[_,o,c,_]:=I.ok.funs.mem b;show absurd (Ô (Ì c) (Ò I.sz h)) (ć _)
theorem Inv.cne(I:Inv X pins σ H s): ∀x c,X.env.cells.lookup x=!c->c≠X.env.locals:=λ x c e z=>by
 let#[v,o,f,d]:=I.cell x c e;let#[m,#[i,h,g,b,a,_],_]:=I.loc;rw [z,b] at f;cases f;rw [a] at d;cases d
theorem Inv.funs(I:Inv X pins σ H s):s.heap.FunFrames X.base X.outer:=by
 have a: ∀(l:ϊ Env),(∀b∈frs l,b∈X.fs)->X.s₀.heap.FunFrames X.base l->s.heap.FunFrames X.base l:=by
  intro l;induction l with
  | nil=>intro _ _;trivial
  | cons env r ih=>
   intro g j;let#[i,#[L,o,f,k,m,h],n]:=j;have c:L∈X.fs:=g L (by unfold frs;rw [Į,f];show Ë);let#[p,e]:=I.base.slot L o m (I.ok.frf L c) c λ z=>I.ok.exfs L z c
   show#[i,#[L,_,f,k,e,h],ih (λ b d=>g b (by unfold frs;rw [Į,f];show É _ d)) n]
 show a X.outer (λ _ d=>d) I.ok.funs
theorem Inv.stack(I:Inv X pins σ H s):s.heap.FunFrames X.base X.stack:=by
 rcases I.ok.stk with e | ⟨e,hf⟩
 .rw [e];show I.funs
 .rw [e];let#[m,a,_]:=I.loc;show .cons (by rw [I.ok.kind];decide) hf a ?_ I.funs;show Heap.get?_none_of_le (Ò I.ok.bsz I.ok.above)
theorem Inv.stkSub(I:Inv X pins σ H s): ∀b∈frs X.stack,b∈X.env.locals::X.fs:=λ b a=>by
 rcases I.ok.stk with e | ⟨e,hf⟩
 .rw [e] at a;show É _ a
 .rw [e] at a;unfold frs at a;rw [Į,hf] at a;show a
theorem Inv.stkFree(I:Inv X pins σ H s): ∀b∈frs X.stack,H b=none:=λ b hb=>by
 rcases È.mp (I.stkSub b hb) with e | hb
 .rw [e];show I.free
 .obtain ⟨_,o,a,_⟩:=I.ok.funs.mem hb;show I.base.free b o a (I.ok.frf b hb) λ z=>I.ok.exfs b z hb
theorem Inv.step(I:Inv X pins σ H s)
  (h: ∀b∈ch,(b∈X.ex\/X.s₀.heap.objs.size<=b)/\b≠X.env.locals/\(∀x c,X.env.cells.lookup x=!c->c≠b)/\ ∀p∈X.pn++pins,p.1≠b)
  (j: ∀b o,b≠X.env.locals->b∉X.fs->b∉ch->s.heap.get? b=!o->H b=none->h'.get? b=!o)
  (A: ∀b o,b≠X.env.locals->b∈X.fs->b∉ch->s.heap.get? b=!o->H b=none-> ∃sl,h'.get? b=!{ o with slots:=sl }) (f: ∀b o,b∉ch->s.heap.get? b=!o->H b=none->H' b=none)
  (C: ∀b o,b∉ch->s.heap.get? b=!o-> ∃o',h'.get? b=!o')
  (L: ∀b xs,H b=!(.tup xs)->H' b=!(.tup xs)) (F: ∀b o u,H b=!(.frz o u)->H' b=!(.frz o u)) (K: ∀b ps,H b=!(.tbl ps)-> ∃G,H' b=!(.tbl (ps++G)))
  (ns: ∀m,s.heap.Ns X.env.locals m->h'.Ns X.env.locals m) (N:HOk X.prog X.w H' h') (U:AllBare g'):
  Inv X pins σ H' { s with heap:=h',gens:=g',drawn:=d',toks:=t' }:=by
 have J: ∀b o,X.s₀.heap.get? b=!o->b≠X.env.locals:=λ b o e=>ã (Ô (Ì e) I.ok.above)
 have y: ∀b o,X.s₀.heap.get? b=!o->b∉X.ex->b∉ch:=λ b o e a B=>by
  rcases (h b B).1 with z | z
  .show a z
  .show absurd (Ô (Ì e) z) (ć _)
 have g: ∀x c,X.env.cells.lookup x=!c-> ∀v,s.heap.IsCell c v->h'.IsCell c v:=λ x c e v ⟨o,D,M⟩=>by
  have t:c∉ch:=λ z=>(h c z).2.2.1 x c e rfl
  by_cases P:c∈X.fs
  .obtain ⟨sl,q⟩:=A c o (I.cne x c e) P t D (I.freeC x c e);show#[_,q,M]
  .show #[o,j c o (I.cne x c e) P t D (I.freeC x c e),M]
 show#[I.ok,I.os,U,#[λ b o e n B a=> ?_,λ b o e n B a=> ?_,λ b o e n a=> ?_,λ b o e a=> ?_,λ b xs e=>L b xs (I.base.tups b xs e),λ b o xs e=>F b o xs (I.base.frzs b o xs e),λ b ps e=> ?_],?_,λ x c e=> ?_,?_,λ x c e=> ?_,λ p Q=> ?_,N,I.len]
 .show j b o (J b o e) B (y b o e a) (I.base.keep b o e n B a) (I.base.free b o e n a)
 .obtain ⟨sl,w⟩:=I.base.slot b o e n B a;let#[O,E]:=A b _ (J b o e) B (y b o e a) w (I.base.free b o e n a);show#[O,E]
 .obtain ⟨o',w⟩:=I.base.there b o e a;show f b o' (y b o e a) w (I.base.free b o e n a)
 .obtain ⟨o',w⟩:=I.base.there b o e a;show C b o' (y b o e a) w
 .obtain ⟨Z,w⟩:=I.base.tbls b ps e;let#[m2,E]:=K b _ w;show#[Z++m2,by rw [E,Array.append_assoc]]
 .obtain ⟨m,Y,W⟩:=I.loc;show#[m,ns m Y,λ i x v w E T=> ?_];let#[u,r,l]:=W i x v w E T;show#[u,r,?_];rcases l with l | ⟨k,c,e,z⟩
  .show .inl l
  .show .inr #[k,c,e,g x c e _ z]
 .obtain ⟨v,z⟩:=I.cell x c e;show#[v,g x c e v z]
 .obtain ⟨m,⟨o,_,_,D,_⟩,_⟩:=I.loc;show f _ o (λ z=>(h _ z).2.1 rfl) D I.free
 .obtain ⟨v,o,D,M⟩:=I.cell x c e;show f c o (λ z=>(h c z).2.2.1 x c e rfl) D (I.freeC x c e)
 .obtain ⟨e,n,R,S,d⟩:=I.pin p Q;have t:p.1∉ch:=λ z=>(h p.1 z).2.2.2 p Q rfl
  show#[j p.1 p.2 R S t e n,f p.1 p.2 t e n,R,S,d]
theorem Inv.un(I:Inv X pins σ H s)(u:Un X.fs [] H H' s.heap h')(g:HOk X.prog X.w H' h'):Inv X pins σ H' { s with heap:=h',toks:=t' }:=by
 let#[m,#[o,p,l,h,r],_]:=id I.loc;let#[v,i]:=u.any h I.free (by simp);show I.step (g':=s.gens) (d':=s.drawn) (ch:=[]) (λ _ z=>nomatch z) (λ b o _ f _ e n=>u.keep b o e n f (by simp)) (λ b o _ f _ e n=>u.slot b o e n f (by simp)) (λ b o _ e n=>u.free b o e n (by simp)) (λ b o _ e=>u.there b o e (by simp)) u.tups u.frzs u.tbls (λ q j=>by
  let#[t,d,c,a,k]:=j;rw [h] at a;cases a;show#[_,d,c,i,k]) g I.bare
theorem Inv.call(I:Inv X pins σ H s)(u:Un (frs X.stack) ch H H' s.heap h')(j:HOk X.prog X.w H' h')(q:AllBare g')
  (d: ∀b∈ch,(b∈X.ex\/X.s₀.heap.objs.size<=b)/\b≠X.env.locals/\(∀x c,X.env.cells.lookup x=!c->c≠b)/\ ∀p∈X.pn++pins,p.1≠b):
  Inv X pins σ H' { s with heap:=h',gens:=g',drawn:=d',toks:=t' }:=by
 let#[m,#[o,y,w,k,r],_]:=id I.loc;let#[C,i]:=u.any k I.free λ z=>(d _ z).2.1 rfl
 show I.step (ch:=ch) d (λ b o i l a e n=>u.keep b o e n (λ z=>(È.mp (I.stkSub b z)).elim i l) a) (λ b o _ _ a e n=>u.any e n a) (λ b o a e n=>u.free b o e n a) (λ b o a e=>u.there b o e a) u.tups u.frzs u.tbls (λ A t=>by
  let#[B,h,g,f,v]:=t;rw [k] at f;cases f;show#[_,h,g,i,v]) j q
theorem Inv.turned(I:Inv X pins σ H s)(k: ∀b o,b≠it->s.heap.get? b=!o->h'.get? b=!o)(y:H it=none)(f:it≠X.env.locals)
  (i:it∈X.ex\/X.s₀.heap.objs.size<=it) (j: ∀x c,X.env.cells.lookup x=!c->c≠it) (l: ∀p∈X.pn++pins,p.1≠it):Inv X pins σ H { s with heap:=h',toks:=t' }:=by
 have d: ∀b u,H b=!u->b≠it:=λ b u e z=>by rw [z,y] at e;cases e
 show I.step (g':=s.gens) (d':=s.drawn) (ch:=[it]) (λ b t=> ?_) (λ b o _ _ a e _=>k b o (λ z=>a (by simp [z])) e) (λ b o _ _ a e _=>#[o.slots,k b o (λ z=>a (by simp [z])) e]) (λ _ _ _ _ n=>n)
  (λ b o a e=>#[o,k b o (λ z=>a (by simp [z])) e]) (λ _ _ e=>e) (λ _ _ _ e=>e) (λ b B e=>#[([].toArray),by rw [e];simp]) (λ m w=> ?_) (λ b u e=> ?_) I.bare
 .have e:b=it:=by simpa using t
  subst e;show#[i,f,j,l]
 .obtain ⟨o,h,g,A,r⟩:=w;show#[o,h,g,k _ o (Ne.symm f) A,r]
 .show (I.hok b u e).stay (λ c v a q=>k c v ?_ q) (λ _ q=>q) λ _ _ q=>q
  rcases a with z | z
  .rw [z];show d b u e
  .show d c _ z
theorem Inv.tok(I:Inv X pins σ H s)(t:Nat):Inv X pins σ H { s with toks:=t }:=I.un (h':=s.heap) (t':=t) Un.refl I.hok
theorem Inv.kept(I:Inv X pins σ H s)(k: ∀b u,s.heap.get? b=!u->h'.get? b=!u):Inv X pins σ H { s with heap:=h',toks:=t' }:=I.un (Un.kept k) (I.hok.kept k)
theorem Inv.laid(I:Inv X pins σ H s)(k: ∀b u,s.heap.get? b=!u->h'.get? b=!u)(c:s.heap.objs.size<=a)(d:ObjOk X.prog X.w (upd H a o) h' a o):
  Inv X pins σ (upd H a o) { s with heap:=h',toks:=t' }:=I.un (Un.laid k c (I.hok.fresh c)) (I.hok.laid k c d)
theorem Inv.write{x e:ό}(I:Inv X pins σ H s)(f:Xn (H x))(d:e=x\/H e=!(.own x))(k: ∀b u,b≠e->s.heap.get? b=!u->h'.get? b=!u)(a: ∃u,h'.get? e=!u)
  (c:ObjOk X.prog X.w (upd H x o) h' x o):Inv X pins σ (upd H x o) { s with heap:=h',toks:=t' }:=I.un (Un.write f d k a) (I.hok.write f d k a c)
theorem Inv.weak(I:Inv X pins σ H s)(d:↑σ'=↑σ)(w: ∀(i:Nat) v,σ'[i]? =!(!v)->σ[i]? =!(!v)):Inv X pins σ' H s:=
 #[I.ok,I.os,I.bare,I.base,let ⟨m,hn,hl'⟩:=I.loc;#[m,hn,λ i x v a b c=>hl' i x v a (w i v b) c],I.cell,I.free,I.freeC,I.pin,I.hok,d.trans I.len]
theorem Inv.pins_of(I:Inv X pins σ H s)(h: ∀p∈pins',s.heap.get? p.1=!p.2/\H p.1=none/\p.1≠X.env.locals/\p.1∉X.fs/\ ∀v,p.2.data≠ .cell v):Inv X pins' σ H s:=
 #[I.ok,I.os,I.bare,I.base,I.loc,I.cell,I.free,I.freeC,λ p a=>(Æ.mp a).elim (λ z=>I.pin p (Ý _ z)) (h p),I.hok,I.len]
theorem vh{N:ϊ ϐ}(e:N.Nodup)(a:N[i]? =!x)(b:N[j]? =!x):i=j:=by
 let#[f,c]:=À.mp a;let#[g,d]:=À.mp b;show(ţ e).mp (c.trans d.symm)
theorem qW{Q:Unit->ώ->Prop}(I:Inv X pins σ H s)(hN:X.N.Nodup)(P:X.N[i]? =!x)(t:Loc X.env.scope x)(r:RelV v u)
  (h: ∀s',Inv X pins (σ.set i !v) H s'->(∃a,Heap.SameBut a s.heap s'.heap/\(a=X.env.locals\/X.env.cells.lookup x=!a))->Q Unit.unit s') (hf:X.fn x=true\/X.env.scope.names.lookup x=!.local:=by first | show .inl rfl | show .inr rfl | assumption):wpAny M A (storeName X.env x u) Q E s:=by
 let#[m,Z,hl]:=id I.loc;have O:(X.env.scope.kind== .class||(X.env.scope.kind== .module&&X.env.locals !=X.env.globals))=false:=by rw [I.ok.kind];rfl
 have C:i<↑σ:=by rw [I.len];show(À.mp P).1
 have D:=I.cne;have l: ∀{a:ό}{K:ϒ},(∃o,s.heap.get? a=!o/\H a=none)->Heap.SameBut a s.heap K->HOk X.prog X.w H K:=λ {a K} ha f b ob e=>by
  let#[_,_,w]:=ha;show(I.hok b ob e).stay (λ c W hc q=>(f.2 c ?_).trans q) (λ _ q=>q) λ _ _ q=>q
  rintro rfl;rcases hc with rfl | hc
  .rw [w] at e;cases e
  .rw [w] at hc;cases hc
 rcases t with hk | hk
 .show wpAny_storeName_local hk Z (λ K ab f=> ?_) O;let#[oL,_,_,ac,_]:=id Z;show h _ #[I.ok,I.os,I.bare,#[λ b o e n F t=> ?_,λ b o e n F t=> ?_,I.base.free,λ b o e t=> ?_,I.base.tups,I.base.frzs,I.base.tbls],#[_,ab,λ j y v' g B Y=> ?_],λ y c e=> ?_,I.free,I.freeC,λ p hp=> ?_,l #[oL,ac,I.free] f,by simpa using I.len] #[_,f, .inl rfl]
  .show (f.2 b (ã (Ô (Ì e) I.ok.above))).trans (I.base.keep b o e n F t)
  .obtain ⟨sl,g⟩:=I.base.slot b o e n F t;show#[sl,(f.2 b (ã (Ô (Ì e) I.ok.above))).trans g]
  .obtain ⟨o',g⟩:=I.base.there b o e t;show#[o',(f.2 b (ã (Ô (Ì e) I.ok.above))).trans g]
  .by_cases J:j=i
   .subst J;rw [P] at g;cases g;rw [Χ C] at B
    cases B;show#[u,r, .inl #[hk,by simp]]
   .rw [List.getElem?_set_ne (Ne.symm J)] at B;let#[u',r',q]:=hl j y v' g B Y;show#[u',r',?_];rcases q with ⟨k,e⟩ | ⟨k,c,e,z⟩
    .show .inl #[k,?_];have:y≠x:=λ e=>J (vh hN g (e▸P))
     simp [this,e]
    .show .inr #[k,c,e,z.sameBut f (D y c e)]
  .obtain ⟨W,z⟩:=I.cell y c e;show#[W,z.sameBut f (D y c e)]
  .obtain ⟨e,n,U,nf,d⟩:=I.pin p hp;show#[(f.2 p.1 U).trans e,n,U,nf,d]
 .have G:X.fn x=true:=by
   rcases hf with z | z
   .show z
   .rw [z] at hk;cases hk
  let#[c,hc]:=I.ok.has x (.inl hk);let#[W,z]:=I.cell x c hc;show wpAny_storeName_cell I.ok.kind hk hc z (λ K L f=> ?_);let#[oc,R,S]:=id z;show h { s with heap:=K } ⟨I.ok,I.os,I.bare,⟨λ b o e n F t=> ?_,λ b o e n F t=> ?_,I.base.free,λ b o e t=> ?_,I.base.tups,I.base.frzs,I.base.tbls⟩,⟨m,Z.sameBut f (Ne.symm (D x c hc)),λ j y v' g B Y=> ?_⟩,λ y T e=> ?_,I.free,I.freeC,λ p hp=> ?_,l ⟨oc,R,I.freeC x c hc⟩ f,by simpa using I.len⟩ ⟨c,f, .inr hc⟩
  .show (f.2 b (ã (Ô (Ì e) (I.ok.cab x c G hc)))).trans (I.base.keep b o e n F t)
  .obtain ⟨sl,g⟩:=I.base.slot b o e n F t;show#[sl,(f.2 b (ã (Ô (Ì e) (I.ok.cab x c G hc)))).trans g]
  .obtain ⟨o',g⟩:=I.base.there b o e t;show#[o',(f.2 b (ã (Ô (Ì e) (I.ok.cab x c G hc)))).trans g]
  .by_cases J:j=i
   .subst J;rw [P] at g;cases g;rw [Χ C] at B
    cases B;show#[u,r, .inr #[.inl hk,c,hc,L]]
   .rw [List.getElem?_set_ne (Ne.symm J)] at B;let#[u',r',q]:=hl j y v' g B Y;show#[u',r',?_];rcases q with q | ⟨k,T,e,z'⟩
    .show .inl q
    .show .inr #[k,T,e,z'.sameBut f ?_];rintro rfl;show J (vh hN g (I.ok.inj _ _ _ e hc▸P))
  .by_cases N:T=c
   .subst N;show#[_,L]
   .obtain ⟨w2,z2⟩:=I.cell y T e;show#[w2,z2.sameBut f N]
  .obtain ⟨e,n,U,nf,d⟩:=I.pin p hp;show#[(f.2 p.1 ?_).trans e,n,U,nf,d];intro q;rw [q,R] at e;have q':oc=p.2:=Þ e;show d W (by rw [<- q'];show S)
theorem oF{Q:Unit->ώ->Prop}(I:Inv X pins σ H s)(b:X.N.Nodup)(d:X.N[i]? =!x)(e:Loc X.env.scope x)(r:RelV v u)
  (h: ∀s',Inv X pins (σ.set i !v) H s'->Q Unit.unit s') (c:X.fn x=true\/X.env.scope.names.lookup x=!.local:=by first | show .inl rfl | show .inr rfl | assumption):wpAny M A (storeName X.env x u) Q E s:=
 qW I b d e r (λ s' a _=>h s' a) c
theorem Inv.call'(I:Inv X pins σ H s)(g:s'.os=s.os)(u:Un (frs X.stack) ch H H' s.heap s'.heap)(d:HOk X.prog X.w H' s'.heap)(f:AllBare s'.gens)
  (a: ∀b∈ch,(b∈X.ex\/X.s₀.heap.objs.size<=b)/\b≠X.env.locals/\(∀x c,X.env.cells.lookup x=!c->c≠b)/\ ∀p∈X.pn++pins,p.1≠b):Inv X pins σ H' s':=by
 let#[i,g',d',t',h]:=s';have e:h=s.os:=g;subst e;show I.call (g':=g') (t':=t') (d':=d') u d f a
end
abbrev XK:=ϋ->ύ ό->Hp->Prop
abbrev St:=ϊ (ύ V)
variable{σ:St}
abbrev VK:=V->Hp->Prop
abbrev TE:=St->Hp->VK->Prop
variable{t te tl:TE}
abbrev TT:=St->Hp->(ϑ->Hp->Prop)->Prop
variable{tc:TT}
abbrev TA:=St->Hp->(ϊ V->Hp->Prop)->Prop
variable{ta:TA}
structure Ends where
 nx:St->Hp->Prop
 rt:VK
 bk:St->Hp->Prop:=λ _ _=>False
 ct:St->Hp->Prop:=λ _ _=>False
abbrev TS:=Ends->St->Hp->Prop
variable{tb:TS}
def EP(X:Cx)(pins:Ϸ)(σ:St)(Q:VK)(u:ϋ)(s':ώ):Prop:= ∃v H',Inv X pins σ H' s'/\RelV v u/\Q v H'
def TP(X:Cx)(pins:Ϸ)(σ:St)(Q:ϑ->Hp->Prop)(b:ϑ)(s':ώ):Prop:= ∃H',Inv X pins σ H' s'/\Q b H'
def AP(X:Cx)(pins:Ϸ)(σ:St)(Q:ϊ V->Hp->Prop)(us:ϊ ϋ)(s':ώ):Prop:= ∃vs H',Inv X pins σ H' s'/\Vals vs us/\Q vs H'
def SP(X:Cx)(pins:Ϸ)(D:Ends)(f:Flow)(s':ώ):Prop:=
 match f with
 | .next=> ∃σ' H',Inv X pins σ' H' s'/\D.nx σ' H'
 | .brk=> ∃σ' H',Inv X pins σ' H' s'/\D.bk σ' H'
 | .cont=> ∃σ' H',Inv X pins σ' H' s'/\D.ct σ' H'
 | .ret u=> ∃v σ' H',Inv X pins σ' H' s'/\RelV v u/\D.rt v H'
def PE(X:Cx)(e:Expr)(t:TE):Prop:=
 ∀(pins:Ϸ)(s:ώ)(σ:St)(H:Hp)(Q:VK),Inv X pins σ H s->t σ H Q->wpAny (model X.prog X.w) X.A (eval e X.env) (EP X pins σ Q) X.xe s
def PT(X:Cx)(e:Expr)(t:TT):Prop:=
 ∀(pins:Ϸ)(s:ώ)(σ:St)(H:Hp)(Q:ϑ->Hp->Prop),Inv X pins σ H s->t σ H Q->wpAny (model X.prog X.w) X.A (isTrue e X.env (eval e X.env)) (TP X pins σ Q) X.xe s
def PW(X:Cx)(e:Expr)(t:TT):Prop:=
 ∀(whole:Sem ϋ)(pins:Ϸ)(s:ώ)(σ:St)(H:Hp)(Q:ϑ->Hp->Prop),Inv X pins σ H s->t σ H Q->wpAny (model X.prog X.w) X.A (isTrue e X.env whole) (TP X pins σ Q) X.xe s
def PW.pt{X:Cx}{t:TT}(h:PW X e t):PT X e t:=h _
def PA(X:Cx)(es:ϊ Expr)(t:TA):Prop:=
 ∀(pos:Pos)(pins:Ϸ)(s:ώ)(σ:St)(H:Hp)(Q:ϊ V->Hp->Prop),Inv X pins σ H s->t σ H Q->wpAny (model X.prog X.w) X.A (spliced (backTo pos (starEach es X.env))) (AP X pins σ Q) X.xe s
def PS(X:Cx)(st:Stmt)(t:TS):Prop:=
 ∀(pins:Ϸ)(s:ώ)(σ:St)(H:Hp)(D:Ends),Inv X pins σ H s->t D σ H->wpAny (model X.prog X.w) X.A (exec st X.env) (SP X pins D) X.xe s
def PSs(X:Cx)(st:ϊ Stmt)(t:TS):Prop:=
 ∀(pins:Ϸ)(s:ώ)(σ:St)(H:Hp)(D:Ends),Inv X pins σ H s->t D σ H->wpAny (model X.prog X.w) X.A (execs st X.env) (SP X pins D) X.xe s
theorem bF{c:Type}{t:Sem c}{Q b:c->ώ->Prop}(h:wpAny M A t Q E s)(d: ∀a s,Q a s->b a s):wpAny M A t b E s:=ċ h d λ _ _ x=>x
section
variable{X:Cx}
def gK(i:Nat):TE:=λ σ H Q=> ∃v,σ[i]? =!(!v)/\Q v H
def tC(v:V):TE:=λ _ H Q=>Q v H
theorem SJ(f:X.N[i]? =!x)(k:Vis X.env.scope x)(d:(x==("__debug__":ϐ))=false:=by decide)(b:(x==("__classdict__":ϐ))=false:=by decide):PE X (.Name x pos) (gK i):=by
 intro a s n H Q I h;let#[v,e,h]:=h;let#[m,j,g]:=I.loc;let#[u,r,l]:=g i x v f e k;have fin:EP X a n Q u s:=#[v,H,I,r,h];rcases l with ⟨hk,hm⟩ | ⟨hk,c,hc,hcell⟩
 .show wpAny_Name (wpAny_loadName_local I.ok.kind hk j hm fin) d
 .rcases hk with hk | hk
  .show wpAny_Name (wpAny_loadName_cell I.ok.kind hk hc hcell fin) d
  .show wpAny_Name (wpAny_loadName_free I.ok.kind hk hc hcell fin b) d
theorem aj{i j pos}:PE X (.Constant (.int i) j pos) (tC (.int i)):=λ _ _ _ H _ I h=>wpAny_Constant_int #[.int i,H,I.tok _,#[_,rfl],h]
theorem gf{b j pos}:PE X (.Constant (.bool b) j pos) (tC (.bl b)):=λ _ _ _ H _ I h=>Constant_bool #[.bl b,H,I,rfl,h]
theorem cg{j pos}:PE X (.Constant .none j pos) (tC .non):=λ _ _ _ H _ I h=>Constant_none #[.non,H,I,rfl,h]
theorem bV{x j pos}:PE X (.Constant (.str x) j pos) (tC (.str x)):=λ _ _ _ H _ I h=>Calls.Constant_str #[.str x,H,I.tok _,#[_,rfl],h]
def Gl(X:Cx)(x:ϐ):Prop:=X.env.kindOf x=!.globalImplicit
theorem zH(I:Inv X pins σ H s)(b:Gl X x)(c:X.mg x=!u)(h:Q u s)
  (a:(x==("__debug__":ϐ))=false:=by decide):wpAny (model X.prog X.w) X.A (eval (.Name x pos) X.env) Q E s:=
 Calls.Name_function_global I.ok.kind b (Calls.loadGlobal_global (by rw [I.ok.glob];show I.mod.glob.keeps I.bk) c h) a
theorem gM(I:Inv X pins σ H s)(d:Gl X x)(e:X.mg x=none)(g:bootBuiltins x=!u)(h:Q u s)
  (f:x≠"__name__":=by decide) (c:(x==("__debug__":ϐ))=false:=by decide):wpAny (model X.prog X.w) X.A (eval (.Name x pos) X.env) Q E s:=by
 let#[i,a,b]:=I.mod.blt;show Calls.Name_function_global I.ok.kind d (Calls.loadGlobal_builtin (by rw [I.ok.glob];show I.mod.glob.keeps I.bk) e (by rw [I.ok.blt];show a.keeps I.bk) ((b x f).trans g) h) c
theorem eY(b:Gl X x)(c:X.mg x=!u)(r:RelV v u)(a:(x==("__debug__":ϐ))=false:=by decide):PE X (.Name x pos) (tC v):=
 λ _ _ _ H _ I h=>zH I b c #[v,H,I,r,h] a
theorem dm(b:Gl X x)(c:X.mg x=none)(e:bootBuiltins x=!u)(r:RelV v u)(d:x≠"__name__":=by decide)(a:(x==("__debug__":ϐ))=false:=by decide):PE X (.Name x pos) (tC v):=
 λ _ _ _ H _ I h=>gM I b c e #[v,H,I,r,h] d a
variable{a b:Expr}{ta tb:TE}{pos:Pos}
def PC(X:Cx)(op:CmpOp)(a b:Expr)(t:TE):Prop:=
 ∀(pins:Ϸ)(s:ώ)(σ:St)(H:Hp)(Q:VK),Inv X pins σ H s->t σ H Q->
  wpAny (model X.prog X.w) X.A (eval a X.env) (λ v s₁=>wpAny (model X.prog X.w) X.A (eval b X.env) (λ u s₂=>wpAny (model X.prog X.w) X.A (compareOp op v u) (EP X pins σ Q) X.xe s₂) X.xe s₁) X.xe s
abbrev tB(t:TE):TT:=λ σ H Q=>t σ H λ x H1=> ∃c,x= .bl c/\Q c H1
theorem gO(h:PC X op a b t)(f:behindInMarks op b=false:=by first | show nobehind _ (by decide) (by decide) | rfl):PT X (.Compare a [op] [b] pos) (tB t):=by
 intro e s n H Q I k;show wpAny_isTrue_Compare1 (bF (h e s n H _ I k) λ v o f=>bF f λ u p j=>bF j λ c r ⟨x,g,i,m,l⟩=> ?_) f;let#[d,rfl,q]:=l
 cases m;show č #[g,i,q]
variable{tA tB':TT}{rest:ϊ Expr}
def qD(t u:TT):TT:=λ σ H Q=>t σ H λ c H1=>if c=true then u σ H1 Q else Q false H1
def Dw(t u:TT):TT:=λ σ H Q=>t σ H λ c H1=>if c=true then Q true H1 else u σ H1 Q
abbrev fV(t:TT):TT:=λ σ H Q=>t σ H λ c H1=>Q (not c) H1
theorem jK(d:PT X a tA):PW X (.BoolOp .And [a] pos) tA:=by
 intro i b s f H Q I h;show isTrue_and (bF (d b s f H Q I h) λ c g e=> ?_)
 cases c with
 | true=>show isTrue_and_nil e
 | false=>show e
theorem km(d:PT X a tA):PW X (.BoolOp .Or [a] pos) tA:=by
 intro i b s f H Q I h;show isTrue_or (bF (d b s f H Q I h) λ c g e=> ?_)
 cases c with
 | false=>show isTrue_or_nil e
 | true=>show e
theorem kE(j:PT X a tA)(k:PW X (.BoolOp .And (b::rest) pos) tB'):PW X (.BoolOp .And (a::b::rest) pos) (qD tA tB'):=by
 intro m d s i H Q I h;show isTrue_and (bF (j d s i H _ I h) λ c l ob=> ?_);let#[e,f,g]:=ob
 cases c with
 | true=>show k m d l i e Q f g
 | false=>show#[e,f,g]
theorem jW(j:PT X a tA)(k:PW X (.BoolOp .Or (b::rest) pos) tB'):PW X (.BoolOp .Or (a::b::rest) pos) (Dw tA tB'):=by
 intro m d s i H Q I h;show isTrue_or (bF (j d s i H _ I h) λ c l ob=> ?_);let#[e,f,g]:=ob
 cases c with
 | true=>show#[e,f,g]
 | false=>show k m d l i e Q f g
theorem bW(e:PT X a tA):PT X (.UnaryOp .Not a pos) (fV tA):=by
 intro b s f H Q I h;show isTrue_not (e b s f H (λ c d=>Q (not c) d) I h)
def jq(ta tb:TE):TE:=λ σ H Q=>ta σ H λ x H1=> ∃c,x= .bl c/\if c=true then tb σ H1 Q else Q (.bl false) H1
abbrev DX(ta:TE):TE:=λ σ H Q=>ta σ H λ x H1=> ∃c,x= .bl c/\Q (.bl (not c)) H1
theorem lZ{op}(h:PE X a t):PE X (.BoolOp op [a] pos) t:=λ b s d H Q I c=>BoolOp_one (h b s d H Q I c)
theorem jr(j:PE X a ta)(k:PE X (.BoolOp .And (b::rest) pos) tb):PE X (.BoolOp .And (a::b::rest) pos) (jq ta tb):=by
 intro d s i H Q I h;show BoolOp_and (bF (j d s i H _ I h) λ v m ob=> ?_);let#[x,f,g,l,e]:=ob;let#[c,rfl,e]:=e
 cases l;show č ?_
 cases c with
 | true=>show k d m i f Q g e
 | false=>show#[.bl false,f,g,rfl,e]
theorem DY(g:PE X a ta):PE X (.UnaryOp .Not a pos) (DX ta):=by
 intro b s j H Q I h;show UnaryOp_ (bF (g b s j H _ I h) λ v k ob=> ?_);let#[x,e,f,i,d]:=ob;let#[c,rfl,d]:=d
 cases i;show not_of (č #[.bl (not c),e,f,rfl,d])
abbrev Xo(t:TT)(ta tb:TE):TE:=λ σ H Q=>t σ H λ c H1=>if c=true then ta σ H1 Q else tb σ H1 Q
theorem kZ(n:PT X c tA)(l:PE X a ta)(m:PE X b tb):PE X (.IfExp c a b pos) (Xo tA ta tb):=by
 intro e s f H Q I h;show wpAny_IfExp (bF (n e s f H _ I h) λ d k ob=> ?_);let#[g,i,j]:=ob
 cases d with
 | true=>show l e k f g Q i j
 | false=>show m e k f g Q i j
end
def SqL(K:Ϗ)(H:Hp)(a:ό)(xs:ϊ V):Prop:=
 Rd H a (.lst xs)\/
  ∃(o:Obj)(its:ϔ ϋ)(n:Nat),K.lookup a=!o/\o.cls= .type "list"/\o.dict=none/\o.data= .seq its n/\its.size<=sizeLine/\Vals xs its.toList
def SqT(K:Ϗ)(H:Hp)(a:ό)(xs:ϊ V):Prop:=
 Rd H a (.tup xs)\/
  ∃(o:Obj)(its:ϔ ϋ)(n:Nat),K.lookup a=!o/\o.cls= .type "tuple"/\o.data= .seq its n/\its.size<=sizeLine/\Vals xs its.toList
def a0d:ϋ->ύ V
 | .none=>!.non
 | .bool b=>!(.bl b)
 | .int i _=>!(.int i)
 | .str x _=>!(.str x)
 | .bytes b _=>!(.byt b)
 | .float b _=>!(.flt b)
 | .ref a=>!(.ref a)
 | .type n=>!(.ty n)
 | _=>none
theorem RelV.abs{x:V}(r:RelV x u):a0d u=!x:=by
 cases x with
 | non=>cases r;rfl
 | bl _=>cases r;rfl
 | int _=>let#[t,rfl]:=r;rfl
 | str _=>let#[t,rfl]:=r;rfl
 | byt _=>let#[t,rfl]:=r;rfl
 | flt _=>let#[t,rfl]:=r;rfl
 | ref _=>cases r;rfl
 | ty _=>cases r;rfl
def RelV.inj{x:V}(r:RelV x u)(q:RelV y u):x=y:=Þ (r.abs.symm.trans q.abs)
theorem Vals.inj{c:ϊ V}(h:Vals c us)(k:Vals ys us):c=ys:=by
 induction h generalizing ys with
 | nil=>cases k;rfl
 | cons r t ih=>
  cases k with
  | cons a b=>rw [r.inj a,ih b]
section
variable{X:Cx}
def SqL.of{K:Ϗ}(h:H a=!(.lst xs)):SqL K H a xs:= .inl (.inl h)
def SqT.of{K:Ϗ}(h:H a=!(.tup xs)):SqT K H a xs:= .inl (.inl h)
theorem Inv.list(I:Inv X pins σ H s)(h:SqL X.K H a xs): ∃its:ϊ ϋ,Vals xs its/\PlainL s.heap a its.toArray/\↑xs<=sizeLine:=by
 rcases h with h | ⟨o,its,n,hk,hc,hd,hs,hz,r⟩
 .obtain ⟨z,its,n,r,e⟩:=h.ok I.hok;show#[its,r,#[_,n,e,rfl,rfl,rfl],z]
 .show #[its.toList,r,#[o,n,I.kIn a o hk,hc,hd,by simpa using hs],?_];have e:=↑r;simp-iota only [Ċ] at e;rfl'
theorem Inv.tuple(I:Inv X pins σ H s)(h:SqT X.K H a xs): ∃its:ϊ ϋ,Vals xs its/\IsTup s.heap a its.toArray/\↑xs<=sizeLine:=by
 rcases h with h | ⟨o,its,n,hk,hc,hs,hz,r⟩
 .obtain ⟨z,its,r,p⟩:=h.ok I.hok;show#[its,r,p,z]
 .show #[its.toList,r,#[o,I.kIn a o hk,hc,n,by simpa using hs],?_];have e:=↑r;simp-iota only [Ċ] at e;rfl'
theorem Inv.list_inj(I:Inv X pins σ H s)(h:SqL X.K H a xs)(i:SqL X.K H a ys):xs=ys:=by
 let#[c,r,#[o,n,e,_,_,d],_]:=I.list h;let#[b,j,#[l,k,g,_,_,f],_]:=I.list i;rw [e] at g;cases g;rw [d] at f;injection f with d1 _
 have:c=b:=by simpa using Ö Array.toList d1
 subst this;show r.inj j
theorem Inv.tuple_inj(I:Inv X pins σ H s)(h:SqT X.K H a xs)(i:SqT X.K H a ys):xs=ys:=by
 let#[c,r,#[o,e,_,n,d],_]:=I.tuple h;let#[b,j,#[l,g,_,k,f],_]:=I.tuple i;rw [e] at g;cases g;rw [d] at f;injection f with d1 _
 have:c=b:=by simpa using Ö Array.toList d1
 subst this;show r.inj j
end
abbrev Cx.wish(X:Cx)(E:϶):Cx:={ X with xe:=E }
abbrev Cx.nox(X:Cx):Cx:=X.wish λ _ _=>False
def Cx.Ok.wish{X:Cx}(a:X.Ok)(E:϶):(X.wish E).Ok:=
 #[a.mod,a.kind,a.glob,a.blt,a.above,a.inj,a.has,a.cab,a.hd,a.frames,a.stk,a.exf,a.bs,a.bsz,a.noex,a.exfs,a.funs,a.frf]
def Cx.Ok.unwish{X:Cx}(a:(X.wish E).Ok):X.Ok:=
 #[a.mod,a.kind,a.glob,a.blt,a.above,a.inj,a.has,a.cab,a.hd,a.frames,a.stk,a.exf,a.bs,a.bsz,a.noex,a.exfs,a.funs,a.frf]
section
variable{X:Cx}{H:Hp}{s:ώ}
theorem Inv.wish(I:Inv X pins σ H s)(E:϶):Inv (X.wish E) pins σ H s:=#[I.ok.wish E,I.os,I.bare,I.base,I.loc,I.cell,I.free,I.freeC,I.pin,I.hok,I.len]
theorem Inv.unwish(I:Inv (X.wish E) pins σ H s):Inv X pins σ H s:=#[I.ok.unwish,I.os,I.bare,I.base,I.loc,I.cell,I.free,I.freeC,I.pin,I.hok,I.len]
theorem SP.unwish{f:Flow}(h:SP (X.wish E) pins D f s'):SP X pins D f s':=by
 cases f with
 | next=>let#[a,b,I,q]:=h;show#[a,b,I.unwish,q]
 | brk=>let#[a,b,I,q]:=h;show#[a,b,I.unwish,q]
 | cont=>let#[a,b,I,q]:=h;show#[a,b,I.unwish,q]
 | ret u=>let#[v,a,b,I,r,q]:=h;show#[v,a,b,I.unwish,r,q]
theorem PSs.nox{t:TS}(h:PSs X.nox st t):PSs X st t:=λ a s c H D I b=>
 ċ (h a s c H D (I.wish _) b) (λ _ _ q=>q.unwish) λ _ _ z=>False.elim z
end
section
variable{X:Cx}{st:Stmt}{rest:ϊ Stmt}{t u:TS}{e:Expr}{te:TE}{pos:Pos}
abbrev aV:TS:=λ D σ H=>D.nx σ H
def aA(t u:TS):TS:=λ D σ H=>t { D with nx:=u D } σ H
theorem aC:PSs X [] aV:=λ _ _ a H _ I h=>Η #[a,H,I,h]
theorem vm(e:PS X st t)(g:PSs X rest u):PSs X (st::rest) (aA t u):=by
 intro a s j H D I h;show wpAny_execs_cons (bF (e a s j H { D with nx:=u D } I h) λ f i q=> ?_)
 cases f with
 | next=>
  let#[b,c,d,q]:=q;show g a i b c D d q
 | ret v=>show q
 | brk=>show q
 | cont=>show q
theorem ao(b:PS X st t):PSs X [st] t:=by
 intro a s c H D I h;show wpAny_execs_cons (bF (b a s c H D I h) λ f d q=> ?_)
 cases f with
 | next=>show Η q
 | ret v=>show q
 | brk=>show q
 | cont=>show q
theorem Inv.quiet(I:Inv X pins σ H s):interactive X.env=false:=by simp [interactive,I.ok.kind]
abbrev cT(te:TE):TS:=λ D σ H=>te σ H λ _ H1=>D.nx σ H1
theorem bH(f:PE X e te)(g:swapsWith e none pos.line X.env=pure false:=by rfl):PS X (.Expr e pos) (cT te):=by
 intro a s b H D I h;show wpAny_Expr_any (bF (f a s b H _ I h) λ v k ⟨x,c,d,j,i⟩=>#[b,c,d,i]) I.quiet g
abbrev aP(te:TE):TS:=λ D σ H=>te σ H D.rt
theorem aB(f:PE X e te):PS X (.Return (!e) pos) (aP te):=by
 intro a s b H D I h;show wpAny_Return_some (bF (f a s b H _ I h) λ v j ob=> ?_);let#[x,c,d,i,g]:=ob;show#[x,b,c,d,i,g]
def bf(c:TT)(t u:TS):TS:=λ D σ H=>c σ H λ b H1=>if b=true then t D σ H1 else u D σ H1
theorem aR{a b:ϊ Stmt}(n:PT X c tc)(l:PSs X a t)(m:PSs X b u):PS X (.If c a b pos) (bf tc t u):=by
 intro e s f H D I h;show wpAny_If (bF (n e s f H _ I h) λ d k ob=> ?_);let#[g,i,j]:=ob
 cases d with
 | true=>show l e k f g D i j
 | false=>show m e k f g D i j
def bO:TS:=λ _ _ _=>False
def aZ:PS X st bO:=λ _ _ _ _ _ _ h=>h.elim
end
abbrev TG:=V->St->Hp->(St->Hp->Prop)->Prop
abbrev N8:=ϊ V->St->Hp->(St->Hp->Prop)->Prop
def PG(X:Cx)(target:Expr)(t:TG):Prop:=
 ∀(pins:Ϸ)(s:ώ)(σ:St)(H:Hp)(v:V)(u:ϋ)(Q:St->Hp->Prop),Inv X pins σ H s->RelV v u->t v σ H Q->
  wpAny (model X.prog X.w) X.A (assign target X.env u) (λ _ s'=> ∃σ' H',Inv X pins σ' H' s'/\Q σ' H') X.xe s
def Xp(X:Cx)(ts:ϊ Expr)(t:N8):Prop:=
 ∀(pins:Ϸ)(s:ώ)(σ:St)(H:Hp)(vs:ϊ V)(us:ϊ ϋ)(Q:St->Hp->Prop),Inv X pins σ H s->Vals vs us->t vs σ H Q->
  wpAny (model X.prog X.w) X.A (assignInOrder ((assignEach ts X.env).map (·.2)) us) (λ _ s'=> ∃σ' H',Inv X pins σ' H' s'/\Q σ' H') X.xe s
abbrev SM:=V->V->V->Hp->(Hp->Prop)->Prop
def Xq(X:Cx)(t:SM):Prop:=
 ∀(pins:Ϸ)(s:ώ)(σ:St)(H:Hp)(o i v:V)(ov iv u:ϋ)(Q:Hp->Prop),Inv X pins σ H s->RelV o ov->RelV i iv->RelV v u->t o i v H Q->
  wpAny (model X.prog X.w) X.A (setItem ov iv u) (λ _ s'=> ∃H',Inv X pins σ H' s'/\Q H') X.xe s
abbrev X4:=V->V->Hp->VK->Prop
def PIp(X:Cx)(op:Operator)(t:X4):Prop:=
 ∀(pins:Ϸ)(s:ώ)(σ:St)(H:Hp)(x y:V)(v u:ϋ)(Q:VK),Inv X pins σ H s->RelV x v->RelV y u->t x y H Q->
  wpAny (model X.prog X.w) X.A (inplaceOp op v u) (EP X pins σ Q) X.xe s
section
variable{X:Cx}
abbrev ak(i:Nat):TG:=λ v σ H Q=>Q (σ.set i !v) H
theorem lg(c:X.N.Nodup)(e:X.N[i]? =!x)(f:Loc X.env.scope x)(d:X.fn x=true\/X.env.scope.names.lookup x=!.local:=by first | show .inl rfl | show .inr rfl | assumption):PG X (.Name x pos) (ak i):=by
 intro a s j H v u Q I r h;show wpAny_assign_Name (oF I c e f r (λ g b=>#[_,H,b,h]) d)
def iK:N8:=λ vs σ H Q=>vs=[]/\Q σ H
def bD(t:TG)(u:N8):N8:=λ vs σ H Q=> ∃v r,vs=v::r/\t v σ H λ σ' H'=>u r σ' H' Q
theorem cA:Xp X [] iK:=by
 intro a s b H d c Q I r h;let#[e,h]:=h;subst e
 cases r;show assignInOrder_nil #[b,H,I,h]
theorem aL{b:ϊ Expr}{t:TG}{u:N8}(i:PG X e t)(j:Xp X b u)
  (k:(assignEach (e::b) X.env).map (·.2)=assign e X.env::(assignEach b X.env).map (·.2):=by rfl):Xp X (e::b) (bD t u):=by
 intro a s n H q o Q I r h;let#[v,p,g,h]:=h;subst g
 cases r with
 | cons r rr=>
  rw [k];show assignInOrder_cons (bF (i a s n H _ _ _ I r h) λ _ m ob=> ?_);let#[c,d,f,l]:=ob;show j a m c d _ _ Q f rr l
def ie(K:Ϗ)(n:Nat)(t:N8):TG:=λ v σ H Q=> ∃a xs,v= .ref a/\SqT K H a xs/\↑xs=n/\t xs σ H Q
theorem SN{t:N8}(q:X.calm=true)(h:Xp X d t)
  (x:↑(assignEach d X.env)=n:=by rfl) (f:(assignEach d X.env).findIdx? (·.1)=none:=by rfl):PG X (.Tuple d k pos) (ie X.K n t):=by
 intro c s j H v u Q I r g;let#[a,C,m,y,w,g]:=g;subst m
 cases r;let#[B,i,z,D]:=I.tuple y;show assign_Tuple_tuple (I.ok.hd q) z (by simp [x,<- w,i.length]) f λ p A=> ?_
 have l:Inv X c j H { s with heap:=p }:=I.kept (t':=s.toks) λ b o e=>A b o (ã (Ì e)) e
 show h c _ j H C _ Q l (by simpa using i) g
abbrev Ea(to ti:TE)(t:SM):TG:=λ v σ H Q=>to σ H λ o H1=>ti σ H1 λ i H2=>t o i v H2 λ H3=>Q σ H3
theorem tK{i:Expr}{e:TE}{t:SM}(q:PE X o e)(p:PE X i d)(w:Xq X t)
  (n: ∀v,assign (.Subscript o i pos) X.env v=(do
   let ov <- holding [v] (eval o X.env)
   let b <- holding [v,ov] (eval i X.env)
   standAt pos
   holding [v,ov,b] (setItem ov b v)
   release [v,ov,b] []):=by intro _;rfl):PG X (.Subscript o i pos) (Ea e d t):=by
 intro a s c H v u Q I r h;rw [n];show Zl (þ (bF (q a s c H _ I h) λ ov E ob=> ?_));let#[x,f,k,C,z]:=ob;show Zl (þ (bF (p a E c f _ k z) λ b F ob=> ?_));let#[y,g,l,D,A]:=ob;show Zl (wpAny_standAt (Zl (þ (bF (w a F c g x y v ov b u _ l C D r A) λ _ G ob=> ?_))));let#[j,m,B]:=ob;show wpAny_release #[c,j,m,B]
abbrev aJ(te:TE)(g:TG):TS:=λ D σ H=>te σ H λ x H1=>g x σ H1 D.nx
theorem tL{g:TG}(i:PE X e te)(j:PG X tg g)(k:swapsWithSole [tg] e pos.line X.env=pure false:=by rfl)(l:swappedStores [tg] e X.env=pure none:=by rfl)
  (f:(assignEach [tg] X.env).map (·.2)=[assign tg X.env]:=by rfl):PS X (.Assign [tg] e pos) (aJ te g):=by
 intro a s b H D I h;show wpAny_Assign_stores (bF (i a s b H _ I h) λ v o ⟨x,c,d,n,m⟩=> ?_) k l;rw [f];show bF (j a o b c x v _ d n m) λ _ p q=>q
theorem dG(f:X.N.Nodup)(k:X.N[i]? =!x)(m:Loc X.env.scope x)(g:PE X e te)(l:swapsWith e (!(.Name x pos')) pos.line X.env=pure false:=by rfl)(j:X.fn x=true\/X.env.scope.names.lookup x=!.local:=by first | show .inl rfl | show .inr rfl | assumption):
  PS X (.Assign [.Name x pos'] e pos) (aJ te (ak i)):=by
 intro a s p H D I h;show wpAny_Assign_Name (bF (g a s p H _ I h) λ v q ⟨y,b,c,o,n⟩=> ?_) l;show oF c f k m o (λ r d=>#[_,b,d,n]) j
def Nm(i:Nat)(te:TE)(ti:X4):TS:=λ D σ H=> ∃x,σ[i]? =!(!x)/\te σ H λ y H1=>ti x y H1 λ z H2=>D.nx (σ.set i !z) H2
theorem Ec{g:Operator}(F:X.N.Nodup)(n:X.N[i]? =!x)(f:Loc X.env.scope x)(G:PE X e te)(M:PIp X g o)(J:X.fn x=true\/X.env.scope.names.lookup x=!.local:=by first | show .inl rfl | show .inr rfl | assumption):
  PS X (.AugAssign (.Name x pos') g e pos) (Nm i te o):=by
 intro a s p H D I h;let#[v,E,h]:=h;let#[m,L,K]:=I.loc;have j:Vis X.env.scope x:=by rcases f with k | k;show .inl k;show .inr (.inl k)
 let#[u,r,l]:=K i x v n E j;show wpAny_AugAssign_Name ?_;have go:wpAny (model X.prog X.w) X.A (eval e X.env) (λ w b=>wpAny (model X.prog X.w) X.A (inplaceOp g u w) (λ r d=>wpAny (model X.prog X.w) X.A (storeName X.env x r) (λ _=>SP X a D .next) X.xe d) X.xe b) X.xe s:=by
  show bF (G a s p H _ I h) λ w R ob=> ?_
  let#[y,q,A,P,N]:=ob;show bF (M a R p q v y u w _ A r P N) λ z S ob=> ?_
  let#[U,t,B,Q,O]:=ob;show oF B F n f Q (λ T C=>#[_,t,C,O]) J
 rcases l with ⟨hk,hm⟩ | ⟨hk,c,hc,hcell⟩
 .show wpAny_loadName_local I.ok.kind hk L hm go
 .rcases hk with hk | hk
  .show wpAny_loadName_cell I.ok.kind hk hc hcell go
  .rcases f with k | k
   .have:X.env.scope.names.lookup x=!.free:=hk;rw [k] at this;cases this
   .have:X.env.scope.names.lookup x=!.free:=hk;rw [k] at this;cases this
def ipI(f:Int->Int->Int):X4:=λ x y H Q=> ∃i j,x= .int i/\y= .int j/\Q (.int (f i j)) H
theorem Ed:PIp X .Add (ipI λ i j=>i+j):=by
 intro a s g H x y v u Q I d e h;let#[i,j,b,c,q]:=h;subst b;subst c;let#[t,rfl]:=d;let#[f,rfl]:=e;show iadd_int #[.int _,H,I.tok _,#[_,rfl],q]
end
section
variable{X:Cx}
def gP(c:TT)(tb:TS):TS:=λ D σ H=> ∃W:Nat->St->Hp->Prop,(∃m,W m σ H)/\ ∀m σ H,W m σ H->
 c σ H λ b H1=>if b=true then ∃N:St->Hp->Prop,(∀σ' H',N σ' H'-> ∃m',m'<m/\W m' σ' H')/\tb { D with nx:=N,ct:=N,bk:=D.nx } σ H1 else D.nx σ H1
theorem ig(z:PassesOwn (model X.prog X.w) X.A X.env X.xe)(C:PT X c tc)(B:PSs X body tb):PS X (.While c body [] pos) (gP tc tb):=by
 intro a s M H D I h;let#[W,#[E,K],i]:=h;show wpAny_While (codeAny_whileLoop (λ n F=> ∃j t,Inv X a j t F/\W n j t) ?_ E #[M,H,I,K]);rintro n G ⟨e,u,A,L⟩;show ŕ z (bF (C a G e u _ A (i n e u L)) λ b J ob=> ?_);let#[w,x,k]:=ob
 cases b with
 | true=>
  let#[N,y,k]:=k;rw [if_pos rfl];show ŕ z (bF (B a J e w _ x k) λ f O l=> ?_)
  cases f with
  | next=>
   let#[d,g,m,q]:=l;let#[p,o,r]:=y d g q;show#[p,o,d,g,m,r]
  | cont=>
   let#[d,g,m,q]:=l;let#[p,o,r]:=y d g q;show#[p,o,d,g,m,r]
  | brk=>show l
  | ret v=>show l
 | false=>
  rw [if_neg Ñ];show Η #[e,w,x,k]
end
structure It where
 go:Nat->Hp->Prop
 yld:Nat->Hp->V->Hp->Prop
 stop:Nat->Hp->Prop
def nG(X:Cx)(pins:Ϸ)(H:Hp)(b:ό):Prop:=
 H b=none/\b≠X.env.locals/\b∉X.fs/\(b∈X.ex\/X.s₀.heap.objs.size<=b)/\(∀x c,X.env.cells.lookup x=!c->c≠b)/\ ∀p∈X.pn++pins,p.1≠b
theorem Inv.fpOk{X:Cx}(I:Inv X pins σ H s)(a:s.heap.objs.size<=b)(f:d b=none):nG X pins d b:=by
 show#[f,Ģ (Ô I.lt a),I.nofs a, .inr (Ò I.sz a),λ x c e z=> ?_,λ p g z=> ?_]
 .obtain ⟨v,q⟩:=I.cell x c e;show absurd (Ô q.lt (by rw [z];show a)) (ć _)
 .show absurd (Ô (Ì (I.pin p g).1) (by rw [z];show a)) (ć _)
structure Turn(P:ϓ)(w:ϕ)(K:Ϗ)(tg:Expr)(J:It)(fp:ϊ ό)(it:ό)(tn:Nat->ϒ->Prop):Prop where
 mem:it∈fp
 obj: ∀i h,tn i h-> ∀b∈fp,∃o,h.get? b=!o/\ ∀v,o.data≠ .cell v
 keep: ∀i h h',tn i h->(∀b∈fp,∀o,h.get? b=!o->h'.get? b=!o)->tn i h'
 item: ∀(X:Cx),X.prog=P->X.w=w->X.K=K->X.calm=true-> ∀(i:Nat)(pins:Ϸ)(s:ώ)(σ:St)(H:Hp)(E:϶),Inv X pins σ H s->(∀b∈fp,nG X pins H b)->tn i s.heap->J.go i H->
  wpAny (model P w) X.A (pyNext (.ref it)) (λ r s1=> ∃u,r=!u/\
   wpAny (model P w) X.A (letOwnedTupleGo tg (.ref it) u) (λ _ s2=> ∃x H',Inv X pins σ H' s2/\RelV x u/\J.yld i H x H'/\tn (i+1) s2.heap/\ ∀b∈fp,H' b=none) E s1) E s
 done: ∀(X:Cx),X.prog=P->X.w=w->X.K=K->X.calm=true-> ∀(i:Nat)(pins:Ϸ)(s:ώ)(σ:St)(H:Hp)(E:϶),Inv X pins σ H s->(∀b∈fp,nG X pins H b)->tn i s.heap->J.stop i H->
  wpAny (model P w) X.A (pyNext (.ref it)) (λ r s1=>r=none/\Inv X pins σ H s1) E s
 self: ∀(A:ϖ)(i:Nat)(s:ώ)(Q:϶)(E:϶),tn i s.heap->Q (.ref it) s->wpAny (model P w) A (pyIter (.ref it)) Q E s
abbrev TI:=St->Hp->(It->Hp->Prop)->Prop
def PIE(X:Cx)(pins:Ϸ)(σ:St)(tg:Expr)(R:It->Hp->Prop)(itv:ϋ)(s2:ώ):Prop:=
 ∃(it:ό)(fp:ϊ ό)(tn:Nat->ϒ->Prop)(J:It)(H':Hp),itv= .ref it/\Inv X pins σ H' s2/\Turn X.prog X.w X.K tg J fp it tn/\tn 0 s2.heap/\(∀b∈fp,nG X pins H' b)/\R J H'
def PI(X:Cx)(tg iter:Expr)(wi:TI):Prop:=
 ∀(pins:Ϸ)(s:ώ)(σ:St)(H:Hp)(R:It->Hp->Prop),Inv X pins σ H s->wi σ H R->
  wpAny (model X.prog X.w) X.A (eval iter X.env) (λ v s1=>wpAny (model X.prog X.w) X.A (pyIter v) (PIE X pins σ tg R) X.xe s1) X.xe s
theorem oG{n:String}{b:ϔ ϋ}{Q:Unit->ώ->Prop}(f:s.heap.get? it=!o)(c:o.cls= .type n)(d:o.data= .fields b)
  (e:["enumerate","zip","dict_itemiterator","dict_reverseitemiterator","odict_iterator","itertools.zip_longest","itertools.pairwise"].contains n=false) (a:Q Unit.unit s):wpAny M A (letOwnedTupleGo tg (.ref it) u) Q E s:=by
 unfold letOwnedTupleGo
 cases tg <;> first
  | show Á a
  | (cases u<;>first
    | show Á a
    | (show Zl (wpAny_load f ?_)
       rw [c,d];change wpAny M A (if (["enumerate","zip","dict_itemiterator","dict_reverseitemiterator","odict_iterator","itertools.zip_longest","itertools.pairwise"].contains n&&b[0]? ==!(rawInt _))=true then _ else _) Q E s;rw [if_neg (by intro h;rw [e,Ō] at h;cases h)];show Á a))
def Np(K:Ϗ)(a:ό):It:=
 #[λ i H=> ∃xs x,SqL K H a xs/\xs[i]? =!x,λ i H x H'=>H'=H/\ ∀xs,SqL K H a xs->xs[i]? =!x,λ i H=> ∃xs,SqL K H a xs/\↑xs<=i]
def X5(K:Ϗ)(a:ό):It:=
 #[λ i H=> ∃xs x,SqT K H a xs/\xs[i]? =!x,λ i H x H'=>H'=H/\ ∀xs,SqT K H a xs->xs[i]? =!x,λ i H=> ∃xs,SqT K H a xs/\↑xs<=i]
def Dy(lo:Int)(n:Nat):It:=#[λ i _=>i<n,λ i H x H'=>H'=H/\x= .int (lo+i),λ i _=>n<=i]
theorem By{P:ϓ}{K:Ϗ}(a l:ό):Turn P w K tg (Np K a) [l] l (λ i h=>h.IsListIter l a i) where
 mem:=by simp
 obj:=λ i h f b j=>by
  have e:b=l:=by simpa using j
  subst e;let#[o,e,c,d]:=f;show#[o,e,λ v z=>by rw [d] at z;cases z]
 keep:=λ i h n f k=>f.at λ o e=>k l (by simp) o e
 item:=by
  intro X F J D O i g s Q H E I q f G;subst F J D;let#[xs,x,r,L]:=G;let#[M,N,p,Z]:=I.list r;let#[u,U,ru]:=N.get L;let#[t,y,T,A,B,C]:=q l (by simp);show wpAny_pyNext_list_item f p.isList (x:=u) (by simpa using U) λ n m sb=> ?_
  have R:Inv X g Q H { s with heap:=n }:=I.turned (t':=s.toks) (λ b o j e=>(sb.2 b j).trans e) t y A B C;let#[o,e,c,d]:=id m;show#[u,rfl,oG (s:={ s with heap:=n }) e c d (by decide) ⟨x,H,R,ru,⟨rfl,λ ys Y=>by rw [I.list_inj Y r];show L⟩,m,λ b j=>(q b j).1⟩]
 done:=by
  intro X F J D O i g s Q H E I q f G;subst F J D;let#[xs,r,L]:=G;let#[M,N,p,Z]:=I.list r;let#[t,y,T,A,B,C]:=q l (by simp);have hl:=↑N;show wpAny_pyNext_list_end (I.ok.hd O) f p.isList (by simp;rfl') λ n S=>#[rfl,I.turned (t':=s.toks) (λ b o j e=>S b o j e) t y A B C]
 self:=λ _ _ _ _ _ f h=>wpAny_pyIter_listiter f h
theorem xK{P:ϓ}{K:Ϗ}(a l:ό):Turn P w K tg (X5 K a) [l] l (λ i h=>h.IsTupleIter l a i) where
 mem:=by simp
 obj:=λ i h f b j=>by
  have e:b=l:=by simpa using j
  subst e;let#[o,e,c,d]:=f;show#[o,e,λ v z=>by rw [d] at z;cases z]
 keep:=λ i h q f k=>f.at λ o e=>k l (by simp) o e
 item:=by
  intro X G L F O i g s Q H E I r f J;subst G L F;let#[xs,x,t,M]:=J;let#[m,N,p,Z]:=I.tuple t;let#[u,U,ru]:=N.get M;let#[y,A,T,B,C,D]:=r l (by simp);show wpAny_pyNext_tuple_item f (show s.heap.IsTuple a m.toArray from p) (x:=u) (by simpa using U) λ q n sb=> ?_
  have R:Inv X g Q H { s with heap:=q }:=I.turned (t':=s.toks) (λ b o j e=>(sb.2 b j).trans e) y A B C D;let#[o,e,c,d]:=id n;show#[u,rfl,oG (s:={ s with heap:=q }) e c d (by decide) ⟨x,H,R,ru,⟨rfl,λ ys Y=>by rw [I.tuple_inj Y t];show M⟩,n,λ b j=>(r b j).1⟩]
 done:=by
  intro X G L F O i g s Q H E I r f J;subst G L F;let#[xs,t,M]:=J;let#[m,N,p,Z]:=I.tuple t;let#[y,A,T,B,C,D]:=r l (by simp);have hl:=↑N;show wpAny_pyNext_tuple_end (I.ok.hd O) f (show s.heap.IsTuple a m.toArray from p) (by simp;rfl') λ q S=>#[rfl,I.turned (t':=s.toks) (λ b o j e=>S b o j e) y A B C D]
 self:=λ _ _ _ _ _ f h=>wpAny_pyIter_tupleiter f h
theorem xM{P:ϓ}{K:Ϗ}(c:ό)(lo:Int)(n:Nat):Turn P w K tg (Dy lo n) [c] c (λ i h=>IsRangeIter h c (lo+(i:Nat)*1) ((n:Int)-(i:Nat)) 1) where
 mem:=by simp
 obj:=λ i h a b f=>by
  have e:b=c:=by simpa using f
  subst e;show⟨_,a,λ v z=>by
   have O:Data.fields _=Data.cell v:=z
   cases O⟩
 keep:=λ i h j a k=>k c (by simp) _ a
 item:=by
  intro X y C x A i d s F H E I l a B;subst y C x;let#[m,p,L,q,r,u]:=l c (by simp);have W:=Walks.range (prog:=X.prog) (w:=X.w) (I.ok.hd A) c lo 1 n;show W.item i s _ _ B a λ v j D M g N=> ?_
  let#[t,rfl]:=M;have G:Inv X d F H { s with heap:=j,toks:=D }:=I.turned (λ b o f e=>N b o (by simpa using f) e) m p q r u;show⟨_,rfl,oG (s:={ s with heap:=j,toks:=D }) (n:="range_iterator") g rfl rfl (by decide) ⟨.int (lo+i),H,G,⟨t,?_⟩,⟨rfl,rfl⟩,g,λ b f=>(l b f).1⟩⟩;rw [Int.mul_one]
 done:=by
  intro X y C x A i d s F H E I l a B;subst y C x;let#[m,p,L,q,r,u]:=l c (by simp);show Ψ (I.ok.hd A) a (by have:n<=i:=B;rfl') λ j J=>#[rfl,I.turned (t':=s.toks) (λ b o f e=>J b o f e) m p q r u]
 self:=λ _ _ _ _ _ a h=>Ω a h
section
variable{X:Cx}
abbrev bN(K:Ϗ)(tl:TE):TI:=λ σ H R=>tl σ H λ x H1=> ∃a,x= .ref a/\(∃xs,SqL K H1 a xs)/\R (Np K a) H1
abbrev oH(K:Ϗ)(tl:TE):TI:=λ σ H R=>tl σ H λ x H1=> ∃a,x= .ref a/\(∃xs,SqT K H1 a xs)/\R (X5 K a) H1
theorem Nq(j:PE X l tl):PI X tg l (bN X.K tl):=by
 intro c s t H R I h;show bF (j c s t H _ I h) λ v f ob=> ?_
 let#[x,g,d,r,n]:=ob;let#[a,e,#[y,k],q]:=n;subst e
 cases r;let#[m,w,p,u]:=d.list k;show δ p.isList ?_;show#[f.heap.objs.size,[f.heap.objs.size],_,_,g,rfl,d.kept (t':=f.toks) λ b o e=>Ã _ e,By a _,#[_,Ê _ rfl,rfl,rfl],λ b i=> ?_,q];have e:b=f.heap.objs.size:=by simpa using i
 subst e;show d.fpOk (Ä _) (d.hok.fresh (Ä _))
theorem SQ(k:PE X l tl):PI X tg l (oH X.K tl):=by
 intro c s t H R I h;show bF (k c s t H _ I h) λ v d ob=> ?_
 let#[x,i,f,r,n]:=ob;let#[a,e,#[y,m],q]:=n;subst e
 cases r;let#[g,w,p,u]:=f.tuple m;show ĳ (show d.heap.IsTuple a g.toArray from p) ?_;show#[d.heap.objs.size,[d.heap.objs.size],_,_,i,rfl,f.kept (t':=d.toks) λ b o e=>Ã _ e,xK a _,#[_,Ê _ rfl,rfl,rfl],λ b j=> ?_,q];have e:b=d.heap.objs.size:=by simpa using j
 subst e;show f.fpOk (Ä _) (f.hok.fresh (Ä _))
theorem vo{R:It->Hp->Prop}{lo a:Int}{t u v:Tok}{d:Nat}(I:Inv X pins σ H s)(h: -(2^62)<=lo)(i:lo<2^62)(j: -(2^62)<=a)(k:a<2^62)
  (q:R (Dy lo (a-lo).toNat) H):wpAny (model X.prog X.w) X.A (pyIter (.ref s.heap.objs.size)) (PIE X pins σ tg R) E { s with heap:=s.heap.push { cls:= .type "range",data:= .fields ([.int lo t, .int a u, .int 1 v].toArray) },toks:=d }:=by
 show wpAny_pyIter_range (IsRange.new ..) (small_one h i j k) ?_;have c:Inv X pins σ H { s with heap:=s.heap.push { cls:= .type "range",data:= .fields ([.int lo t, .int a u, .int 1 v].toArray) },toks:=d }:=I.kept λ b o e=>Ã _ e
 show⟨(s.heap.push { cls:= .type "range",data:= .fields ([.int lo t, .int a u, .int 1 v].toArray) }).objs.size,[(s.heap.push { cls:= .type "range",data:= .fields ([.int lo t, .int a u, .int 1 v].toArray) }).objs.size],_,_,H,rfl,
  c.kept (t':=d) λ b o e=>Ã _ e,xM _ lo (a-lo).toNat,?_,λ b l=> ?_,q⟩
 .have f:lo+((0:Nat):Int)*1=lo:=by simp
  have g:(((a-lo).toNat:Nat):Int)-((0:Nat):Int)=Builtin.Range.rangeSize lo a 1:=by rw [rangeSize_one];split<;>rfl'
  change IsRangeIter _ _ (lo+((0:Nat):Int)*1) ((((a-lo).toNat:Nat):Int)-((0:Nat):Int)) 1;rw [f,g];show Ê _ rfl
 .have e:b=(s.heap.push { cls:= .type "range",data:= .fields ([.int lo t, .int a u, .int 1 v].toArray) }).objs.size:=by simpa using l
  subst e;show c.fpOk (Ä _) (c.hok.fresh (Ä _))
abbrev gF(ta:TA):TI:=λ σ H R=>ta σ H λ vs H1=> ∃j:Int,vs=[.int j]/\ -(2^62)<=j/\j<2^62/\R (Dy 0 j.toNat) H1
abbrev QH(ta:TA):TI:=λ σ H R=>ta σ H λ vs H1=> ∃i j:Int,vs=[.int i, .int j]/\(-(2^62)<=i/\i<2^62/\ -(2^62)<=j/\j<2^62)/\R (Dy i (j-i).toNat) H1
theorem bU{a:Expr}{p:Pos}(g:Gl X "range")(i:X.mg "range"=none)(f:PA X [a] ta)(k:starEach [a] X.env=[(false,eval a X.env)]:=by rfl):PI X tg (.Call (.Name "range" p) [a] [] pos) (gF ta):=by
 intro b s n H R I h;show Call_ (gM I g i boot_range (ă (bF (f pos b s n H _ I h) λ v u ⟨w,o,d,m,c⟩=> ?_) k rfl));let#[j,e,c,l,q]:=c;subst e
 cases m with
 | cons r rr=>
  cases rr;let#[t,rfl]:=r;show call_range_1 (vo d () () c l (by simpa using q))
theorem BJ{a b:Expr}{p:Pos}(l:Gl X "range")(m:X.mg "range"=none)(k:PA X [a,b] ta)(n:starEach [a,b] X.env=[(false,eval a X.env),(false,eval b X.env)]:=by rfl)(c:starEach [b] X.env=[(false,eval b X.env)]:=by rfl):
  PI X tg (.Call (.Name "range" p) [a,b] [] pos) (QH ta):=by
 intro d s x H R I h;show Call_ (gM I l m boot_range (ă (bF (k pos d s x H _ I h) λ B z ⟨C,y,g,w,f⟩=> ?_) (by rw [n,c]) (by rw [c];rfl)));let#[i,j,e,#[f,o,u,v],q]:=f;subst e
 cases w with
 | cons r rr=>
  cases rr with
  | cons r' rr=>
   cases rr;let#[t,rfl]:=r;let#[A,rfl]:=r';show call_range_2 (vo g f o u v q)
def cu(wi:TI)(g:TG)(tb:TS):TS:=λ D σ H=>wi σ H λ J H1=> ∃W:Nat->Nat->St->Hp->Prop,(∃m,W 0 m σ H1)/\ ∀i m σ H,W i m σ H->
 (J.stop i H/\D.nx σ H)\/(J.go i H/\ ∃N:St->Hp->Prop,(∀σ' H',N σ' H'-> ∃m',m'<m/\W (i+1) m' σ' H')/\ ∀x H',J.yld i H x H'->g x σ H' λ σ2 H2=>tb { D with nx:=N,ct:=N,bk:=D.nx } σ2 H2)
def oJ(fp:ϊ ό)(h:ϒ):Ϸ:=fp.filterMap λ b=>(h.get? b).map λ o=>(b,o)
theorem iM(a:b∈fp)(e:h.get? b=!o):(b,o)∈oJ fp h:=î.mpr #[b,a,by rw [e];rfl]
theorem BK(d:p∈oJ fp h):p.1∈fp/\h.get? p.1=!p.2:=by
 let#[b,c,e]:=î.mp d
 cases q:h.get? b with
 | none=>rw [q] at e;cases e
 | some o=>
  rw [q] at e;have a:(b,o)=p:=Þ e;subst a;show#[c,q]
theorem Inv.pinned(I:Inv X pins σ H s)(i: ∀b∈fp,nG X pins H b)(j: ∀b∈fp,∃o,s.heap.get? b=!o/\ ∀v,o.data≠ .cell v):Inv X (pins++oJ fp s.heap) σ H s:=
 I.pins_of λ p k=>(Æ.mp k).elim (λ z=>I.pin p (Ü _ z)) λ z=>by
  let#[c,e]:=BK z;let#[f,g,h,_]:=i p.1 c;let#[o,a,d]:=j p.1 c;rw [e] at a;cases a;show#[e,f,g,h,d]
theorem Inv.unpinned{b:Ϸ}(I:Inv X (pins++b) σ H s):Inv X pins σ H s:=I.pins_of λ p a=>I.pin p (Ü _ (Ý _ a))
theorem SX{g:TG}(F:PassesOwn (model X.prog X.w) X.A X.env X.xe)(hc:X.calm=true)(hi:PI X tg q wi)(hg:PG X tg g)(p:PSs X body tb)
  (hs: ∀x,foldedSetIterable q X.env x=pure x:=by intro _;rfl):PS X (.For tg q body [] pos) (cu wi g tb):=by
 intro a s σ H D I h;show wpAny_For (bF (hi a s σ H _ I h) λ v s1 h1=>bF h1 λ ab s2 h2=> ?_) hs;let#[it,C,tn,J,H2,e,I2,T,S,f2,W,#[m0,w0],L]:=h2;subst e;have t: ∀{z:Hp},(∀b∈C,z b=none)-> ∀b∈C,nG X a z b:=λ hn b p=>#[hn b p,(f2 b p).2]
 show codeAny_forLoop_any (λ n s'=> ∃i w z,Inv X a w z s'/\tn i s'.heap/\(∀b∈C,z b=none)/\W i n w z) ?_ m0 #[0,σ,H2,I2,S,λ b p=>(f2 b p).1,w0];rintro n s3 ⟨i,y,M,Z,K,E,w3⟩;rcases L i n y M w3 with ⟨stop,qn⟩ | ⟨go,N,hN,step⟩
 .show ŕ F (bF (T.done X rfl rfl rfl hc i a s3 y M X.xe Z (t E) K stop) λ r s4 ob=> ?_);let#[Q,I4]:=ob;subst Q;show Η #[y,M,I4,qn]
 .show ŕ F (bF (T.item X rfl rfl rfl hc i a s3 y M X.xe Z (t E) K go) λ r s4 ob=> ?_);let#[u,Q,h4]:=ob;subst Q;show ŕ F (bF h4 λ _ s5 ob=> ?_);let#[x,Y,I5,r5,y5,B,P]:=ob;have O:=I5.pinned (t P) (T.obj _ _ B);show ŕ F (bF (hg _ s5 y Y x u _ O r5 (step x Y y5)) λ _ s6 ob=> ?_);let#[U,H6,I6,q6]:=ob;show ŕ F (bF (p _ s6 U H6 _ I6 q6) λ f R A=> ?_);have l: ∀{c:St}{j:Hp},Inv X (a++oJ C s5.heap) c j R->N c j-> ∃m,m<n/\ ∃i w z,Inv X a w z R/\tn i R.heap/\(∀b∈C,z b=none)/\W i m w z:=λ {c j} k G=>by
   let#[m',hm,w7]:=hN c j G;show#[m',hm,i+1,c,j,k.unpinned,T.keep _ _ _ B λ b p o e=>(k.pin (b,o) (Ü _ (Ü _ (iM p e)))).1,λ b p=> ?_,w7];let#[o,e,d]:=T.obj _ _ B b p;show(k.pin (b,o) (Ü _ (Ü _ (iM p e)))).2.1
  cases f with
  | next=>let#[c,j,k,G]:=A;show l k G
  | cont=>let#[c,j,k,G]:=A;show l k G
  | brk=>let#[c,j,k,A]:=A;show#[c,j,k.unpinned,A]
  | ret v=>let#[x7,c,j,k,r7,A]:=A;show#[x7,c,j,k.unpinned,r7,A]
end
theorem Ef{K:Ϗ}{xs:ϊ V}{g:TG}{D:Ends}(b:Nat->St->Hp->Prop)(f:b 0 σ H)(k: ∀i σ H,i<=↑xs->b i σ H->SqL K H a xs)
  (l: ∀i x σ H,xs[i]? =!x->b i σ H->g x σ H λ c H2=>tb { D with nx:=b (i+1),ct:=b (i+1),bk:=D.nx } c H2) (h: ∀σ H,b ↑xs σ H->D.nx σ H):
  ∃W:Nat->Nat->St->Hp->Prop,(∃m,W 0 m σ H)/\ ∀i m σ H,W i m σ H->
   ((Np K a).stop i H/\D.nx σ H)\/((Np K a).go i H/\ ∃N:St->Hp->Prop,(∀σ' H',N σ' H'-> ∃m',m'<m/\W (i+1) m' σ' H')/\ ∀x H',(Np K a).yld i H x H'->g x σ H' λ c H2=>tb { D with nx:=N,ct:=N,bk:=D.nx } c H2):=by
 show#[λ i m σ H=>m=↑xs-i/\i<=↑xs/\b i σ H,#[↑xs,by simp,æ _,f],?_];rintro i m σ H ⟨rfl,j,p⟩;have q:=k i σ H j p;by_cases d:i<↑xs
 .show .inr #[#[xs,xs[i],q,by simp [d]],b (i+1),λ σ' H' n=>#[xs.length-(i+1),(),rfl,d,n],λ x H' y=> ?_];let#[e,y]:=y;subst e;show l i x σ _ (y xs q) p
 .have e:i=↑xs:=()
  subst e;show .inl #[#[xs,q,Ä _],h σ H p]
theorem Nr{K:Ϗ}{xs:ϊ V}{g:TG}{D:Ends}(b:Nat->St->Hp->Prop)(f:b 0 σ H)(k: ∀i σ H,i<=↑xs->b i σ H->SqT K H a xs)
  (l: ∀i x σ H,xs[i]? =!x->b i σ H->g x σ H λ c H2=>tb { D with nx:=b (i+1),ct:=b (i+1),bk:=D.nx } c H2) (h: ∀σ H,b ↑xs σ H->D.nx σ H):
  ∃W:Nat->Nat->St->Hp->Prop,(∃m,W 0 m σ H)/\ ∀i m σ H,W i m σ H->
   ((X5 K a).stop i H/\D.nx σ H)\/((X5 K a).go i H/\ ∃N:St->Hp->Prop,(∀σ' H',N σ' H'-> ∃m',m'<m/\W (i+1) m' σ' H')/\ ∀x H',(X5 K a).yld i H x H'->g x σ H' λ c H2=>tb { D with nx:=N,ct:=N,bk:=D.nx } c H2):=by
 show#[λ i m σ H=>m=↑xs-i/\i<=↑xs/\b i σ H,#[↑xs,by simp,æ _,f],?_];rintro i m σ H ⟨rfl,j,p⟩;have q:=k i σ H j p;by_cases d:i<↑xs
 .show .inr #[#[xs,xs[i],q,by simp [d]],b (i+1),λ σ' H' n=>#[xs.length-(i+1),(),rfl,d,n],λ x H' y=> ?_];let#[e,y]:=y;subst e;show l i x σ _ (y xs q) p
 .have e:i=↑xs:=()
  subst e;show .inl #[#[xs,q,Ä _],h σ H p]
theorem qX{lo:Int}{g:TG}{D:Ends}(a:Nat->St->Hp->Prop)(d:a 0 σ H)
  (h: ∀i σ H,i<n->a i σ H->g (.int (lo+i)) σ H λ c H2=>tb { D with nx:=a (i+1),ct:=a (i+1),bk:=D.nx } c H2) (f: ∀σ H,a n σ H->D.nx σ H):
  ∃W:Nat->Nat->St->Hp->Prop,(∃m,W 0 m σ H)/\ ∀i m σ H,W i m σ H->
   ((Dy lo n).stop i H/\D.nx σ H)\/((Dy lo n).go i H/\ ∃N:St->Hp->Prop,(∀σ' H',N σ' H'-> ∃m',m'<m/\W (i+1) m' σ' H')/\ ∀x H',(Dy lo n).yld i H x H'->g x σ H' λ c H2=>tb { D with nx:=N,ct:=N,bk:=D.nx } c H2):=by
 show#[λ i m σ H=>m=n-i/\i<=n/\a i σ H,#[n,by simp,æ _,d],?_];rintro i m σ H ⟨rfl,k,p⟩;by_cases b:i<n
 .show .inr #[b,a (i+1),λ σ' H' j=>#[n-(i+1),(),rfl,b,j],λ x H' y=> ?_];let#[e,y]:=y;subst e y;show h i σ _ b p
 .have e:i=n:=()
  subst e;show .inl #[Nat.le_refl _,f σ H p]
theorem vp{c:TT}(a:St->Hp->Prop)(e:St->Hp->Nat)(g:a σ H)
  (h: ∀σ H,a σ H->c σ H λ b H1=>if b=true then tb { D with nx:=λ σ' H'=>a σ' H'/\e σ' H'<e σ H,ct:=λ σ' H'=>a σ' H'/\e σ' H'<e σ H,bk:=D.nx } σ H1 else D.nx σ H1)
  (d: ∀σ H Q f,(∀b H1,Q b H1->f b H1)->c σ H Q->c σ H f):gP c tb D σ H:=by
 show#[λ m σ H=>m=e σ H/\a σ H,#[_,rfl,g],?_];rintro m σ H ⟨rfl,p⟩;show d σ H _ _ (λ b H1 q=> ?_) (h σ H p)
 cases b with
 | true=>show#[_,λ σ' H' ⟨i,l⟩=>#[_,l,rfl,i],q]
 | false=>show q
abbrev R2:=V->V->Hp->VK->Prop
variable{r r':R2}
def jh(X:Cx)(f:ϋ->ϋ->Sem ϋ)(r:R2):Prop:=
 ∀(pins:Ϸ)(s:ώ)(σ:St)(H:Hp)(x y:V)(v u:ϋ)(Q:VK),Inv X pins σ H s->RelV x v->RelV y u->r x y H Q->
  wpAny (model X.prog X.w) X.A (f v u) (EP X pins σ Q) X.xe s
def UnR(X:Cx)(f:ϋ->Sem ϋ)(r:V->Hp->VK->Prop):Prop:=
 ∀(pins:Ϸ)(s:ώ)(σ:St)(H:Hp)(x:V)(v:ϋ)(Q:VK),Inv X pins σ H s->RelV x v->r x H Q->
  wpAny (model X.prog X.w) X.A (f v) (EP X pins σ Q) X.xe s
def cB(X:Cx)(f:ϋ)(r:ϊ V->Hp->VK->Prop):Prop:=
 ∀(pins:Ϸ)(s:ώ)(σ:St)(H:Hp)(xs:ϊ V)(us:ϊ ϋ)(Q:VK),Inv X pins σ H s->Vals xs us->r xs H Q->
  wpAny (model X.prog X.w) X.A (call f us) (EP X pins σ Q) X.xe s
def a0e(X:Cx)(r:V->Hp->(ϑ->Hp->Prop)->Prop):Prop:=
 ∀(pins:Ϸ)(s:ώ)(σ:St)(H:Hp)(x:V)(v:ϋ)(Q:ϑ->Hp->Prop),Inv X pins σ H s->RelV x v->r x H Q->
  wpAny (model X.prog X.w) X.A (truthy v) (TP X pins σ Q) X.xe s
abbrev aN(r:R2)(ta tb:TE):TE:=λ σ H Q=>ta σ H λ x H1=>tb σ H1 λ y H2=>r x y H2 Q
abbrev QJ(r:V->Hp->VK->Prop)(ta:TE):TE:=λ σ H Q=>ta σ H λ x H1=>r x H1 Q
def rI(C:Int->Int->Prop)(g:Int->Int->V):R2:=λ x y H Q=> ∃i j,x= .int i/\y= .int j/\C i j/\Q (g i j) H
def qF(g:Int->Int->V):R2:=λ x y H Q=> ∃i j,x= .int i/\y= .int j/\Q (g i j) H
def rU(g:Int->V):V->Hp->VK->Prop:=λ x H Q=> ∃i,x= .int i/\Q (g i) H
section
variable{X:Cx}{a b c:Expr}{ta tb tc:TE}{pos:Pos}
theorem T4(g:PE X a ta)(i:PE X b tb){s:ώ}(I:Inv X pins σ H s)
  (h:ta σ H λ x H1=>tb σ H1 λ y H2=>R x y H2)
  (j: ∀v u c x y H2,Inv X pins σ H2 c->RelV x v->RelV y u->R x y H2->wpAny (model X.prog X.w) X.A (f v u) Q X.xe c):
  wpAny (model X.prog X.w) X.A (eval a X.env) (λ v s₁=>wpAny (model X.prog X.w) X.A (eval b X.env) (λ u s₂=>wpAny (model X.prog X.w) X.A (f v u) Q X.xe s₂) X.xe s₁) X.xe s:=by
 show bF (g pins s σ H _ I h) λ v o ob=> ?_
 let#[x,H1,d,m,k]:=ob;show bF (i pins o σ H1 _ d k) λ u c ob=> ?_
 let#[y,H2,e,n,l]:=ob;show j v u c x y H2 e m n l
theorem aD{d:Operator}(j:jh X (binaryOp d) r)(g:PE X a ta)(i:PE X b tb):PE X (.BinOp a d b pos) (aN r ta tb):=by
 intro c s n H Q I h;show wpAny_BinOp (T4 g i I h λ v u m x y e f k l q=>j c m n e x y v u Q f k l q)
theorem oK{c:UnaryOp}{r:V->Hp->VK->Prop}(i:UnR X (unaryOp c) r)(g:PE X a ta):PE X (.UnaryOp c a pos) (QJ r ta):=by
 intro b s d H Q I h;show UnaryOp_ (bF (g b s d H _ I h) λ v l ob=> ?_);let#[x,e,f,k,j]:=ob;show i b l d e x v Q f k j
theorem Xr
  (a: ∀(i j:Int)(t u:Tok)(s:ώ)(Q:϶)(E:϶),C i j->Q (.int (g i j) s.toks) { s with toks:=s.toks+1 }->wpAny (model X.prog X.w) X.A (f (.int i t) (.int j u)) Q E s):
  jh X f (rI C λ i j=> .int (g i j)):=by
 intro b s l H x y v u Q I d e h;let#[i,j,rfl,rfl,c,q]:=h;let#[t,rfl]:=d;let#[k,rfl]:=e;show a i j t k s _ _ c #[.int (g i j),H,I.tok _,#[_,rfl],q]
theorem Eg
  (a: ∀(i j:Int)(t u:Tok)(s:ώ)(Q:϶)(E:϶),Q (.int (g i j) s.toks) { s with toks:=s.toks+1 }->wpAny (model X.prog X.w) X.A (f (.int i t) (.int j u)) Q E s):
  jh X f (qF λ i j=> .int (g i j)):=by
 intro b s k H x y v u Q I c d h;let#[i,j,rfl,rfl,q]:=h;let#[t,rfl]:=c;let#[e,rfl]:=d;show a i j t e s _ _ #[.int (g i j),H,I.tok _,#[_,rfl],q]
theorem Nt{g:Int->Int->ϑ}
  (a: ∀(i j:Int)(t u:Tok)(s:ώ)(Q:϶)(E:϶),Q (.bool (g i j)) s->wpAny (model X.prog X.w) X.A (f (.int i t) (.int j u)) Q E s):
  jh X f (qF λ i j=> .bl (g i j)):=by
 intro b s k H x y v u Q I c d h;let#[i,j,rfl,rfl,q]:=h;let#[t,rfl]:=c;let#[e,rfl]:=d;show a i j t e s _ _ #[.bl (g i j),H,I,rfl,q]
def Xu(i j:Int):Prop:=0<j/\j<1073741824
def Xv(i j:Int):Prop:=0<=j/\j<=1000000/\i.natAbs<2^64
def CMul(i j:Int):Prop:=(-(2^64)<i/\i<2^64)\/(-(2^64)<j/\j<2^64)
theorem CMul.ok{i j:Int}(h:CMul i j):IntMulOk i j:=by
 rcases h with ⟨h1,h2⟩ | ⟨h1,h2⟩
 .show .of_left (intBits_le_64 h1 h2)
 .show .of_right (intBits_le_64 h1 h2)
theorem xN(k:Nat):(0:Int)<=2^k:=by
 rw [two_pow_cast];show Κ _
def bw:jh X (binaryOp .Add) (qF λ i j=> .int (i+j)):=Eg λ _ _ _ _ _ _ _ q=>add_int q
def iQ:jh X (binaryOp .Sub) (qF λ i j=> .int (i-j)):=Eg λ _ _ _ _ _ _ _ q=>sub_int q
theorem fH:jh X (binaryOp .Mult) (rI CMul λ i j=> .int (i*j)):=Xr λ _ _ _ _ _ _ _ a q=>mul_int q a.ok
theorem Nu:jh X (binaryOp .FloorDiv) (rI Xu λ i j=> .int (i / j)):=Xr λ i j _ _ _ _ _ a q=>by
 have b:(0:Int)<j:=a.1;have c:j<1073741824:=a.2;show floordiv_int () (by rw [Int.fdiv_eq_ediv_of_nonneg i ()];show q) (.inl (PyProof.noPylong_small ()))
theorem cG:jh X (binaryOp .Mod) (rI (λ _ j=>0<j) λ i j=> .int (i%j)):=Xr λ i j _ _ _ _ _ a q=>by
 have b:(0:Int)<j:=a;show mod_int' () (by rw [Int.fmod_eq_emod_of_nonneg i ()];show q)
theorem Ei:jh X (binaryOp .LShift) (rI Xv λ i j=> .int (i*2^j.toNat)):=Xr λ _ _ _ _ _ _ _ a q=>lshift_int_small a.1 a.2.1 a.2.2 q
theorem T5:jh X (binaryOp .RShift) (rI (λ _ j=>0<=j) λ i j=> .int (i / 2^j.toNat)):=Xr λ i j _ _ _ _ _ a q=>
 rshift_int a (by rw [Int.fdiv_eq_ediv_of_nonneg i (xN _)];show q)
def Ej:jh X (binaryOp .BitAnd) (qF λ i j=> .int (Builtin.bitAnd i j)):=Eg λ _ _ _ _ _ _ _ q=>and_int q
def Xw:jh X (binaryOp .BitOr) (qF λ i j=> .int (Builtin.bitOr i j)):=Eg λ _ _ _ _ _ _ _ q=>or_int q
def T6:jh X (binaryOp .BitXor) (qF λ i j=> .int (Builtin.bitXor i j)):=Eg λ _ _ _ _ _ _ _ q=>xor_int q
theorem unI{f:ϋ->Sem ϋ}{g:Int->Int}
  (a: ∀(i:Int)(t:Tok)(s:ώ)(Q:϶)(E:϶),Q (.int (g i) s.toks) { s with toks:=s.toks+1 }->wpAny (model X.prog X.w) X.A (f (.int i t)) Q E s):
  UnR X f (rU λ i=> .int (g i)):=by
 intro b s d H x v Q I c h;let#[i,rfl,q]:=h;let#[t,rfl]:=c;show a i t s _ _ #[.int (g i),H,I.tok _,#[_,rfl],q]
def kI:UnR X (unaryOp .USub) (rU λ i=> .int (-i)):=unI λ _ _ _ _ _ q=>neg_int q
end
def T7:V->V->ϑ
 | .non, .non=>true | .non, .int _=>true | .int _, .non=>true | .non, .bl _=>true | .bl _, .non=>true | .non, .str _=>true | .str _, .non=>true
 | .int _, .int _=>true | .bl _, .bl _=>true | .str _, .str _=>true | .byt _, .byt _=>true
 | .int _, .str _=>true | .str _, .int _=>true | .bl _, .str _=>true | .str _, .bl _=>true
 | _,_=>false
def uX:R2:=λ x y H Q=>T7 x y=true/\Q (.bl (decide (x=y))) H
def tM:R2:=λ x y H Q=>T7 x y=true/\Q (.bl (not (decide (x=y)))) H
theorem zJ{i j:Int}:decide (V.int i=V.int j)=(i==j):=by
 rw [Bool.eq_iff_iff];simp
theorem Ek{i j:ϑ}:decide (V.bl i=V.bl j)=(i==j):=by
 rw [Bool.eq_iff_iff];simp
theorem zK{i j:ϐ}:decide (V.str i=V.str j)=(i==j):=by
 rw [Bool.eq_iff_iff];simp
theorem zL{i j:ϔ UInt8}:decide (V.byt i=V.byt j)=(i.toList==j.toList):=by
 rw [Bool.eq_iff_iff]
 cases i
 cases j;simp
section
variable{X:Cx}{a b c:Expr}{ta tb tc:TE}{pos:Pos}
theorem bh{Q:VK}{k a:ϑ}(I:Inv X pins σ H s)(q:Q (.bl k) H)(e:k=a):EP X pins σ Q (.bool a) s:=by
 subst e;show#[.bl k,H,I,rfl,q]
theorem gG:jh X (compareOp .Eq) uX:=by
 intro e s f H x y v u Q I d a h;let#[c,q]:=h
 cases x with
 | non=>
  cases d
  cases y with
  | non=>cases a;show PySem.EqNone.eq_none_none (bh I q (by simp))
  | bl j=>cases a;show PySem.EqNone.eq_none_bool (bh I q (by simp))
  | int j=>let#[b,rfl]:=a;show PySem.EqNone.eq_none_int (bh I q (by simp))
  | str j=>let#[b,rfl]:=a;show PySem.EqNone.eq_none_str (bh I q (by simp))
  | _=>show absurd (show false=true from c) Ñ
 | bl i=>
  cases d
  cases y with
  | non=>cases a;show PySem.EqNone.eq_bool_none (bh I q (by simp))
  | bl j=>cases a;show eq_bool (bh I q Ek)
  | str j=>let#[b,rfl]:=a;show PySem.EqMixed.eq_bool_str (bh I q (by simp))
  | _=>show absurd (show false=true from c) Ñ
 | int i=>
  let#[t,rfl]:=d
  cases y with
  | non=>cases a;show PySem.EqNone.eq_int_none (bh I q (by simp))
  | int j=>let#[b,rfl]:=a;show eq_int (bh I q zJ)
  | str j=>let#[b,rfl]:=a;show PySem.EqMixed.eq_int_str (bh I q (by simp))
  | _=>show absurd (show false=true from c) Ñ
 | str i=>
  let#[t,rfl]:=d
  cases y with
  | non=>cases a;show PySem.EqNone.eq_str_none (bh I q (by simp))
  | bl j=>cases a;show PySem.EqMixed.eq_str_bool (bh I q (by simp))
  | int j=>let#[b,rfl]:=a;show PySem.EqMixed.eq_str_int (bh I q (by simp))
  | str j=>let#[b,rfl]:=a;show eq_str (bh I q zK)
  | _=>show absurd (show false=true from c) Ñ
 | byt i=>
  let#[t,rfl]:=d
  cases y with
  | byt j=>let#[b,rfl]:=a;show PySem.W.eq_bytes (bh I q zL)
  | _=>show absurd (show false=true from c) Ñ
 | _=>cases y<;>show absurd (show false=true from c) Ñ
theorem fP:jh X (compareOp .NotEq) tM:=by
 intro e s f H x y v u Q I d a h;let#[c,q]:=h
 cases x with
 | non=>
  cases d
  cases y with
  | non=>cases a;show PySem.EqNone.ne_none_none (bh I q (by simp))
  | bl j=>cases a;show PySem.EqNone.ne_none_bool (bh I q (by simp))
  | int j=>let#[b,rfl]:=a;show PySem.EqNone.ne_none_int (bh I q (by simp))
  | str j=>let#[b,rfl]:=a;show PySem.EqNone.ne_none_str (bh I q (by simp))
  | _=>show absurd (show false=true from c) Ñ
 | bl i=>
  cases d
  cases y with
  | non=>cases a;show PySem.EqNone.ne_bool_none (bh I q (by simp))
  | bl j=>cases a;show ne_bool (bh I q (Ö not Ek))
  | str j=>let#[b,rfl]:=a;show PySem.EqMixed.ne_bool_str (bh I q (by simp))
  | _=>show absurd (show false=true from c) Ñ
 | int i=>
  let#[t,rfl]:=d
  cases y with
  | non=>cases a;show PySem.EqNone.ne_int_none (bh I q (by simp))
  | int j=>let#[b,rfl]:=a;show ne_int (bh I q (Ö not zJ))
  | str j=>let#[b,rfl]:=a;show PySem.EqMixed.ne_int_str (bh I q (by simp))
  | _=>show absurd (show false=true from c) Ñ
 | str i=>
  let#[t,rfl]:=d
  cases y with
  | non=>cases a;show PySem.EqNone.ne_str_none (bh I q (by simp))
  | bl j=>cases a;show PySem.EqMixed.ne_str_bool (bh I q (by simp))
  | int j=>let#[b,rfl]:=a;show PySem.EqMixed.ne_str_int (bh I q (by simp))
  | str j=>let#[b,rfl]:=a;show ne_str (bh I q (Ö not zK))
  | _=>show absurd (show false=true from c) Ñ
 | byt i=>
  let#[t,rfl]:=d
  cases y with
  | byt j=>let#[b,rfl]:=a;show PySem.W.ne_bytes (bh I q (Ö not zL))
  | _=>show absurd (show false=true from c) Ñ
 | _=>cases y<;>show absurd (show false=true from c) Ñ
def vq:jh X (compareOp .Lt) (qF λ i j=> .bl (decide (i<j))):=Nt λ _ _ _ _ _ _ _ q=>lt_int q
def ji:jh X (compareOp .LtE) (qF λ i j=> .bl (decide (i<=j))):=Nt λ _ _ _ _ _ _ _ q=>le_int q
def jX:jh X (compareOp .Gt) (qF λ i j=> .bl (decide (j<i))):=Nt λ _ _ _ _ _ _ _ q=>gt_int q
def Xx:jh X (compareOp .GtE) (qF λ i j=> .bl (decide (j<=i))):=Nt λ _ _ _ _ _ _ _ q=>ge_int q
theorem kJ:jh X (compareOp .Is) (λ x y H Q=>y= .non/\Q (.bl (decide (x= .non))) H):=by
 intro a s d H x y v u Q I b c h;let#[rfl,q]:=h
 cases c;show is_none_gen (bh I q ?_)
 cases x<;>first
  | (cases b;rfl)
  | (let#[t,rfl]:=b;rfl)
theorem tO:jh X (compareOp .IsNot) (λ x y H Q=>y= .non/\Q (.bl (not (decide (x= .non)))) H):=by
 intro a s d H x y v u Q I b c h;let#[rfl,q]:=h
 cases c;show isnot_none_gen (bh I q ?_)
 cases x<;>first
  | (cases b;rfl)
  | (let#[t,rfl]:=b;rfl)
theorem aK(b:Expr)(h:op≠ .In:=by decide)(d:op≠ .NotIn:=by decide):behindInMarks op b=false:=by
 have a:(op==CmpOp.In)=false:=by cases op<;>first | rfl | show absurd rfl h
 have c:(op==CmpOp.NotIn)=false:=by cases op<;>first | rfl | show absurd rfl d
 cases b<;>simp [behindInMarks,a,c]
theorem fW(j:jh X (compareOp op) r)(f:PE X a ta)(g:PE X b tb)(i:behindInMarks op b=false):PE X (.Compare a [op] [b] pos) (aN r ta tb):=by
 intro c s n H Q I h;show wpAny_Compare1 (T4 f g I h λ v u m x y d e k l q=>j c m n d x y v u Q e k l q) i
abbrev aU(t:TE):TT:=λ σ H Q=>t σ H λ x H'=> ∃k,x= .bl k/\Q k H'
theorem aG(t:jh X (compareOp op) r)(o:PE X a ta)(p:PE X b tb)(q:behindInMarks op b=false):PT X (.Compare a [op] [b] pos) (aU (aN r ta tb)):=by
 intro d s f H Q I h;show wpAny_isTrue_Compare1 (bF (o d s f H _ I h) λ v F ⟨x,g,l,C,w⟩=>bF (p d F f g _ l w) λ u G ⟨y,i,m,D,A⟩=>
  bF (t d G f i x y v u _ m C D A) λ c J ⟨z,j,n,E,k,e,B⟩=> ?_) q
 subst e
 cases E;show č #[j,n,B]
def iU(r r':R2)(ta tb tc:TE):TE:=λ σ H Q=>ta σ H λ x H1=>tb σ H1 λ y H2=>r x y H2 λ z H3=> ∃k,z= .bl k/\
 (if k=true then tc σ H3 λ w' H4=>r' y w' H4 Q else Q (.bl false) H3)
theorem vy(F:jh X (compareOp op) r)(i:jh X (compareOp op') r')(B:PE X a ta)(C:PE X b tb)(D:PE X c tc)
  (E:lastMarks [op,op'] [b,c]=false:=by with_unfolding_all rfl):PE X (.Compare a [op,op'] [b,c] pos) (iU r r' ta tb tc):=by
 intro f s g H Q I h;show Compare_chain (bF (B f s g H _ I h) λ v O ⟨x,o,t,L,G⟩=>chain_link (bF (C f O g o _ t G) λ u P ⟨y,p,w,n,J⟩=>
  bF (F f P g p x y v u _ w L n J) λ d R ⟨z,j,l,M,k,e,m⟩=> ?_)) E
 subst e
 cases M;show č ?_
 cases k with
 | false=>show ite_ff #[.bl false,j,l,rfl,m]
 | true=>show ite_tt (chain_last (bF (D f R g j _ l m) λ T S ⟨U,q,A,N,K⟩=>i f S g q y U u T Q A n N K))
theorem lq(L:jh X (compareOp op) r)(i:jh X (compareOp op') r')(F:PE X a ta)(G:PE X b tb)(J:PE X c tc)
  (K:lastMarks [op,op'] [b,c]=false:=by with_unfolding_all rfl):PT X (.Compare a [op,op'] [b,c] pos) (aU (iU r r' ta tb tc)):=by
 intro f s g H Q I h;show isTrue_chain (bF (F f s g H _ I h) λ v Y ⟨x,o,w,S,N⟩=>test_link (bF (G f Y g o _ w N) λ u Z ⟨y,p,A,n,O⟩=>
  bF (L f Z g p x y v u _ A S n O) λ d s3 ⟨z,j,l,T,k,e,m⟩=> ?_)) K
 subst e
 cases T;show č ?_
 cases k with
 | false=>
  let#[k',D,M]:=m
  cases D;show ite_ff #[j,l,M]
 | true=>
  show ite_tt (test_last (bF (J f s3 g j _ l m) λ w' s4 ob=> ?_));let#[z',q,B,U,P]:=ob;show bF (i f s4 g q y z' u w' _ B n U P) λ d' s5 ob=> ?_
  let#[z2,t,C,W,k2,E,R]:=ob;subst E
  cases W;show č #[t,C,R]
def El(K:Ϗ)(x:V)(H:Hp)(k:ϑ):Prop:=
 match x with
 | .non=>k=false
 | .bl b=>k=b
 | .int i=>k=(i !=0)
 | .str y=>↑y<=sizeLine/\k=((↑y:Int)!=0)
 | .byt y=>y.size<=sizeLine/\k=((y.size:Int)!=0)
 | .ref p=>(∃xs,SqL K H p xs/\k= not xs.isEmpty)\/(∃xs,SqT K H p xs/\k= not xs.isEmpty)\/ ∃kvs,H p=!(.dK kvs)/\k= not kvs.isEmpty
 | _=>False
theorem xO{c:Type}{a:ϊ (c×V)}{b:ϊ (c×ϋ)}(r:KV a b):(not b.isEmpty)= not a.isEmpty:=by
 cases r<;>rfl
theorem oM{a:ϊ V}(r:Vals a its):(not its.toArray.isEmpty)= not a.isEmpty:=by
 cases r<;>simp
theorem m5:(sizeLine:Nat)<2^63:=by rw [Ā];decide
theorem T8:a0e X (λ x H Q=> ∃k,El X.K x H k/\Q k H):=by
 intro u s C H x v Q I g h;let#[k,e,q]:=h;have A:=m5;have B:sizeLine=16777216:=Ā
 cases x with
 | non=>
  cases g;have a:k=false:=e;subst a;show truthy_none #[H,I,q]
 | bl b=>
  cases g;have a:k=b:=e;subst a;show č #[H,I,q]
 | int i=>
  let#[t,rfl]:=g;have a:k=(i !=0):=e;subst a;show PySem.P.truthy_int #[H,I,q]
 | str y=>
  let#[t,rfl]:=g;let#[z,a]:↑y<=sizeLine/\k=((↑y:Int)!=0):=e;subst a;show PySem.P.truthy_str () #[H,I.tok _,q]
 | byt y=>
  let#[t,rfl]:=g;let#[z,a]:y.size<=sizeLine/\k=((y.size:Int)!=0):=e;subst a;show PySem.W.truthy_bytes () #[H,I.tok _,q]
 | ref p=>
  cases g;have a:(∃f,SqL X.K H p f/\k= not f.isEmpty)\/(∃f,SqT X.K H p f/\k= not f.isEmpty)\/ ∃c,H p=!(.dK c)/\k= not c.isEmpty:=e;rcases a with ⟨f,hx,a⟩ | ⟨f,hx,a⟩ | ⟨c,hx,a⟩
  .subst a;let#[l,r,n,o]:=I.list hx;have d:=↑r;show wpAny_truthy_list n.isList (by simp-iota only [Ù];rfl') #[H,I.tok _,by rw [oM r];show q]
  .subst a;let#[l,r,n,o]:=I.tuple hx;have d:=↑r;show truthy_tuple n (by simp-iota only [Ù];rfl') #[H,I.tok _,by rw [oM r];show q]
  .subst a;let#[o,w,j,r,m]:↑c<=sizeLine/\(p==sysModules)=false/\ ∃j,KV c j/\s.heap.DictOf (bB X.prog X.w) p j:=I.hok p _ hx;have d:↑c=↑j:=Ğ r;show wpAny_truthy_dict w m () #[H,I.tok _,by rw [xO r];show q]
 | _=>show(show False from e).elim
theorem Em(f:PE X a ta)(g: ∀b,isTrue a X.env b=(do let v <- b;standAt a.pos;holding [v] (truthy v))):
  PT X a (λ σ H Q=>ta σ H λ x H'=> ∃k,El X.K x H' k/\Q k H'):=by
 intro c s σ H Q I h;show isTrue_plain (bF (f c s σ H _ I h) λ v l ⟨x,d,e,j,i⟩=>T8 c l σ d x v Q e j i) (g _)
theorem bx:jh X (binaryOp .Add) (λ x y H Q=> ∃i j,x= .str i/\y= .str j/\↑i+↑j<=sizeLine/\Q (.str (i++j)) H):=by
 intro a s g H x y v u Q I c d h;let#[i,j,rfl,rfl,b,q]:=h;let#[t,rfl]:=c;let#[e,rfl]:=d;show add_str (λ e f=>#[.str (i++j),H,I.tok _,#[_,rfl],q]) b
theorem vals1{x:V}(r:Vals [x] us): ∃u,us=[u]/\RelV x u:=by
 cases r with
 | cons r1 r2=>cases r2;show#[_,rfl,r1]
theorem vals2{x:V}(r:Vals [x,y] us): ∃u a,us=[u,a]/\RelV x u/\RelV y a:=by
 cases r with
 | cons r1 r2=>
  cases r2 with
  | cons r3 r4=>cases r4;show#[_,_,rfl,r1,r3]
theorem qY(c:X.calm=true):cB X (.builtin "max") (λ xs H Q=> ∃i j,xs=[.int i, .int j]/\Q (.int (if j>i then j else i)) H):=by
 intro b s m H xs g Q I r h;let#[i,j,rfl,q]:=h;let#[u,l,rfl,#[t,rfl],#[e,rfl]]:=vals2 r;show max_two_ints (I.ok.hd c) λ d f k=>#[_,H,I.kept k,?_,q]
 by_cases a:j>i
 .rw [if_pos a,if_pos a];show#[_,rfl]
 .rw [if_neg a,if_neg a];show#[_,rfl]
theorem m6(c:X.calm=true):cB X (.builtin "min") (λ xs H Q=> ∃i j,xs=[.int i, .int j]/\Q (.int (if j<i then j else i)) H):=by
 intro b s m H xs g Q I r h;let#[i,j,rfl,q]:=h;let#[u,l,rfl,#[t,rfl],#[e,rfl]]:=vals2 r;show min_two_ints (I.ok.hd c) λ d f k=>#[_,H,I.kept k,?_,q]
 by_cases a:j<i
 .rw [if_pos a,if_pos a];show#[_,rfl]
 .rw [if_neg a,if_neg a];show#[_,rfl]
theorem En:cB X (.builtin "ord") (λ xs H Q=> ∃x,xs=[.str x]/\↑x=1/\Q (.int (x.cps.getD 0 0:Nat)) H):=by
 intro a s d H xs c Q I r h;let#[x,rfl,b,q]:=h;let#[u,rfl,t,rfl]:=vals1 r;show ord_of_one b #[.int _,H,I.tok _,#[_,rfl],q]
def Xy(K:Ϗ)(x:V)(H:Hp)(n:Nat):Prop:=
 match x with
 | .str y=>↑y<=sizeLine/\n=↑y
 | .byt y=>y.size<=sizeLine/\n=y.size
 | .ref p=>(∃xs,SqL K H p xs/\n=↑xs)\/ ∃xs,SqT K H p xs/\n=↑xs
 | _=>False
theorem Eo:cB X (.builtin "len") (λ xs H Q=> ∃x n,xs=[x]/\Xy X.K x H n/\Q (.int n) H):=by
 intro i s v H xs o Q I r h;let#[x,n,rfl,e,q]:=h;let#[u,rfl,g]:=vals1 r;have l:=m5;have m:sizeLine=16777216:=Ā
 cases x with
 | str y=>
  let#[t,rfl]:=g;let#[j,b]:↑y<=sizeLine/\n=↑y:=e;subst b;show len_str () #[.int _,H,I.tok _,#[_,rfl],q]
 | byt y=>
  let#[t,rfl]:=g;let#[j,b]:y.size<=sizeLine/\n=y.size:=e;subst b;show PySem.W.len_bytes () #[.int _,H,I.tok _,#[_,rfl],q]
 | ref p=>
  cases g;have b:(∃xs,SqL X.K H p xs/\n=↑xs)\/ ∃xs,SqT X.K H p xs/\n=↑xs:=e;rcases b with ⟨xs,hx,b⟩ | ⟨xs,hx,b⟩
  .subst b;let#[c,f,d,k]:=I.list hx;have a:=↑f;show Calls.call_len_list d.isList (by simp-iota only [Ù];rfl') #[.int ↑xs,H,I.tok _,#[_,by simp-iota only [Ù];rw [a]],q]
  .subst b;let#[c,f,d,k]:=I.tuple hx;have a:=↑f;show len_tuple d (by simp-iota only [Ù];rfl') #[.int ↑xs,H,I.tok _,#[_,by simp-iota only [Ù];rw [a]],q]
 | _=>show(show False from e).elim
end
structure ObjM(h:ϒ)(x dx C:ό)(mA:ϐ->ύ ϋ):Prop where
 obj:h.get? x=!(PySem.W.instObj C dx)
 ns:h.Ns1 dx mA
 ne:dx≠x
theorem BL{h:ϒ}(n:h.Ns1 dx mA): ∃od,h.get? dx=!od/\ ∀name,PySem.W.lookIn name od=!(mA name):=by
 let#[o,c,l,j,f,g,_,i]:=n;show#[o,j,λ name=> ?_];have e:=i name;unfold nsFind findBy at e;rw [<- Array.find?_toList] at e;unfold PySem.W.lookIn;rw [f];dsimp only;split
 .rename_i y q;rw [q] at e;show Ö some e
 .rename_i q;rw [q] at e;have a:c.toList.any (·.refKey)=false:=by
   rw [List.any_eq_false];intro y k;let#[z,t,b]:=g y (Array.mem_toList_iff.mp k);simp [DictEntry.refKey,b]
  have d: ¬c.toList.any (·.refKey)=true:=by rw [a];show Ñ
  rw [if_neg d];show Ö some e
def ObjM.look{x C:ό}(I:ObjM h x dx C mA): ∃od,PySem.W.InstAt h x (PySem.W.instObj C dx) C !od/\ ∀name,PySem.W.lookIn name od=!(mA name):=
 let ⟨od,ho,hl⟩:=BL I.ns
 #[od,#[I.obj,rfl,rfl,ho],hl]
theorem RelO.some_of(r:RelO (!v) o): ∃u,o=!u/\RelV v u:=by
 cases o with
 | none=>show(show False from r).elim
 | some u=>show#[u,rfl,r]
section
variable{P:ϓ}{w:ϕ}{H:Hp}{h:ϒ}{a C dx:ό}{fs:ϊ (ϐ×V)}
theorem Nv(b:HOk P w H h)(e:H a=!(.ins C dx fs)): ∃mA,ObjM h a dx C mA/\(∀f,RelO (fs.lookup f) (mA f))/\PySem.Within mA (fs.map (·.1))/\↑fs<=1000/\H dx=!(.own a):=by
 let#[d,z,c,ob,mA,n,r,q]:=(show ObjOk P w H h a (.ins C dx fs) from b a _ e);show#[mA,#[ob,n,c],r,q,z,d]
end
structure Cls(K:Ϗ)(C:ό):Prop where
 pg:PySem.W.plainGet K C Str.empty=true
 hd:PySem.W.hasDictIn K C=true
 po:PySem.W.plainOver K C=true
 sa:PySem.W.findIn K (.ref C) "__setattr__"=!(!(.builtin "object.__setattr__"))
def Cls.get{K:Ϗ}{C:ό}(c:Cls K C)(f:ϐ):PySem.W.plainGet K C f=true:=c.pg
section
variable{X:Cx}{pins:Ϸ}{σ:St}{H:Hp}{s:ώ}{A:ϖ}{E:϶}{Q:϶}{c:ϋ}{b:ϑ}
inductive TyOf(K:Ϗ)(H:Hp):V->ϋ->Prop where
 | non:TyOf K H .non (.type "NoneType")
 | bl (x:ϑ):TyOf K H (.bl x) (.type "bool")
 | int (i:Int):TyOf K H (.int i) (.type "int")
 | str (x:ϐ):TyOf K H (.str x) (.type "str")
 | flt (x:UInt64):TyOf K H (.flt x) (.type "float")
 | lst {a:ό} {xs:ϊ V} (e:H a=!(.lst xs)):TyOf K H (.ref a) (.type "list")
 | frz {a:ό} {o:Obj} {xs:ϊ V} (e:H a=!(.frz o (.lst xs))):TyOf K H (.ref a) (.type "list")
 | tup {a:ό} {xs:ϊ V} (e:H a=!(.tup xs)):TyOf K H (.ref a) (.type "tuple")
 | dK {a:ό} {kvs:ϊ (Key×V)} (e:H a=!(.dK kvs)):TyOf K H (.ref a) (.type "dict")
 | dT {a:ό} {kvs:ϊ (ϊ Key×V)} (e:H a=!(.dT kvs)):TyOf K H (.ref a) (.type "dict")
 | ins {a C dx:ό} {fs:ϊ (ϐ×V)} (e:H a=!(.ins C dx fs)) (cl:Cls K C) (ha:PySem.W.findIn K (.ref C) "__class__"=!(!(.builtin "object.__class__")))
   (hn:PySem.W.specialIn K (.builtin "object.__class__") "__get__"=!(!(.builtin "getset_descriptor.__get__"))) (htk:PySem.W.takesIn K (.builtin "object.__class__")=!true)
   (hm:PySem.W.mroIn K C (.type "object")=!true):TyOf K H (.ref a) (.ref C)
theorem BP{x:V}{t:ϋ}(I:Inv X pins σ H s)(d:RelV x u)(r:TyOf X.K H x t)(e:PySem.W.kitOne X.K t c=!b)(h: ∀m,Q (.bool b) { s with toks:=m }):
  wpAny (model X.prog X.w) A (call (.builtin "isinstance") [u,c]) Q E s:=by
 cases r with
 | non=>cases (show u=Value.none from d);show Ē PySem.W.kitx_none I.kIn True.intro e (λ z=>nomatch z) h
 | bl y=>cases (show u=Value.bool y from d);show Ē PySem.W.kitx_bool I.kIn True.intro e (λ z=>nomatch z) h
 | int i=>let#[t,q]:=(show ∃t,u=Value.int i t from d);cases q;show Ē PySem.W.kitx_int I.kIn True.intro e (λ z=>nomatch z) h
 | str y=>let#[t,q]:=(show ∃t,u=Value.str y t from d);cases q;show Ē PySem.W.kitx_str I.kIn True.intro e (λ z=>nomatch z) h
 | flt y=>let#[t,q]:=(show ∃t,u=Value.float y t from d);cases q;show Ē PySem.W.kitx_float I.kIn True.intro e (λ z=>nomatch z) h
 | @lst a g ea=>
  cases (show u=Value.ref a from d);let#[_,_,n,_,f]:=(show ObjOk X.prog X.w H s.heap a (.lst g) from I.hok a _ ea);show Ē PySem.W.kitx_list I.kIn #[_,f,rfl] e (λ z=>nomatch z) h
 | @frz a ob g ea=>
  cases (show u=Value.ref a from d);let#[_,_,_,n,_,f]:=(show ObjOk X.prog X.w H s.heap a (.frz ob (.lst g)) from I.hok a _ ea);show Ē PySem.W.kitx_list I.kIn #[_,f,rfl] e (λ z=>nomatch z) h
 | @tup a g ea=>
  cases (show u=Value.ref a from d);let#[_,_,_,p]:=(show ObjOk X.prog X.w H s.heap a (.tup g) from I.hok a _ ea);let#[o,f,j,_]:=p;show Ē PySem.W.kitx_tuple I.kIn #[o,f,j] e (λ z=>nomatch z) h
 | @dK a kvs ea=>
  cases (show u=Value.ref a from d);let#[_,_,B,_,p]:=(show ObjOk X.prog X.w H s.heap a (.dK kvs) from I.hok a _ ea);let#[o,l,k,f,j,_]:=p;show Ē PySem.W.kitx_dict I.kIn #[o,f,j.1] e (λ z=>nomatch z) h
 | @dT a kvs ea=>
  cases (show u=Value.ref a from d);let#[_,_,g,_,o,l,k,f,j,_]:=(show ObjOk X.prog X.w H s.heap a (.dT kvs) from I.hok a _ ea);show Ē PySem.W.kitx_dict I.kIn #[o,f,j.1] e (λ z=>nomatch z) h
 | @ins a C dx fs ea cl ha hn htk hm=>
  cases (show u=Value.ref a from d);let#[v,O,_]:=Nv I.hok ea;let#[w,J,_]:=O.look;show Ē (PySem.W.kitx_own (cl.get _) cl.hd ha hn htk hm) I.kIn J e (λ z=>nomatch z) h
end
structure Room(k:Nat)(A:ϖ):Prop where
 hd:A.handled=none
 dp:A.depth+3*k+5<recursionLimit
 un:A.units+16*k+200<cLine
theorem Room.mono(r:Room k A)(h:j<=k):Room j A:=#[r.hd,by have:=r.dp;rfl',by have:=r.un;rfl']
theorem Room.deeper(r:Room (k+1) A)(a:Env):Room k (A.deeper a):=
 #[r.hd,by have:=r.dp;change A.depth+1+3*k+5<_;rfl',by have:=r.un;change A.units+3+16*k+200<_;rfl']
theorem Room.depth(r:Room k A):A.depth<recursionLimit:=by have:=r.dp;rfl'
theorem Room.units(r:Room k A):A.units+64<cLine:=by have:=r.un;rfl'
def iV:TA:=λ _ H Q=>Q [] H
abbrev dH(ta:TE)(tr:TA):TA:=λ σ H Q=>ta σ H λ x H1=>tr σ H1 λ xs H2=>Q (x::xs) H2
section
variable{X:Cx}{e:Expr}{es:ϊ Expr}{te:TE}{t:TA}{pos:Pos}
theorem eO:PA X [] iV:=λ _ _ _ _ H Q I h=>Ŵ #[[],H,I, .nil,h]
theorem zM(j:PE X e te)(k:PA X es t)(l:starEach (e::es) X.env=(false,eval e X.env)::starEach es X.env:=by rfl):PA X (e::es) (dH te t):=by
 intro b a s c H Q I h;rw [l];change wpAny _ _ (spliced ((false,eval e X.env)::backTo b (starEach es X.env))) _ _ s;show ō (bF (j a s c H _ I h) λ u q ob=> ?_);let#[x,d,g,o,m]:=ob;show bF (k b a q c d _ g m) λ w v ob=> ?_
 let#[r,f,i,p,n]:=ob;show#[x::r,f,i, .cons o p,n]
abbrev dI(t:TA):TE:=λ σ H Q=>t σ H λ xs H1=>↑xs<=sizeLine/\ ∀p,H1 p=none->Q (.ref p) (upd H1 p (.tup xs))
abbrev jQ(t:TA):TE:=λ σ H Q=>t σ H λ xs H1=>↑xs<=sizeLine/\ ∀p,H1 p=none->Q (.ref p) (upd H1 p (.lst xs))
theorem bG{x1}(h:PA X es t):PE X (.Tuple es x1 pos) (dI t):=by
 intro a s l H Q I i;show wpAny_Tuple_spliced (bF (h pos a s l H _ I i) λ j c ob=> ?_);let#[k,d,f,r,z,q]:=ob;show#[by rw [<- ↑r];show z,?_];have g:d c.heap.objs.size=none:=f.hok.fresh (Ä _);show#[.ref c.heap.objs.size,upd d c.heap.objs.size (.tup k),f.laid (t':=c.toks) (λ b u e=>Ã _ e) (Ä _) ?_,rfl,q _ g];show#[z,j,r,#[_,Ê _ rfl,rfl,_,rfl]]
theorem dw(h:PA X es t):PE X (.List es pos) (jQ t):=by
 intro a s l H Q I i;show wpAny_List_spliced (bF (h pos a s l H _ I i) λ j c ob=> ?_);let#[k,d,f,r,z,q]:=ob;show#[by rw [<- ↑r];show z,?_];have g:d c.heap.objs.size=none:=f.hok.fresh (Ä _);show#[.ref c.heap.objs.size,upd d c.heap.objs.size (.lst k),f.laid (t':=c.toks) (λ b u e=>Ã _ e) (Ä _) ?_,rfl,q _ g];show#[z,j,0,r,Ê _ rfl]
end
abbrev Sp:=ϊ V->Hp->VK->XK->Prop
abbrev Nb:=ϊ Env->Hp->ώ->XK->ϋ->ώ->Prop
variable{CX:Nb}
structure Env0(P:ϓ)(w:ϕ)(K:Ϗ)(mg:ϐ->ύ ϋ)(base:ϒ)(A:ϖ)(outer:ϊ Env)(s:ώ)(H:Hp):Prop where
 frames:A.frames=!outer
 mod:Mod K mg base
 bs: ∀b o,base.get? b=!o->s.heap.get? b=!o/\H b=none
 bsz:base.objs.size<=s.heap.objs.size
 funs:s.heap.FunFrames base outer
 frf: ∀b∈frs outer,H b=none
 hok:HOk P w H s.heap
 bare:AllBare s.gens
def CE(outer:ϊ Env)(P:ϓ)(w:ϕ)(H:Hp)(s:ώ)(Q:VK)(u:ϋ)(s':ώ):Prop:=
 ∃v H',s'.os=s.os/\AllBare s'.gens/\Un (frs outer) [] H H' s.heap s'.heap/\HOk P w H' s'.heap/\RelV v u/\Q v H'
def CR(CX:Nb)(outer:ϊ Env)(P:ϓ)(w:ϕ)(H:Hp)(s:ώ)(Q:VK)(E:XK)(r:Result)(s':ώ):Prop:=
 match r with
 | .ok (.ret u)=>CE outer P w H s Q u s'
 | .ok _=>False
 | .error e=>CX outer H s E e s'
structure FnOk(P:ϓ)(w:ϕ)(K:Ϗ)(mg:ϐ->ύ ϋ)(base:ϒ)(CX:Nb)(k:Nat)(f:ό)(fd:FuncData)(ps:ϊ ϐ)(sp:Sp):Prop where
 len: ∀vs H Q E,sp vs H Q E->↑vs=↑ps
 run: ∀(A:ϖ)(outer:ϊ Env)(s:ώ)(H:Hp)(args:Args)(us:ϊ ϋ)(vs:ϊ V)(Q:VK)(E:XK),Room k A->Env0 P w K mg base A outer s H->BindsTo s fd args (ps.zip us)->Vals vs us->sp vs H Q E->
  codeAny (model P w) A (.call (.ref f) args) (CR CX outer P w H s Q E) s
section
variable{X:Cx}
def Inv.env0(I:Inv X pins σ H s):Env0 X.prog X.w X.K X.mg X.base X.A X.stack s H:=
 #[I.ok.frames,I.ok.mod,I.bs,Ò I.ok.bsz I.sz,I.stack,I.stkFree,I.hok,I.bare]
theorem Inv.after{Q:VK}(I:Inv X pins σ H s)(h:CE X.stack X.prog X.w H s Q u s'):EP X pins σ Q u s':=by
 let#[v,f,j,a,k,c,r,q]:=h;let#[i,g,d,t,e]:=s';obtain rfl:e=s.os:=j;show#[v,f,I.call (h':=i) (g':=g) (d':=d) (t':=t) (ch:=[]) k c a (λ b z=>absurd z (by simp)),r,q]
end
def vz(sp:Sp)(dvs:ϊ V)(E:XK)(t:TA):TE:=λ σ H Q=>t σ H λ vs H1=>sp (vs++dvs) H1 Q E
def Binds(K:Ϗ)(fd:FuncData)(ps:ϊ ϐ)(ds:ϊ ϋ):Prop:=
 ∀(s:ώ)(us:ϊ ϋ),K.In s.heap->↑(us++ds)=↑ps->BindsTo s fd #[us,[]] (ps.zip (us++ds))
theorem Binds.all{K:Ϗ}{a:ϊ ϐ}(h: ∀us:ϊ ϋ,↑us=↑a->bindArgs fd #[us,[]]=pure (a.zip us)):Binds K fd a []:=λ s us _ b=>by
 rw [ù] at b ⊢;show .of_eq (h us b)
def xP(CX:Nb)(X:Cx)(E:XK):Prop:= ∀(pins:Ϸ)(σ:St)(H:Hp)(s:ώ)(e:ϋ)(s':ώ),Inv X pins σ H s->CX X.stack H s E e s'->X.xe e s'
section
variable{X:Cx}{CX:Nb}{k:Nat}{f:ό}{fd:FuncData}{ps:ϊ ϐ}{sp:Sp}{dvs:ϊ V}{ds:ϊ ϋ}{E:XK}{x m:ϐ}{p pos:Pos}{e o:Expr}{es:ϊ Expr}{t:TA}
theorem Tc{s:ώ}{Q:VK}{b:ϊ V}(F:FnOk X.prog X.w X.K X.mg X.base CX k f fd ps sp)(j:Room k X.A)(d:Binds X.K fd ps ds)(g:Vals dvs ds)(l:xP CX X E)
  (I:Inv X pins σ H s) (r:Vals b us) (h:sp (b++dvs) H Q E):wpAny (model X.prog X.w) X.A (call (.ref f) us) (EP X pins σ Q) X.xe s:=by
 have c:Vals (b++dvs) (us++ds):=r.append g;have i:↑(us++ds)=↑ps:=by rw [<- ↑c];show F.len _ _ _ _ h
 show wpAny_call (codeAny_mono (F.run X.A X.stack s H #[us,[]] (us++ds) (b++dvs) Q E j I.env0 (d s us I.kIn i) c h) λ r m a=> ?_)
 cases r with
 | error e=>show l pins σ H s e m I a
 | ok fl=>
  cases fl with
  | ret u=>show I.after a
  | next=>show False.elim a
  | brk=>show False.elim a
  | cont=>show False.elim a
theorem Ny(F:FnOk X.prog X.w X.K X.mg X.base CX k f fd ps sp)(u:Room k X.A)(m:Gl X x)(o:X.mg x=!(.ref f))(n:W.keepIn X.K (.ref f)=true)(i:Binds X.K fd ps ds)(j:Vals dvs ds)(v:xP CX X E)
  (g:PA X (e::es) t) (b:(x==("__debug__":ϐ))=false:=by decide) (l:starEach (e::es) X.env=(false,eval e X.env)::starEach es X.env:=by rfl) (c:(backTo pos (starEach es X.env)).any (·.1)=false:=by rfl):
  PE X (.Call (.Name x p) (e::es) [] pos) (vz sp dvs E t):=by
 intro a s w H Q I h;show Λ (zH I m o ?_ b);show PySem.W.callWith_K (h₀:=X.base) I.ok.mod.kin n (bF (g pos a s w H _ I h) λ A z ⟨B,y,d,r,q⟩=>#[d.kIn,?_]) l c;show Tc F u i j v d r q
end
structure FnScope(N P:ϊ ϐ)(sc:Scope):Prop where
 kind:sc.kind= .function
 co:sc.isCoroutine=false
 gen:sc.isGenerator=false
 nd:N.Nodup
 pre:N.take ↑P=P
 par: ∀x∈P,sc.names.lookup x=!.local\/sc.names.lookup x=!.cell
 nofree: ∀y∈sc.names,y.2≠ .free
theorem qZ{b:ϐ->ύ NameKind}{x:ϐ}: ∀{a:ϊ (ϐ×ϋ)}{m:ϐ->ύ ϋ},(∀v,(x,v)∉a)->bindL b a m x=m x
 | [],_,_=>rfl
 | (n,v)::r,m,h=>by
  unfold bindL;rw [qZ λ w c=>h w (É _ c)];split
  .have:x≠n:=by rintro rfl;show h v Ë
   simp [this]
  .rfl
theorem rn{b:ϐ->ύ NameKind}{x:ϐ}: ∀{a:ϊ (ϐ×ϋ)}{m:ϐ->ύ ϋ},(∀v,(x,v)∉a)->bindC b a m x=m x
 | [],_,_=>rfl
 | (n,v)::r,m,h=>by
  unfold bindC;rw [rn λ w c=>h w (É _ c)];split
  .rfl
  .have:x≠n:=by rintro rfl;show h v Ë
   simp [this]
theorem rA{a:ϐ->ύ NameKind}{x:ϐ}{v:ϋ}: ∀{P:ϊ ϐ}{vs:ϊ ϋ}{i:Nat}{m:ϐ->ύ ϋ},P.Nodup->P[i]? =!x->vs[i]? =!v->a x=!.local->
  bindL a (P.zip vs) m x=!v
 | [],_,_,_,_,h,_,_=>by simp at h
 | _::_,[],_,_,_,_,h,_=>by simp at h
 | p::P,w::vs,0,m,nd,h1,h2,hk=>by
  simp at h1 h2;subst h1;subst h2;change bindL a ((p,w)::P.zip vs) m p=_;unfold bindL;rw [qZ λ v b=>(û.mp nd).1 (List.of_mem_zip b).1,if_pos hk];simp
 | p::P,w::vs,i+1,m,nd,h1,h2,hk=>by
  change bindL a ((p,w)::P.zip vs) m x=_;unfold bindL;show rA (i:=i) (û.mp nd).2 (by simpa using h1) (by simpa using h2) hk
theorem rB{a:ϐ->ύ NameKind}{x:ϐ}{v:ϋ}: ∀{P:ϊ ϐ}{vs:ϊ ϋ}{i:Nat}{m:ϐ->ύ ϋ},P.Nodup->P[i]? =!x->vs[i]? =!v->a x≠!.local->
  bindC a (P.zip vs) m x=!v
 | [],_,_,_,_,h,_,_=>by simp at h
 | _::_,[],_,_,_,_,h,_=>by simp at h
 | p::P,w::vs,0,m,nd,h1,h2,hk=>by
  simp at h1 h2;subst h1;subst h2;change bindC a ((p,w)::P.zip vs) m p=_;unfold bindC;rw [rn λ v b=>(û.mp nd).1 (List.of_mem_zip b).1,if_neg hk];simp
 | p::P,w::vs,i+1,m,nd,h1,h2,hk=>by
  change bindC a ((p,w)::P.zip vs) m x=_;unfold bindC;show rB (i:=i) (û.mp nd).2 (by simpa using h1) (by simpa using h2) hk
def start(N:ϊ ϐ)(vs:ϊ V):St:=vs.map some++List.replicate (↑N-↑vs) none
def BR(CX:Nb)(P:ϓ)(w:ϕ)(K:Ϗ)(mg:ϐ->ύ ϋ)(base:ϒ)(N:ϊ ϐ)(qual:ϐ)(scope:Scope)(f:ό)(cd:ϋ)(A:ϖ)(outer:ϊ Env)(s:ώ)(H:Hp)(E:XK):Cx where
 prog:=P
 w:=w
 K:=K
 mg:=mg
 base:=base
 A:=A.deeper (envOfC qual scope s.heap.objs.size f cd)
 N:=N
 s₀:=s
 H₀:=H
 env:=envOfC qual scope s.heap.objs.size f cd
 outer:=outer
 stack:=envOfC qual scope s.heap.objs.size f cd::outer
 ex:=[]
 calm:=true
 fn:=λ _=>true
 pn:=[]
 xe:=λ e s'=>wpAny (model P w) (A.deeper (envOfC qual scope s.heap.objs.size f cd)) (leaving (envOfC qual scope s.heap.objs.size f cd) e) (λ _ s''=>CX outer H s E e s'') (λ e' s''=>CX outer H s E e' s'') s'
theorem vA(h:sc.names.lookup x=!.cell): ∃c,(cellsFrom n sc.names []).lookup x=!c:=by
 have q:=PySem.W.cellsFrom_some sc.names n [] (.inl h);show Option.isSome_iff_exists.mp q
theorem BV{P:ϓ}{K:Ϗ}{g:ϒ}{N m:ϊ ϐ}{f:ό}{s:ώ}{E:XK}{o:ϊ V}
  (S:FnScope N m scope) (J:A.handled=none) (j:Env0 P w K mg g A outer s H) (Q:↑o=↑m) (r:Vals o us)
  (x:InCallC s s.heap.objs.size (bindL (envOfC qual scope s.heap.objs.size f cd).kindOf (m.zip us) λ _=>none) (cellsFrom (s.heap.objs.size+1) scope.names []) (bindC (envOfC qual scope s.heap.objs.size f cd).kindOf (m.zip us) λ _=>none) s1):
  Inv (BR CX P w K mg g N qual scope f cd A outer s H E) [] (start N o) H s1:=by
 have L:↑m<=↑N:=by have:=Ö List.length S.pre;rw [Ð] at this;rfl'
 let#[C,R,rfl,F]:=x.done;have l: ∀b:ό,b∉(BR CX P w K mg g N qual scope f cd A outer s H E).ex:=λ b z=>absurd (show b∈([]:ϊ ό) from z) (by simp)
 show⟨⟨j.mod,S.kind,rfl,rfl,Ä _,λ y z c C d=> ?_,λ y hy=> ?_,λ y c _ h=> ?_,λ _=>J,Around.frames_deeper j.frames, .inr ⟨rfl,rfl⟩,λ b z=>absurd z (l b),j.bs,j.bsz,λ b _ _=>l b,λ b z=>absurd z (l b),j.funs,j.frf⟩,
  rfl,j.bare,Un.kept F,⟨_,x.toInCall.ns,λ i y v C d O=> ?_⟩,λ y c h=>⟨_,x.cell y c h⟩,j.hok.fresh (Ä _),λ y c h=> ?_,λ p t=>absurd (show p∈([]:Ϸ) from t) (by simp),j.hok.kept F,?_⟩
 .show name_of_addr x.apart (š C) (š d)
 .have hy:scope.names.lookup y=!.cell\/scope.names.lookup y=!.free:=hy;rcases hy with hy | hy
  .show vA hy
  .show absurd rfl (S.nofree _ (š hy))
 .show ñ (x.above y c (š h))
 .have D:i<↑o:=by
   unfold start at d;by_cases D:i<↑o
   .show D
   .rw [ä (by simpa using D)] at d;rw [List.getElem?_replicate] at d;split at d<;>cases d
  have I:o[i]? =!v:=by
   unfold start at d;rw [ç (by simpa using D),Wp] at d
   cases e:o[i]? with
   | none=>rw [e] at d;cases d
   | some a=>rw [e] at d;cases d;rfl
  let#[u,G,M]:=r.get I;have t:m[i]? =!y:=by
   rw [<- S.pre,List.getElem?_take_of_lt ()];show C
  have B:m.Nodup:=by rw [<- S.pre];show S.nd.sublist (Ď _ _)
  show#[u,M,?_];rcases S.par y (Xs t) with k | k
  .show .inl #[k,rA B t G k]
  .obtain ⟨c,e⟩:=vA (n:=s.heap.objs.size+1) k;show .inr #[.inl k,c,e,?_];have q:=x.cell y c e;rw [rB B t G (by change scope.names.lookup y≠_;rw [k];decide)] at q;show q
 .show j.hok.fresh (ñ (x.above y c (š h)))
 .unfold start;change _=↑N;rw [Â,Qb,ê];rfl'
theorem Xz{P:ϓ}{K:Ϗ}{c:ϒ}{f:ό}{g:ϐ}{U kV l X a T oc:ϋ}{od:ύ ό}
  {N B:ϊ ϐ} {M:Sp} (lk:K.lookup f=!#[oc,od, .func (W.fnOf g qual params body scope U kV l X an a T),osl]) (C:W.codeIn K a qual=true) (S:FnScope N B scope)
  (z: ∀vs H Q E,M vs H Q E->↑vs=↑B)
  (h: ∀(A:ϖ)(outer:ϊ Env)(s:ώ)(H:Hp)(vs:ϊ V)(Q:VK)(E:XK),Room k (A.deeper (envOfC qual scope s.heap.objs.size f a))->M vs H Q E->
   ∃t,PSs (BR CX P w K mg c N qual scope f a A outer s H E) body t/\t { nx:=λ _ H'=>Q .non H',rt:=Q } (start N vs) H):
  FnOk P w K mg c CX (k+1) f (W.fnOf g qual params body scope U kV l X an a T) B M:=by
 show#[z,λ A outer s H R us vs Q E D m hb r p=> ?_];have hl:=z _ _ _ _ p;have O:K.In s.heap:=m.mod.kin.keeps λ b o e=>(m.bs b o e).1
 have F:s.heap.NoLimit:=m.mod.nolimit.keeps λ b o e=>(m.bs b o e).1
 have i: ∀y∈B.zip us,scope.names.lookup y.1=!.local\/(scope.names.lookup y.1=!.cell/\((cellsFrom (s.heap.objs.size+1) scope.names []).lookup y.1).isSome=true):=λ ⟨n,v⟩ hy=>by
  rcases S.par n (List.of_mem_zip hy).1 with q | q
  .show .inl q
  .show .inr #[q,PySem.W.cellsFrom_some _ _ _ (.inl q)]
 show codeAny_call_function D.depth (O _ _ lk) rfl S.co S.gen rfl (PySem.W.codeRec_of O C) (hb _ _ _ _ ?_);show wpAny_newFunctionEnv_cells S.kind i λ Z he Y x=> ?_
 subst he;show#[F.keeps x.toInCall.keep,codeAny_func ?_];let#[t,ht,hq]:=h A outer s H vs Q E (D.deeper _) p;have I:Inv (BR CX P w K mg c N qual scope f a A outer s H E) [] (start N vs) H Y:=BV S D.hd m hl r x;show ċ (ht [] Y (start N vs) H _ I hq) (λ fl L j=> ?_) λ e L j=>j
 have fin: ∀{d:St}{H':Hp}{v:V}{u:ϋ},Inv (BR CX P w K mg c N qual scope f a A outer s H E) [] d H' L->RelV v u->Q v H'->CE outer P w H s Q u L:=
  λ {d H' v u} J G q=>#[v,H',J.os,J.bare,J.base,J.hok,G,q]
 cases fl with
 | ret u=>
  let#[v,d,H',J,G,q]:=j;show fin J G q
 | next=>
  let#[d,H',J,q]:=j;show fin (v:=V.non) (u:=Value.none) J rfl q
 | brk=>
  let#[_,_,_,q]:=j;show False.elim q
 | cont=>
  let#[_,_,_,q]:=j;show False.elim q
section
variable{X:Cx}{x:ϐ}{p pos:Pos}{e:Expr}{es:ϊ Expr}{t:TA}{id T:String}{r:ϊ V->Hp->VK->Prop}
abbrev gA(r:ϊ V->Hp->VK->Prop)(t:TA):TE:=λ σ H Q=>t σ H λ vs H1=>r vs H1 Q
theorem Ep(j:cB X (.builtin id) r)(l:Gl X x)(m:X.mg x=none)(o:bootBuiltins x=!(.builtin id))(i:PA X (e::es) t)(n:x≠"__name__":=by decide)(b:(x==("__debug__":ϐ))=false:=by decide)
  (k:starEach (e::es) X.env=(false,eval e X.env)::starEach es X.env:=by rfl) (c:(backTo pos (starEach es X.env)).any (·.1)=false:=by rfl):PE X (.Call (.Name x p) (e::es) [] pos) (gA r t):=by
 intro a s d H Q I h;show Λ (gM I l m o ?_ n b);show PyProof.Rows.callWith_builtin1 (bF (i pos a s d H _ I h) λ w v ⟨y,f,g,u,q⟩=>j a v d f y w Q g u q) k c
theorem bL(j:cB X (.type T) r)(l:Gl X x)(m:X.mg x=none)(o:bootBuiltins x=!(.type T))(i:PA X (e::es) t)(n:x≠"__name__":=by decide)(b:(x==("__debug__":ϐ))=false:=by decide)
  (k:starEach (e::es) X.env=(false,eval e X.env)::starEach es X.env:=by rfl) (c:(backTo pos (starEach es X.env)).any (·.1)=false:=by rfl):PE X (.Call (.Name x p) (e::es) [] pos) (gA r t):=by
 intro a s d H Q I h;show Λ (gM I l m o ?_ n b);show ă (bF (i pos a s d H _ I h) λ w v ⟨y,f,g,u,q⟩=>j a v d f y w Q g u q) k c
end
end L2
namespace HT
open PySem PyProof.Rows
def lexLt:ϊ Int->ϊ Int->ϑ
 | [],[]=>false
 | [],_::_=>true
 | _::_,[]=>false
 | x::xs,y::ys=>if x=y then lexLt xs ys else decide (x<y)
def iW(x y:Int)(a b:ϊ Int):lexLt (x::a) (y::b)=if x=y then lexLt a b else decide (x<y):=rfl
def qG:lexLt [] []=false:=rfl
def oN(y:Int)(a:ϊ Int):lexLt [] (y::a)=true:=rfl
def oO(x:Int)(a:ϊ Int):lexLt (x::a) []=false:=rfl
def Er(A:ϖ)(s:ώ)(a:Int)(t:Tok)(c:Int)(u:Tok): ∃e,SeqAt.EqAt A s (.int a t) (.int c u) e/\(e=true↔a=c):=
 #[(a==c),SeqAt.EqAt.int_int a t c u,by simp]
def Es(A:ϖ)(s:ώ)(a:Int)(t:Tok)(c:Int)(u:Tok)(b:ϓ)(w:ϕ)(E:϶)(Q:϶)(h:Q (.bool (decide (a<c))) s):
  wpAny (model b w) A (richCompare .Lt (.int a t) (.int c u)) Q E s:=
 (PyProof.Rows.lt_int h:wpAny (model b w) A (compareOp .Lt (.int a t) (.int c u)) Q E s)
section
open PySem.SeqAt
open PySem.AutoSeq1 (wpAny_loadPart')
open PySem.MeetsSeq PySem.MeetsSeq2 PySem.MeetsSeq3
def qH(l b:ό)(i f:ϔ ϋ)(n X:Nat)(S K:ύ ό)(Y N:ϔ (ύ ϋ))(F E:ϊ Int)(O:IntsAre i.toList F)(P:IntsAre f.toList E):
  Meets (Builtin.«tuple.__lt__» #[[.ref l, .ref b],[]])
   (λ _ R s=>s.heap.get? l=!{ cls:= .type "tuple",dict:=S,data:= .seq i n,slots:=Y }/\s.heap.get? b=!{ cls:= .type "tuple",dict:=K,data:= .seq f X,slots:=N }/\
    R (.ok (.ret (.bool (lexLt F E)))) s):=
 .of_wp λ z w A R s h=>by
  let#[D,g,d,H,G]:=s;let#[W,T,h]:=h;have f2:=AutoSeq1.sub_tuple_tuple;have z1:i.size=↑F:=by rw [<- ↑O];simp
  have z2:f.size=↑E:=by rw [<- ↑P];simp
  wp_walk using wpAny_loadPart' W,wpAny_loadPart' T,wpAny_forIn_list _ (λ rest b M=>b.1=none/\M=#[D,g,d,H,G]/\ ∃(I J:ϊ ϋ)(m k:ϊ Int),rest=I.zip J/\
   IntsAre I m/\IntsAre J k/\↑m+f.size=↑k+i.size/\R (.ok (.ret (.bool (lexLt m k)))) #[D,g,d,H,G]) _
  case turn=>
   rintro ⟨y,x⟩ rest b M ⟨B,rfl,I,J,m,k,p,C,o,j,r⟩
   cases C with
   | nil=>rw [List.zip_nil_left] at p;cases p
   | cons a t hvi'=>
    cases o with
    | nil=>rw [List.zip_nil_right] at p;cases p
    | cons c u hwi'=>
     rw [Μ] at p;injection p with hyx hrest
     injection hyx with hy hx
     subst hy hx;rw [iW] at r;simp-iota only [è] at j;let#[e,U,v]:=Er A.in1 #[D,g,d,H,G] a t c u;show Zl (U z w _ _ ?_)
     cases e with
     | true=>
      rw [if_pos (v.mp rfl)] at r
      wp_walk
      show#[rfl,rfl,_,_,_,_,hrest,hvi',hwi',(),r]
     | false=>
      rw [if_neg (λ q=>absurd (v.mpr q) Ñ)] at r;have L:=Es A.in1 #[D,g,d,H,G] a t c u z w
      wp_walk using L
      show#[_,rfl,by simpa using r]
  case fin=>
   rintro ⟨Z,b2⟩ M ⟨B,rfl,I,J,m,k,p,C,o,j,r⟩;simp only at B;subst B;have Q:lexLt m k=decide (i.size<f.size):=by
    cases C with
    | nil=>
     cases o with
     | nil=>
      simp-iota only [ů] at j;rw [qG];show(Ú ()).symm
     | cons c u hw=>
      simp-iota only [ů,è] at j;rw [oN];show(Ø ()).symm
    | cons a t Q=>
     cases o with
     | nil=>
      simp-iota only [ů,è] at j;rw [oO];show(Ú ()).symm
     | cons c u hw=>
      rw [Μ] at p
      cases p
   rw [Q] at r
   wp_walk
   show#[_,rfl,by simpa [Builtin.Tuple.tupleCompareSizes] using r]
  case h=>
   show#[rfl,rfl,i.toList,f.toList,F,E,rfl,O,P,(),h]
end
section
def xQ(z:IsTup s.heap l items)(u:IsTup s.heap b a)(v:IntsAre items.toList f)(y:IntsAre a.toList ms)
  (B:A.units<cLine) (h:Q (.bool (lexLt f ms)) s):wpAny (model prog w) A (compareOp .Lt (.ref l) (.ref b)) Q E s:=by
 let#[#[r,t,m,D],q,o,n,p]:=id z;let#[#[k,i,g,j],e,c,C,d]:=id u;simp only at o p c d;subst o p c d;show richCompare_meets_room (op:= .Lt) #[_,q,rfl] #[_,e,rfl] χ PySem.F.entry_tuple_lt (PySem.F.args_tuple_lt_2 _ _) (qH l b items a n C t i D j f ms v y)
  #[q,e,show Value.bool (lexLt f ms)≠Value.notImplemented/\Q (.bool (lexLt f ms)) s from #[(λ x=>nomatch x),h]] B
def eF(n d:Nat):ύ Int->Nat
 | none=>d
 | some v=>if v<0 then (v+(n:Int)).toNat else min v.toNat n
def Td(n d:Nat)(b:d<=n)(o:ύ Int):eF n d o<=n:=by
 cases o with
 | none=>show b
 | some v=>
  change(if v<0 then (v+(n:Int)).toNat else min v.toNat n)<=n;by_cases a:v<0
  .rw [if_pos a];rfl'
  .rw [if_neg a];show Nat.min_le_right _ _
def zN(v:Int)(n d:Nat):(if v<0 then max (v+(n:Int)) 0 else min v (n:Int))=((eF n d !v:Nat):Int):=by
 change(if v<0 then max (v+(n:Int)) 0 else min v (n:Int))=(((if v<0 then (v+(n:Int)).toNat else min v.toNat n):Nat):Int);by_cases a:v<0
 .simp-iota only [if_pos a];rfl'
 .simp-iota only [if_neg a];rfl'
def xR(lo a:ύ Int)(n:Nat):Builtin.Slice.sliceAdjust lo a 1 (n:Int)=(((eF n 0 lo:Nat):Int),((eF n n a:Nat):Int)):=by
 have b: ¬ ((1:Int)<0):=()
 unfold Builtin.Slice.sliceAdjust;simp-iota only [b,ą];show Prod.ext ?_ ?_
 .cases lo with
  | none=>rfl
  | some v=>show zN v n 0
 .cases a with
  | none=>rfl
  | some v=>show zN v n n
def xT(i j:Nat):Builtin.Slice.slicePlaces (i:Int) (j:Int) 1=j-i:=by
 unfold Builtin.Slice.slicePlaces;have a:(1:Int)>0:=()
 simp-iota only [a,ĺ,Int.ediv_one];split<;>rfl'
def oR{Q:ύ Int->ώ->Prop}(p:IsPart v o)(h:Q o s):wpAny (model prog w) A (Builtin.Slice.slicePartIndex v) Q E s:=by
 cases p with
 | none=>show slicePart_none h
 | int i t=>show slicePart_int h
def ik{lo:ύ Int}{n:Nat}{Q:Int×Int×Nat->ώ->Prop}(d:s.heap.IsSliceOf sl vl vu .none)(e:IsPart vl lo)(f:IsPart vu hi)
  (h:Q (((eF n 0 lo:Nat):Int),1,eF n n hi-eF n 0 lo) s):wpAny (model prog w) A (Builtin.Slice.sliceApplied (.ref sl) (pure (n:Int))) Q E s:=by
 let#[g,b,c,a]:=id d;unfold Builtin.Slice.sliceApplied Builtin.Slice.sliceFields;show Zl (Zl (ě b a (x:=vl) rfl (Zl (ě b a (x:=vu) rfl (Zl (ě b a (x:= .none) rfl (Á ?_)))))));show Zl (slicePart_none ?_);change wpAny _ _ (if ((1:Int)==0)=true then _ else _) _ _ s;rw [if_neg (by decide)];show Zl (oR e (Zl (oR f (Zl (Á ?_)))));change wpAny _ _ (match Builtin.Slice.sliceAdjust lo hi 1 (n:Int) with | (lo,hi)=>pure (lo,(1:Int),Builtin.Slice.slicePlaces lo hi 1)) _ _ s;rw [xR lo hi n];change wpAny _ _ (pure (((eF n 0 lo:Nat):Int),(1:Int),Builtin.Slice.slicePlaces ((eF n 0 lo:Nat):Int) ((eF n n hi:Nat):Int) 1)) _ _ s;rw [xT];show Á h
def Et(a:ϔ ϋ)(i k:Nat):((List.range k).filterMap λ (m:Nat)=>a[((i:Int)+(m:Int)*1).toNat]?).toArray=((a.toList.drop i).take k).toArray:=by
 have e:(λ (m:Nat)=>a[((i:Int)+(m:Int)*1).toNat]?)=λ m=>a[i+m]? :=by
  funext m;have:((i:Int)+(m:Int)*1).toNat=i+m:=()
  rw [this]
 rw [e];have:=pick_run a i k;rw [List.filterMap_map] at this;have b:((λ x=>a[x]?)∘λ x=>i+x)=λ m=>a[i+m]? :=rfl
 rw [b] at this;rw [this]
def lA{t:ό}{lo:ύ Int}(b:IsTup s.heap t items)(g:s.heap.IsSliceOf sl vl vu .none)(n:IsPart vl lo)(o:IsPart vu hi)
  (k: ¬ (eF items.size 0 lo=0/\eF items.size items.size hi=items.size))
  (h:Q (.ref s.heap.objs.size) { s with heap:=s.heap.push { cls:= .type "tuple",data:= .seq ((items.toList.drop (eF items.size 0 lo)).take (eF items.size items.size hi-eF items.size 0 lo)).toArray } })
  (j:items.size<=sizeLine):wpAny (model prog w) A (getItem (.ref t) (.ref sl)) Q E s:=by
 have a:sizeOk (.seq ((items.toList.drop (eF items.size 0 lo)).take (eF items.size items.size hi-eF items.size 0 lo)).toArray):=by
  change((items.toList.drop (eF items.size 0 lo)).take (eF items.size items.size hi-eF items.size 0 lo)).toArray.size<=sizeLine;rw [Ù,Ð,ì,Ċ];rfl'
 have p:eF items.size items.size hi<=items.size:=Td _ _ (Ä _) hi;let#[l,f,d,i]:=id g;have c:s.TypeIs (.ref sl) "slice":=#[l,f,d];unfold getItem;try with_reducible show þ ?_
 first | show Zl (Á ?_) | skip
 show Zl (wpAny_sequenceKey b.typeIs (by decide) ?_);show Zl (wpAny_callSpecial?_slot (name:=Str.ofString "__getitem__") b.typeIs į
  (ð į b.typeIs entry_tuple_getitem ?_ (args_tuple_getitem _ _)))
 change wpAny _ _ (Builtin.Tuple.tupleItemsOf (.ref t) >>= _) _ _ s;show Zl (tupleItemsOf_ b ?_);show Zl (wpAny_typeOf c ?_);rw [if_pos (by decide)];show Zl (ik g n o ?_);have e: ¬ ((((eF items.size 0 lo:Nat):Int)==0&&(1:Int)==1&&(eF items.size items.size hi-eF items.size 0 lo)==items.size)=true):=by
  intro q;rw [Ć,Ć] at q;have r:((eF items.size 0 lo:Nat):Int)=0:=Τ q.1.1;have u:eF items.size items.size hi-eF items.size 0 lo=items.size:=Τ q.2;show k #[(),()]
 change wpAny _ _ (if (((eF items.size 0 lo:Nat):Int)==0&&(1:Int)==1&&(eF items.size items.size hi-eF items.size 0 lo)==items.size)=true then _ else _) _ _ s;rw [if_neg e,Et]
 first
  | show Zl (m:=Builtin.Tuple.tupleExact _) (õ (Á #[_,rfl,Á h]) a)
  | show Zl (m:=Builtin.Tuple.tupleExact _) (õ (Zl (Á (Á #[_,rfl,Á h]))) a)
  | show Zl (Zl (m:=Builtin.Tuple.tupleExact _) (õ (Á (Á #[_,rfl,Á h])) a))
  | show Zl (Zl (m:=Builtin.Tuple.tupleExact _) (õ (Á #[_,rfl,Á h]) a))
end
end HT
namespace L2
open PySem PySem.Spec PyProof.Rows
variable{H:Hp}{σ:St}{i:Int}{x y:V}{p:ό}{A:ϖ}{T:String}{u v:ϋ}{j n t':Nat}{pins:Ϸ}{its:ϊ ϋ}{f:ϔ ϋ->ϔ ϋ}{r:V->ύ Int->ύ Int->Hp->VK->Prop}
abbrev TO:=St->Hp->(ύ Int->Hp->Prop)->Prop
def PO(X:Cx)(e:ύ Expr)(t:TO):Prop:=
 ∀(pins:Ϸ)(s:ώ)(σ:St)(H:Hp)(Q:ύ Int->Hp->Prop),Inv X pins σ H s->t σ H Q->
  wpAny (model X.prog X.w) X.A (evalPart e X.env) (λ u s'=> ∃o H',Inv X pins σ H' s'/\IsPart u o/\Q o H') X.xe s
abbrev dJ:TO:=λ _ H Q=>Q none H
abbrev gh(t:TE):TO:=λ σ H Q=>t σ H λ x H1=> ∃i,x= .int i/\Q (!i) H1
theorem intsAre_of: ∀{us:ϊ ϋ},Vals (a.map V.int) us->IntsAre us a:=by
 induction a with
 | nil=>intro us r;rw [ď] at r;cases r;show .nil
 | cons n a ih=>
  intro us r;rw [Ç] at r
  cases r with
  | cons r1 r2=>
   let#[t,e]:=r1;subst e;show .cons n t (ih r2)
section
variable{X:Cx}{e:Expr}{te:TE}{lo hi:ύ Expr}{tl th:TO}{pos p2:Pos}
theorem eZ:PO X none dJ:=by
 intro a s b H Q I h;rw [evalPart_none];show Á #[none,H,I, .none,h]
theorem cQ(h:PE X e te):PO X (!e) (gh te):=by
 intro a s j H Q I d;rw [evalPart_some];show bF (h a s j H _ I d) λ u k ob=> ?_
 let#[x,b,c,g,f]:=ob;let#[i,rfl,q]:=f;let#[t,rfl]:=g;show#[!i,b,c, .int i t,q]
def Te(X:Cx)(r:V->ύ Int->ύ Int->Hp->VK->Prop):Prop:=
 ∀(pins:Ϸ)(s:ώ)(σ:St)(H:Hp)(x:V)(v vl vu:ϋ)(lo hi:ύ Int)(sl:ό)(Q:VK),Inv X pins σ H s->RelV x v->s.heap.IsSliceOf sl vl vu .none->IsPart vl lo->IsPart vu hi->r x lo hi H Q->
  ∃T id,typeLookup (.type T) "__getitem__"=pure !(.builtin id)/\s.TypeIs v T/\wpAny (model X.prog X.w) X.A (getItem v (.ref sl)) (EP X pins σ Q) X.xe s
abbrev BW(r:V->ύ Int->ύ Int->Hp->VK->Prop)(te:TE)(tl th:TO):TE:=λ σ H Q=>te σ H λ x H1=>tl σ H1 λ l H2=>th σ H2 λ u H3=>r x l u H3 Q
theorem cN(A:Te X r)(w:PE X e te)(z:PO X lo tl)(C:PO X hi th):PE X (.Subscript e (.Slice lo hi none p2) pos) (BW r te tl th):=by
 intro a s d H Q I h;show Subscript_ (bF (w a s d H _ I h) λ v L ob=> ?_);let#[x,j,m,K,F]:=ob;show wpAny_Slice (bF (z a L d j _ m F) λ f M ob=> ?_);let#[l,k,n,D,G]:=ob;show bF (C a M d k _ n G) λ g c ob=> ?_
 let#[u,i,o,E,J]:=ob;rw [evalPart_none];show Á ?_;have p:Inv X a d i { c with heap:=c.heap.push { cls:= .type "slice",data:= .fields ([f,g, .none].toArray) } }:=o.kept (t':=c.toks) λ b ob q=>Ã _ q
 let#[T,N,t,B,y]:=A a { c with heap:=c.heap.push { cls:= .type "slice",data:= .fields ([f,g, .none].toArray) } } d i x v f g l u c.heap.objs.size Q p K (Heap.IsSliceOf.new ..) D E J;change wpAny (model X.prog X.w) X.A (subscriptTail e (.Slice lo hi none p2) v (.ref c.heap.objs.size)) (EP X a d Q) X.xe { c with heap:=c.heap.push { cls:= .type "slice",data:= .fields ([f,g, .none].toArray) } };show tail_any (ops:=[.ref c.heap.objs.size,v]) B t y (by with_unfolding_all rfl)
def il(xs:ϊ V)(lo hi:ύ Int):ϊ V:=(xs.drop (HT.eF ↑xs 0 lo)).take (HT.eF ↑xs ↑xs hi-HT.eF ↑xs 0 lo)
theorem mW(a:ϊ V)(lo b:ύ Int):↑(il a lo b)<=↑a:=by
 unfold il;rw [Ð,ì];rfl'
def a0f(K:Ϗ):V->ύ Int->ύ Int->Hp->VK->Prop:=λ x lo hi H Q=> ∃a xs,x= .ref a/\SqT K H a xs/\
 ¬ (HT.eF ↑xs 0 lo=0/\HT.eF ↑xs ↑xs hi=↑xs)/\ ∀p,H p=none->Q (.ref p) (upd H p (.tup (il xs lo hi)))
theorem Tf:Te X (a0f X.K):=by
 intro j s z H x v w y lo e u Q I t k n p h;let#[a,d,rfl,m,l,q]:=h
 cases t;let#[f,r,g,i]:=I.tuple m;have c:f.toArray.size=↑d:=by rw [Ù];show r.length.symm
 show#["tuple",_,PyProof.Rows.slot_tuple_getitem.lookup,g.typeIs,?_];show HT.lA g k n p (by rw [c];show l) ?_ (by rw [c];show i);rw [c];show#[.ref s.heap.objs.size,_,I.laid (t':=s.toks) (o:= .tup (il d lo e)) (λ b ob q=>Ã _ q) (Ä _) ?_,rfl,q _ (I.hok.fresh (Ä _))];show#[Nat.le_trans (mW d lo e) i,_,(r.drop (HT.eF ↑d 0 lo)).take (HT.eF ↑d ↑d e-HT.eF ↑d 0 lo),IsTup.new _ _]
end
def Eu(n:Nat)(i:Int):ύ Nat:=if 0<=i then (if i<n then !i.toNat else none) else if-(n:Int)<=i then !(i+n).toNat else none
def xU{α:Type}(xs:ϊ α)(i:Int):ύ α:=(Eu ↑xs i).bind λ j=>xs[j]?
theorem zO(h:Eu n i=!j):seqIndex? i n=!j/\j<n/\ -(n:Int)<=i/\i<n:=by
 unfold Eu at h;by_cases b:0<=i
 .rw [if_pos b] at h;by_cases a:i<n
  .rw [if_pos a] at h;have e:i.toNat=j:=Þ h;show#[by rw [seqIndex_of b a,e],(),(),a]
  .rw [if_neg a] at h;cases h
 .rw [if_neg b] at h;by_cases a: -(n:Int)<=i
  .rw [if_pos a] at h;have e:(i+n).toNat=j:=Þ h;show#[by rw [seqIndex_neg () a,e],(),a,()]
  .rw [if_neg a] at h;cases h
theorem tQ{b:Type}{a:ϊ b}{v:b}(h:xU a i=!v): ∃j,seqIndex? i ↑a=!j/\a[j]? =!v/\j<↑a/\ -(↑a:Int)<=i/\i<↑a:=by
 unfold xU at h
 cases e:Eu ↑a i with
 | none=>rw [e] at h;cases h
 | some j=>
  rw [e] at h;let#[c,d,f,g]:=zO e;show#[j,c,h,d,f,g]
theorem aQ{a:Type}{xs:ϊ a}{v:a}(h:xs[j]? =!v):xU xs (j:Int)=!v:=by
 have b:j<↑xs:=(À.mp h).1;have e:Eu ↑xs (j:Int)=!j:=by
  unfold Eu;rw [if_pos (),if_pos ()];simp
 unfold xU;rw [e];show h
theorem oU{b:Type}(a:ϊ b)(v:b):xU (a++[v]) (-1)=!v:=by
 have c:↑(a++[v])=↑a+1:=by simp
 have e:Eu ↑(a++[v]) (-1)=some ↑a:=by
  unfold Eu;rw [c,if_neg (by decide),if_pos ()];congr 1;rfl'
 unfold xU;rw [e];change(a++[v])[↑a]? =!v;simp
def Nz(b:Expr):Prop:= ∀o i,subscripted b false o i=operate [o,i] (getItem o i)
def X6(X:Cx)(r:R2):Prop:=
 ∀(value slice:Expr)(pins:Ϸ)(s:ώ)(σ:St)(H:Hp)(x y:V)(v u:ϋ)(Q:VK),Inv X pins σ H s->RelV x v->RelV y u->r x y H Q->
  subscripted slice false v u=operate [v,u] (getItem v u)->wpAny (model X.prog X.w) X.A (subscriptTail value slice v u) (EP X pins σ Q) X.xe s
def NB(X:Cx)(id:String)(r:V->ϊ V->Hp->VK->Prop):Prop:=
 ∀(pins:Ϸ)(s:ώ)(σ:St)(H:Hp)(x:V)(xs:ϊ V)(v:ϋ)(us:ϊ ϋ)(Q:VK),Inv X pins σ H s->RelV x v->Vals xs us->r x xs H Q->
  wpAny (model X.prog X.w) X.A (call (.builtin id) (v::us)) (EP X pins σ Q) X.xe s
section
variable{X:Cx}{a b:Expr}
theorem jt{r:R2}(i:X6 X r)(f:PE X a ta)(g:PE X b tb)(j:Nz b):PE X (.Subscript a b pos) (aN r ta tb):=by
 intro c s n H Q I h;show Subscript_ (T4 f g I h λ v u m x y d e k l q=>i a b c m n d x y v u Q e k l q (j _ _))
def eG(K:Ϗ):R2:=λ x y H Q=> ∃p xs i v,x= .ref p/\y= .int i/\SqL K H p xs/\xU xs i=!v/\Q v H
def gQ(K:Ϗ):R2:=λ x y H Q=> ∃p xs i v,x= .ref p/\y= .int i/\SqT K H p xs/\xU xs i=!v/\Q v H
def oV:R2:=λ x y H Q=> ∃z i c,x= .str z/\y= .int i/\↑z<=sizeLine/\xU z.cps.toList i=!c/\Q (.str #[([c].toArray)]) H
theorem NK:X6 X (eG X.K):=by
 intro k g a s o H x y v u Q I G J h n;let#[p,O,i,z,rfl,rfl,F,D,q]:=h
 cases G;let#[t,rfl]:=J;let#[d,r,e,N]:=I.list F;let#[j,b,A,L,B,C]:=tQ D;let#[w,l,f]:=r.get A;have E:=↑r;have M:=m5;have fin:EP X a o Q w s:=#[z,H,I,f,q];by_cases m:0<=i
 .have c:i.toNat=j:=by
   rw [seqIndex_of m C] at b;show Þ b
  show item_listR e.isList m () (by rw [c];simpa using l) fin n
 .have c:(i+(d.toArray.size:Int)).toNat=j:=by
   rw [seqIndex_neg () B] at b;rw [Ù,<- E];show Þ b
  show subscriptTail_builtinR (x:=w) e.isList.typeIs slot_list_getitem.lookup
   (wpAny_getItem_list_neg (Q:=λ r K=>r=w/\EP X a o Q r K) e.isList () (by rw [Ù]<;>rfl') () (by rw [c];simpa using l) #[rfl,fin]) n
theorem Tg:X6 X (gQ X.K):=by
 intro d c a s f H x y v u Q I C D h A;let#[p,M,i,z,rfl,rfl,o,m,q]:=h
 cases C;let#[t,rfl]:=D;let#[B,r,e,L]:=I.tuple o;let#[j,k,l,F,G,J]:=tQ m;let#[w,g,b]:=r.get l;have n:=↑r;have K:=m5;have fin:EP X a f Q w s:=#[z,H,I,b,q];show subscriptTail_builtinR (x:=w) e.typeIs slot_tuple_getitem.lookup
  (getItem_tuple (j:=j) (Q:=λ r E=>r=w/\EP X a f Q r E) e () () (by rw [Ù,<- n];show k) (by simpa using g) #[rfl,fin]) A
theorem iY:X6 X oV:=by
 intro b a e s E H x y v u Q I r w h p;let#[z,i,c,rfl,rfl,C,n,q]:=h;let#[t,rfl]:=r;let#[D,rfl]:=w;let#[j,d,k,A,l,m]:=tQ n;have o:↑z.cps.toList=↑z:=by simp [Str.length]
 rw [o] at d l m;have B:=m5;show tail_any (Ŷ s z t) slot_str_getitem.lookup (getItem_str (c:=c) (by
  have f:decide (i< -(2^63:Int))=false:=Ú ();have g:decide (i>=2^63)=false:=Ú ();rw [f,g,Bool.or_false]) (by rw [d];simpa using k) #[.str #[([c].toArray)],H,I.tok _,#[_,rfl],q]) p
theorem xV(a:ϊ ϋ)(n j:Nat)(u:ϋ):Obj.mapSeq (·.setIfInBounds j u) { cls:= .type "list",data:= .seq a.toArray n }={ cls:= .type "list",data:= .seq (a.set j u).toArray n }:=by
 simp [Obj.mapSeq]
theorem Inv.lst{s:ώ}{a:ϊ V}(I:Inv X pins σ H s)(h:H p=!(.lst a)):
  ∃(its:ϊ ϋ)(n:Nat),Vals a its/\s.heap.get? p=!{ cls:= .type "list",data:= .seq its.toArray n }/\↑a<=sizeLine:=by
 let#[z,its,n,r,e]:=I.hok p _ h;show#[its,n,r,e,z]
theorem Inv.lstUpd{j:ϊ V}{a:Nat}{f:Obj->Obj}(I:Inv X pins σ H s)(h:H p=!(.lst j))
  (g:s.heap.get? p=!{ cls:= .type "list",data:= .seq its.toArray n }) (c:f { cls:= .type "list",data:= .seq its.toArray n }={ cls:= .type "list",data:= .seq its'.toArray a }) (r:Vals ys its') (i:↑ys<=sizeLine) (t:Nat):
  Inv X pins σ (upd H p (.lst ys)) { s with heap:=s.heap.update p f,toks:=t }:=by
 have e:(s.heap.update p f).get? p=!{ cls:= .type "list",data:= .seq its'.toArray a }:=by
  rw [ĝ f g (by rw [c]<;>rfl),c]
 show I.write (x:=p) (e:=p) (by rw [h];trivial) (.inl rfl) (λ b u d q=>(ņ _ _ (Ne.symm d)).trans q) #[_,e] ?_;show#[i,its',a,r,e]
def oW:V->V->V->Hp->(Hp->Prop)->Prop:=λ o i v H Q=> ∃p xs k j,o= .ref p/\i= .int k/\H p=!(.lst xs)/\Eu ↑xs k=!j/\Q (upd H p (.lst (xs.set j v)))
theorem set_list:Xq X oW:=by
 intro b s E H o i v ov J u Q I B A C h;let#[p,D,k,j,rfl,rfl,x,y,q]:=h
 cases B;let#[t,rfl]:=A;let#[a,n,r,f,z]:=I.lst x;let#[c,F,m,w]:=zO y;have e:=↑r;have G:=m5;have g:Inv X b E (upd H p (.lst (D.set j v))) { s with heap:=s.heap.update p (Obj.mapSeq (·.setIfInBounds j u)) }:=
  I.lstUpd x f (xV a n j u) (r.set C j) (by rw [ŀ];show z) s.toks
 by_cases l:0<=k
 .have d:k.toNat=j:=by
   rw [seqIndex_of l w] at c;show Þ c
  show PySem.W.ki_setAt f l () (by rw [Ù,<- e];show w) (by rw [d];show#[_,g,q])
 .have d:(k+(a.toArray.size:Int)).toNat=j:=by
   rw [seqIndex_neg () m] at c;rw [Ù,<- e];show Þ c
  show PySem.W.ki_setBack f () (by rw [Ù,<- e];show m) () (by rw [d];show#[_,g,q])
theorem tR(lo a:ύ Int)(n:Nat):(sliceBounds lo a none n).1=((HT.eF n 0 lo:Nat):Int)/\(sliceBounds lo a none n).2.1=((HT.eF n n a:Nat):Int)/\(sliceBounds lo a none n).2.2=1:=by
 show#[?_,?_,rfl]
 .cases lo with
  | none=>simp [sliceBounds,HT.eF]
  | some i=>
   simp only [sliceBounds,HT.eF,Option.getD_none,show(1:Int)>0 by decide,ĺ];by_cases h:i<0
   .simp only [h,ĺ]<;>rfl'
   .simp only [h,ą]<;>rfl'
 .cases a with
  | none=>simp [sliceBounds,HT.eF]
  | some i=>
   simp only [sliceBounds,HT.eF,Option.getD_none,show(1:Int)>0 by decide,ĺ];by_cases h:i<0
   .simp only [h,ĺ]<;>rfl'
   .simp only [h,ą]<;>rfl'
theorem qI(a:ϊ ϋ)(lo b:ύ Int):slicePick a.toArray lo b none=((a.drop (HT.eF ↑a 0 lo)).take (HT.eF ↑a ↑a b-HT.eF ↑a 0 lo)).toArray:=by
 let#[c,d,e]:=tR lo b a.toArray.size;unfold slicePick;rw [c,d,e];simp-iota only [sliceRange_one,pick_run,Ù]<;>rfl
def BX(K:Ϗ):V->ύ Int->ύ Int->Hp->VK->Prop:=λ x lo hi H Q=> ∃a xs,x= .ref a/\SqL K H a xs/\ ∀p,H p=none->Q (.ref p) (upd H p (.lst (il xs lo hi)))
theorem NP:Te X (BX X.K):=by
 intro g s y H x v u w lo e t Q I p i m n h;let#[a,c,rfl,j,q]:=h
 cases p;let#[l,r,f,k]:=I.list j;have d:=↑r;show#["list",_,slot_list_getitem.lookup,f.isList.typeIs,?_];show wpAny_getItem_list_slice f.isList i m n .none (by simp) ?_ (by rw [Ù]<;>rfl');rw [qI,<- d];show#[.ref s.heap.objs.size,_,I.laid (t':=s.toks) (o:= .lst (il c lo e)) (λ b ob q=>Ã _ q) (Ä _) ?_,rfl,q _ (I.hok.fresh (Ä _))];show#[Nat.le_trans (mW c lo e) k,_,0,(r.drop (HT.eF ↑c 0 lo)).take (HT.eF ↑c ↑c e-HT.eF ↑c 0 lo),Ê _ rfl]
def ir:V->ϑ
 | .non=>true
 | .bl _=>true
 | .int _=>true
 | .str _=>true
 | _=>false
def QK:V->V->ϑ
 | .non, .non=>true
 | .bl a, .bl b=>a==b
 | .bl a, .int b=>(if a then 1 else 0)==b
 | .int a, .bl b=>a==(if b then 1 else 0)
 | .int a, .int b=>a==b
 | .str a, .str b=>a==b
 | _,_=>false
theorem Th(f:RelV y u)(c:RelV x v)(g:ir y=true)(e:ir x=true):SeqAt.EqAt A s u v (QK y x):=by
 cases y with
 | non=>
  cases f
  cases x with
  | non=>cases c;show SeqAt.EqAt.same _
  | bl b=>cases c;show SeqAt.EqAt.none_bool b
  | int b=>let#[t,rfl]:=c;show SeqAt.EqAt.none_int b t
  | str b=>let#[t,rfl]:=c;show SeqAt.EqAt.none_str b t
  | _=>show absurd (show false=true from e) Ñ
 | bl a=>
  cases f
  cases x with
  | non=>cases c;show SeqAt.EqAt.bool_none a
  | bl b=>cases c;show SeqAt.EqAt.bool_bool a b
  | int b=>let#[t,rfl]:=c;show SeqAt.EqAt.bool_int a b t
  | str b=>let#[t,rfl]:=c;show SeqAt.EqAt.bool_str a b t
  | _=>show absurd (show false=true from e) Ñ
 | int a=>
  let#[d,rfl]:=f
  cases x with
  | non=>cases c;show SeqAt.EqAt.int_none a d
  | bl b=>cases c;show SeqAt.EqAt.int_bool a d b
  | int b=>let#[t,rfl]:=c;show SeqAt.EqAt.int_int a d b t
  | str b=>let#[t,rfl]:=c;show SeqAt.EqAt.int_str a d b t
  | _=>show absurd (show false=true from e) Ñ
 | str a=>
  let#[d,rfl]:=f
  cases x with
  | non=>cases c;show SeqAt.EqAt.str_none a d
  | bl b=>cases c;show SeqAt.EqAt.str_bool a d b
  | int b=>let#[t,rfl]:=c;show SeqAt.EqAt.str_int a d b t
  | str b=>let#[t,rfl]:=c;show SeqAt.EqAt.str_str a d b t
  | _=>show absurd (show false=true from e) Ñ
 | _=>show absurd (show false=true from g) Ñ
def NQ(x:V)(u:ϋ):ϑ:=match u with
 | .none=>QK .non x
 | .bool b=>QK (.bl b) x
 | .int i _=>QK (.int i) x
 | .str z _=>QK (.str z) x
 | _=>false
theorem Ew(r:RelV y u)(f:ir y=true):NQ x u=QK y x:=by
 cases y with
 | non=>cases r;rfl
 | bl b=>cases r;rfl
 | int i=>let#[t,rfl]:=r;rfl
 | str z=>let#[t,rfl]:=r;rfl
 | _=>show absurd (show false=true from f) Ñ
theorem tU{x:V}: ∀{xs:ϊ V}{us:ϊ ϋ},Vals xs us->xs.all ir=true->us.any (NQ x)=xs.any λ y=>QK y x
 | _,_, .nil,_=>rfl
 | y::xs,u::us, .cons r t,f=>by
  rw [List.all_cons,Ć] at f;rw [ű,ű,Ew r f.1,tU t f.2]
theorem oX{A:ϖ}{x:V}{v:ϋ}(b:RelV x v)(a:ir x=true): ∀{xs:ϊ V}{us:ϊ ϋ},Vals xs us->xs.all ir=true-> ∀u∈us,SeqAt.EqAt A s u v (NQ x u)
 | _,_, .nil,_=>λ u hu=>by cases hu
 | y::xs,u::us, .cons r t,f=>λ c hu=>by
  rw [List.all_cons,Ć] at f;rcases È.mp hu with rfl | hu
  .rw [Ew r f.1];show Th r b f.1 a
  .show oX b a t f.2 c hu
def inV(x:V)(xs:ϊ V):ϑ:=xs.any λ y=>QK y x
def QL(K:Ϗ)(neg:ϑ):R2:=λ x y H Q=> ∃p xs,y= .ref p/\(SqL K H p xs\/SqT K H p xs)/\ir x=true/\xs.all ir=true/\Q (.bl (if neg then not (inV x xs) else inV x xs)) H
theorem BZ:jh X (compareOp .In) (QL X.K false):=by
 intro f s l H x y v u Q I g j h;let#[p,k,rfl,hq,e,b,q]:=h
 cases j;rcases hq with hq | hq
 .obtain ⟨a,r,d,i⟩:=I.list hq;show SeqAt.in_listAt (NQ x) d.isList (λ w c=>oX g e r b w (by simpa using c)) #[.bl _,H,I,rfl,?_];rw [show a.toArray.any (NQ x)=a.any (NQ x) by simp,tU r b];show q
 .obtain ⟨a,r,d,i⟩:=I.tuple hq;show SeqAt.in_tupleAt (NQ x) d (λ w c=>oX g e r b w (by simpa using c)) #[.bl _,H,I,rfl,?_];rw [show a.toArray.any (NQ x)=a.any (NQ x) by simp,tU r b];show q
theorem tV:cB X (.type "list") (λ xs H Q=> ∃p ys,xs=[.ref p]/\(SqL X.K H p ys\/SqT X.K H p ys)/\ ∀l,H l=none->Q (.ref l) (upd H l (.lst ys))):=by
 intro k s z H xs A Q I r h;let#[p,ys,rfl,hq,q]:=h;let#[u,rfl,y]:=vals1 r
 cases y;have fin: ∀(a:ϊ ϋ),Vals ys a->↑ys<=sizeLine-> ∀(c:ϒ)(d:Nat),(∀b x,s.heap.get? b=!x->c.get? b=!x)->
   c.get? s.heap.objs.size=!{ cls:= .type "list",dict:=none,data:= .seq a.toArray d,slots:= ([].toArray) }->EP X k z Q (.ref s.heap.objs.size) { s with heap:=c }:=λ a f i c d j e=>
  #[.ref s.heap.objs.size,_,I.laid (t':=s.toks) j (Ä _) (show ObjOk X.prog X.w _ c _ (.lst ys) from #[i,a,d,f,e]),rfl,q _ (I.hok.fresh (Ä _))]
 rcases hq with hq | hq
 .obtain ⟨a,f,w,i⟩:=I.list hq;have g:=↑f;let#[o,v,m,n,t]:=w.isList;show call_list_seq p (.inl rfl) v m t (λ c d j e=>fin a f i c d j e) (by simp-iota only [Ù]<;>rfl')
 .obtain ⟨a,f,w,i⟩:=I.tuple hq;have g:=↑f;let#[o,v,m,n,t]:=w;show call_list_seq p (.inr rfl) v m t (λ c d j e=>fin a f i c d j e) (by simp-iota only [Ù]<;>rfl')
theorem qJ:cB X (.type "tuple") (λ xs H Q=> ∃p ys,xs=[.ref p]/\((SqL X.K H p ys/\ ∀l,H l=none->Q (.ref l) (upd H l (.tup ys)))\/(SqT X.K H p ys/\Q (.ref p) H))):=by
 intro a s m H xs w Q I r h;let#[p,ys,rfl,h]:=h;let#[u,rfl,v]:=vals1 r
 cases v;rcases h with ⟨hq,q⟩ | ⟨hq,q⟩
 .obtain ⟨c,g,f,k⟩:=I.list hq;have j:=↑g;show call_tuple_list f.isList (λ d t=> ?_) (by simp-iota only [Ù]<;>rfl');have i:Inv X a m H { s with heap:=d }:=I.kept (t':=s.toks) t;have n:Inv X a m (upd H d.objs.size (.tup ys)) { s with heap:=d.push { cls:= .type "tuple",data:= .seq c.toArray } }:=
   i.laid (t':=s.toks) (λ b o e=>Ã _ e) (Ä _) (show ObjOk X.prog X.w _ _ _ (.tup ys) from #[k,c,g,IsTup.new _ _])
  show#[.ref d.objs.size,_,n,rfl,q _ (i.hok.fresh (Ä _))]
 .obtain ⟨c,g,f,k⟩:=I.tuple hq;show call_tuple_same f #[.ref p,H,I,rfl,q]
def X7(K:Ϗ)(T:String)(x:V)(H:Hp):Prop:=match x with
 | .str _=>T="str"
 | .int _=>T="int"
 | .ref p=>(T="list"/\ ∃xs,SqL K H p xs)\/(T="tuple"/\ ∃o,K.lookup p=!o/\o.cls= .type "tuple"/\o.dict=none)\/
   (T="dict"/\((∃kvs,H p=!(.dK kvs))\/ ∃kvs,H p=!(.dT kvs)))\/(T="set"/\ ∃S n,H p=!(.set S n))
 | _=>False
theorem Ex(I:Inv X pins σ H s)(r:RelV x v)(d:X7 X.K T x H):
  s.TypeIs v T/\ ∀a,v= .ref a-> ∃ob,s.heap.get? a=!ob/\ob.dict=none:=by
 cases x with
 | str z=>
  let#[t,rfl]:=r
  cases (show T="str" from d);show#[typeIs_str s z t,λ _ e=>nomatch e]
 | int i=>
  let#[t,rfl]:=r
  cases (show T="int" from d);show#[typeIs_int s i t,λ _ e=>nomatch e]
 | ref p=>
  cases r;rcases d with ⟨rfl,xs,hq⟩ | ⟨rfl,o,hk,hc,g⟩ | ⟨rfl,hk⟩ | ⟨rfl,S,n,hk⟩
  .obtain ⟨j,_,h,_⟩:=I.list hq;show#[h.isList.typeIs,λ a e=> ?_]
   cases e;let#[o,n,e,c,g,_]:=h;show#[o,e,g]
  .show #[#[o,I.kIn p o hk,hc],λ a e=> ?_]
   cases e;show#[o,I.kIn _ o hk,g]
  .have z: ∃o,s.heap.get? p=!o/\o.ExactDict:=by
    rcases hk with ⟨kvs,hk⟩ | ⟨kvs,hk⟩
    .obtain ⟨_,_,_,_,o,_,_,e,b,_⟩:=I.hok p _ hk;show#[o,e,b]
    .obtain ⟨_,_,_,_,o,_,_,e,b,_⟩:=I.hok p _ hk;show#[o,e,b]
   let#[o,e,b]:=z;show#[#[o,e,b.1],λ a f=> ?_]
   cases f;show#[o,e,b.2.1]
  .obtain ⟨o,_,_,_,e,b,_⟩:=I.hok p _ hk;show#[#[o,e,b.1],λ a f=> ?_]
   cases f;show#[o,e,b.2.1]
 | _=>show False.elim d
abbrev NT(K:Ϗ)(T:String)(r:V->ϊ V->Hp->VK->Prop)(to:TE):TE:=λ σ H Q=>to σ H λ x H1=>X7 K T x H1/\r x [] H1 Q
abbrev qx(K:Ϗ)(T:String)(r:V->ϊ V->Hp->VK->Prop)(to:TE)(t:TA):TE:=λ σ H Q=>to σ H λ x H1=>X7 K T x H1/\t σ H1 λ xs H2=>r x xs H2 Q
variable{o e:Expr}{es:ϊ Expr}{to:TE}{t:TA}{name:ϐ}{apos cpos:Pos}{T id:String}{r:V->ϊ V->Hp->VK->Prop}
theorem Ti(p:PlainAttrs T)(d:Slot T name id)(e:typeOf (.builtin id)=pure (.type "method_descriptor"))(m:NB X id r)(n:PE X o to)
  (b:attributeBase o name X.env (eval o X.env)=eval o X.env:=by rfl) (c:(apos.endLine==cpos.line)=true:=by rfl):PE X (.Call (.Attribute o name apos) [] [] cpos) (NT X.K T r to):=by
 intro a s i H Q I h;show Υ b c (bF (n a s i H _ I h) λ v t ob=> ?_);let#[x,j,f,g,u,q]:=ob;let#[k,l]:=Ex f g u;show#[T,id,p,d,e,k,l,ĕ rfl (PySem.evalArgs_none (m a t i j x [] v [] Q f g .nil q))]
theorem XC(C:PlainAttrs T)(g:Slot T name id)(i:typeOf (.builtin id)=pure (.type "method_descriptor"))(z:NB X id r)(A:PE X o to)(y:PA X (e::es) t)
  (c:attributeBase o name X.env (eval o X.env)=eval o X.env:=by rfl)
  (f:((backTo cpos (starEach (e::es) X.env)).all (λ x=> not x.1)&&(backToKw cpos (keywordEach [] X.env)).all (λ x=>x.1.isSome)
   &&decide (↑(e::es)+↑([]:ϊ Keyword)+(if ([]:ϊ Keyword).isEmpty then 0 else 1)<30))=true:=by rfl)
  (d:(apos.endLine==cpos.line)=true:=by rfl) (B:starEach (e::es) X.env=(false,eval e X.env)::starEach es X.env:=by rfl) (b:(backTo cpos (starEach es X.env)).any (·.1)=false:=by rfl):
  PE X (.Call (.Attribute o name apos) (e::es) [] cpos) (qx X.K T r to t):=by
 intro a s j H Q I h;show wpAny_Call_method_late c f d rfl (bF (A a s j H _ I h) λ v G ob=> ?_);let#[x,n,k,m,K,D]:=ob;let#[u,w]:=Ex k m K;show#[T,id,C,g,i,u,w,?_];have l:=y cpos a G j n _ k D;rw [B] at l ⊢;show ĕ (by change(false||(backTo cpos (starEach es X.env)).any (·.1))=false;rw [b]<;>rfl) (ŷ ?_);show bF l λ L J ob=> ?_
 let#[M,p,q,F,E]:=ob;show z a J j p x M v L Q q m F E
end
def MtM(X:Cx)(id:String)(r:V->ϊ V->Hp->VK->Prop):Prop:=
 ∀(pins:Ϸ)(s:ώ)(σ:St)(H:Hp)(x:V)(xs:ϊ V)(v:ϋ)(us:ϊ ϋ)(Q:VK),Inv X pins σ H s->RelV x v->Vals xs us->r x xs H Q->
  wpAny (model X.prog X.w) X.A (call (.builtin id) (v::us)) (EP X pins σ Q) X.xe s
theorem Vals.one(h:Vals [x] us): ∃u,us=[u]/\RelV x u:=by
 cases h with
 | cons r t=>cases t;show#[_,rfl,r]
theorem Vals.two(h:Vals [x,y] us): ∃u v,us=[u,v]/\RelV x u/\RelV y v:=by
 cases h with
 | cons r t=>
  let#[v,rfl,q]:=Vals.one t;show#[_,v,rfl,r,q]
theorem Vals.zero: ∀{us:ϊ ϋ},Vals [] us->us=[]
 | _, .nil=>rfl
theorem Vals.dropLast(h:Vals a us):Vals a.dropLast us.dropLast:=by
 induction h with
 | nil=>show .nil
 | cons r t ih=>
  cases t with
  | nil=>show .nil
  | cons q t'=>show .cons r ih
theorem Vals.eraseIdx: ∀{xs:ϊ V}{us:ϊ ϋ}(i:Nat),Vals xs us->Vals (xs.eraseIdx i) (us.eraseIdx i)
 | _,_,_, .nil=> .nil
 | _,_,0, .cons _ t=>t
 | _,_,i+1, .cons r t=> .cons r (Vals.eraseIdx i t)
theorem Vals.rep(h:Vals a us): ∀k:Nat,Vals (List.replicate k a).flatten (List.replicate k us).flatten
 | 0=> .nil
 | k+1=>by
  rw [Ņ,Ņ,ε,ε];show Vals.append h (Vals.rep h k)
theorem xW{c:Type}(l:ϊ c):l.eraseIdx (↑l-1)=l.dropLast:=by
 induction l with
 | nil=>rfl
 | cons a r ih=>
  cases r with
  | nil=>rfl
  | cons b r=>
   have e:↑(a::b::r)-1=(↑(b::r)-1)+1:=by
    have d:↑(a::b::r)=↑r+2:=rfl;have f:↑(b::r)=↑r+1:=rfl;rfl'
   rw [e,List.eraseIdx_cons_succ,ih];all_goals rfl
theorem rC{a:Type}: ∀(l:ϊ a)(i:Nat),↑(l.eraseIdx i)<=↑l
 | [],_=>Ä _
 | _::_,0=>Nat.le_succ _
 | _::r,i+1=>Ė (rC r i)
theorem foldl_rep(b:ϊ ϋ): ∀(k:Nat)(a:ϊ ϋ),
  List.foldl (λ d f=>d++f) a.toArray (List.replicate k b.toArray)=(a++(List.replicate k b).flatten).toArray
 | 0,a=>by simp
 | k+1,a=>by
  have e:a.toArray++b.toArray=(a++b).toArray:=by simp
  have c:(a++b)++(List.replicate k b).flatten=a++(List.replicate (k+1) b).flatten:=by
   rw [Ņ,ε,é]
  rw [<- c,<- foldl_rep b k (a++b),<- e,Ņ,Ł]
section
variable{X:Cx}
theorem Inv.lset(I:Inv X pins σ H s)(a:H l=!(.lst xs))
  (e:s.heap.get? l=!{ cls:= .type "list",data:= .seq its.toArray n }) (c:f its.toArray=its'.toArray) (g:Vals ys its') (h:↑ys<=sizeLine):
  Inv X pins σ (upd H l (.lst ys)) { s with heap:=s.heap.update l (Obj.mapSeq f),toks:=t' }:=by
 have q:=PySem.IsL.update e f;rw [c] at q;show I.write (x:=l) (e:=l) (by rw [a];show trivial) (.inl rfl) (λ i u b d=>(ņ s.heap (Obj.mapSeq f) (Ne.symm b)).trans d) #[_,q] ?_;show#[h,its',_,g,q]
def Inv.lnew(I:Inv X pins σ H s)(a:Vals ys its)(b:↑ys<=sizeLine):
  Inv X pins σ (upd H s.heap.objs.size (.lst ys)) { s with heap:=s.heap.push { cls:= .type "list",data:= .seq its.toArray },toks:=t' }:=
 I.laid (λ _ _ q=>Ã _ q) (Ä _) #[b,its,0,a,Ê _ rfl]
theorem Inv.fresh(I:Inv X pins σ H s):H s.heap.objs.size=none:=I.hok.fresh (Ä _)
theorem Inv.lstM(I:Inv X pins σ H s)(a:H l=!(.lst xs)):↑xs<=sizeLine/\ ∃(its:ϊ ϋ)(n:Nat),Vals xs its/\↑xs=↑its/\s.heap.get? l=!{ cls:= .type "list",data:= .seq its.toArray n }:=by
 let#[z,its,n,r,e]:=I.hok l _ a;show#[z,its,n,r,↑r,e]
theorem vB(h:n<=sizeLine):Builtin.List.listTooLong n=false:=by
 unfold Builtin.List.listTooLong;show Ú ()
end
section
variable{X:Cx}
def dM:V->ϊ V->Hp->VK->Prop:=λ x vs H Q=> ∃l xs y,x= .ref l/\vs=[y]/\H l=!(.lst xs)/\↑xs<sizeLine/\Q .non (upd H l (.lst (xs++[y])))
theorem Ca:MtM X "list.append" dM:=by
 intro c s p H x m v k Q I g f h;let#[l,o,y,rfl,rfl,b,j,q]:=h
 cases g;let#[u,rfl,d]:=f.one;let#[z,a,n,r,i,e]:=I.lstM b;show Š F.slot_list_append #[_,e,rfl] F.entry_list_append (F.args_list_append_2 _ _) (PySem.list_append l a.toArray n u (by rw [Ù];rfl')) #[e,?_];show#[.non,_,I.lset (its':=a++[u]) b e (by simp) (r.append (.cons d .nil)) ?_,rfl,q];rw [Â,â];rfl'
def lB:V->ϊ V->Hp->VK->Prop:=λ x vs H Q=> ∃l b xs zs,x= .ref l/\vs=[.ref b]/\H l=!(.lst xs)/\H b=!(.lst zs)/\↑xs+↑zs<=sizeLine/\Q .non (upd H l (.lst (xs++zs)))
theorem m7:MtM X "list.extend" lB:=by
 intro i s K H x D v C Q I y w h;let#[l,b,E,J,rfl,rfl,g,k,B,q]:=h
 cases y;let#[u,rfl,t]:=w.one
 cases t;let#[z,c,n,r,A,e]:=I.lstM g;let#[G,a,o,p,m,j]:=I.lstM k;have f:c.toArray.size+a.toArray.size<=sizeLine:=by rw [Ù,Ù];rfl'
 have d: ¬ (not c.toArray.isEmpty&&Builtin.List.listTooLong (c.toArray.size+a.toArray.size))=true:=by
  rw [vB f,Bool.and_false];show Ñ
 show Š F.slot_list_extend #[_,e,rfl] F.entry_list_extend (F.args_list_extend_2 _ _)
  (AutoSeq1.list_extend_list_list_0 l c.toArray n b a.toArray o d (by rw [Ù];rfl') ()) #[e,j,?_]
 show#[.non,_,I.lset (its':=c++a) g e (by simp) (r.append p) ?_,rfl,q];rw [Â];rfl'
def Tj:V->ϊ V->Hp->VK->Prop:=λ x vs H Q=> ∃l xs y,x= .ref l/\vs=[]/\H l=!(.lst xs)/\xs[↑xs-1]? =!y/\Q y (upd H l (.lst xs.dropLast))
theorem Tp:MtM X "list.pop" Tj:=by
 intro f s A H x t v p Q I o m h;let#[l,w,y,rfl,rfl,d,j,q]:=h
 cases o;have b:=m.zero;subst b;let#[z,a,n,r,g,e]:=I.lstM d;let#[u,i,k]:=r.get j;have c:a.toArray[a.toArray.size-1]? =!u:=by
  change a.toArray[↑a-1]? =!u;rw [<- ø,<- g];show i
 show Š F.slot_list_pop #[_,e,rfl] F.entry_list_pop (F.args_list_pop_1 _) (MeetsSeq.list_pop_last l a.toArray n u c (by rw [Ù];rfl')) #[e,?_];show#[y,_,I.lset (its':=a.dropLast) d e ?_ r.dropLast ?_,k,q]
 .show a.toArray.eraseIdxIfInBounds (a.toArray.size-1)=a.dropLast.toArray;rw [Ù,List.eraseIdxIfInBounds_toArray,xW]
 .rw [List.length_dropLast];rfl'
def xX:V->ϊ V->Hp->VK->Prop:=λ x vs H Q=> ∃l xs i k y,x= .ref l/\vs=[.int i]/\H l=!(.lst xs)/\ -(2^63)<=i/\i<2^63/\seqIndex? i ↑xs=!k/\xs[k]? =!y/\Q y (upd H l (.lst (xs.eraseIdx k)))
theorem Ey:MtM X "list.pop" xX:=by
 intro d s J H x G v E Q I C B h;let#[l,D,i,k,y,rfl,rfl,c,f,g,j,p,q]:=h
 cases C;let#[u,rfl,A]:=B.one;let#[t,rfl]:=A;let#[z,a,n,r,m,e]:=I.lstM c;let#[w,o,b]:=r.get p;show Š F.slot_list_pop #[_,e,rfl] F.entry_list_pop (F.args_list_pop_2 _ _)
  (MeetsSeq.list_pop_at l a.toArray n i t k w (fitsIndex_both f g) (by rw [Ù,<- m];show j) (by rw [<- ø];show o) (by rw [Ù];rfl')) #[e,?_]
 show#[y,_,I.lset (its':=a.eraseIdx k) c e ?_ (r.eraseIdx k) ?_,b,q]
 .show a.toArray.eraseIdxIfInBounds k=(a.eraseIdx k).toArray;rw [List.eraseIdxIfInBounds_toArray]
 .have:=rC D k;rfl'
def Ez:R2:=λ x y H Q=> ∃l b xs zs,x= .ref l/\y= .ref b/\H l=!(.lst xs)/\H b=!(.lst zs)/\↑xs+↑zs<=sizeLine/\ ∀p,H p=none->Q (.ref p) (upd H p (.lst (xs++zs)))
theorem xY:jh X (binaryOp .Add) Ez:=by
 intro d s E H x y v u Q I o p h;let#[l,b,B,D,rfl,rfl,j,i,w,q]:=h
 cases o
 cases p;let#[z,c,n,r,t,e]:=I.lstM j;let#[C,a,A,m,k,f]:=I.lstM i;show PySem.P.add_list e f ?_ (by rw [Ù,Ù];rfl');have g:c.toArray++a.toArray=(c++a).toArray:=by simp
 rw [g];show#[.ref _,_,I.lnew (t':=s.toks) (r.append m) (by rw [Â];rfl'),rfl,q _ I.fresh]
def XD:R2:=λ x y H Q=> ∃l k xs,x= .ref l/\y= .int k/\H l=!(.lst xs)/\ -(2^63)<=k/\k<2^63/\↑xs*k.toNat<=sizeLine/\
 ∀p,H p=none->Q (.ref p) (upd H p (.lst (List.replicate k.toNat xs).flatten))
theorem len_rep{b:Type}(a:ϊ b)(k:Nat):↑(List.replicate k a).flatten=k*↑a:=by
 induction k with
 | zero=>simp
 | succ k ih=>rw [Ņ,ε,Â,ih,Nat.succ_mul,ķ]
theorem Tq:jh X (binaryOp .Mult) XD:=by
 intro w s M H x y v u Q I G J h;let#[l,k,L,rfl,rfl,D,B,C,p,q]:=h
 cases G;let#[t,rfl]:=J;let#[z,b,n,r,E,e]:=I.lstM D;have g:b.toArray.size*k.toNat<=sizeLine:=by rw [Ù,<- E];show p
 have d: ¬b.toArray.size*k.toNat>(2^63-1) / 8:=by
  have:(sizeLine:Nat)<=(2^63-1) / 8:=by decide
  rfl'
 have f: ¬ (not (Builtin.List.listFitsIndex k))=true:=by
  rw [fitsIndex_both B C];show Ñ
 have c: ¬Builtin.List.listTooLong (b.toArray.size*k.toNat)=true:=by
  rw [vB g];show Ñ
 have i:List.foldl (λ j o=>j++o) ([].toArray) (List.replicate (if b.toArray.isEmpty=true then 0 else k.toNat) b.toArray)=(List.replicate k.toNat b).flatten.toArray:=by
  have A: ∀m:Nat,List.foldl (λ j o=>j++o) ([].toArray) (List.replicate m b.toArray)=(List.replicate m b).flatten.toArray:=λ m=>by
   have:=foldl_rep b m [];rw [Ů] at this;show this
  rw [A]
  cases b with
  | nil=>simp
  | cons a r'=>rw [if_neg (by simp)]
 show wpAny_binaryOp_repeat_ref (T:="list") (U:="int") (by decide) #[_,e,rfl] (λ K=>typeIs_int K k t) noFill_list_mul F.fills_int_mul F.slot_int_rmul repeat_list F.slot_int_index.lookup
  (Š F.slot_int_rmul (typeIs_int s k t) F.entry_int_rmul (F.args_int_rmul_2 _ _) (int___rmul___int_list k t l b.toArray n)
   #[e,rfl,#[_,e,rfl],Š F.slot_list_mul #[_,e,rfl] F.entry_list_mul (F.args_list_mul_2 _ _) (AutoListH.list___mul___list_int_3 l b.toArray n k t f d c) #[e,?_]])
 rw [i];show#[.ref _,_,I.lnew (t':=s.toks) (r.rep k.toNat) (by rw [len_rep,Ž];show p),rfl,q _ I.fresh]
end
end L2
namespace Att
open PySem PySem.W PySem.Calls PyProof.Rows
variable{n:Nat}
theorem nH: ∀(ns:ϊ Int)(vs:ϊ ϋ),WellAll P h vs (ns.map WData.int)->IntsAre vs ns:=by
 intro ns;induction ns with
 | nil=>
  intro vs w;rw [ď] at w
  cases w;show .nil
 | cons n ns ih=>
  intro vs w;rw [Ç] at w
  cases w with
  | cons a b=>
   cases a;show .cons _ _ (ih _ b)
theorem Cd{l:OpenLaw}(p:l.most=!n){P:Params}{h:ϒ}
  (b:l.row.toRowW.claim.pre args=true) (i:WellAll P h vals args):
  ∃a vs ns,vals=[Value.ref a]/\args=[WData.list (ns.map WData.int)]/\h.get? a=!{ cls:= .type "list",data:= .seq vs.toArray }/\IntsAre vs ns/\↑ns<=n:=by
 have g:WShape.hasAll [] args [.list .int]=true:=(pre_splitW b).1;have j:l.pre.holds [] { args:=args }=true:=(pre_splitW b).2;let#[d,r,rfl,k,m]:=hasAllW_cons g;obtain rfl:=hasAllW_nil m;let#[t,rfl,o]:=hasW_list k;let#[ns,rfl]:=items_int o;have c:↑ns<=n:=by
  unfold OpenLaw.pre at j;have e:(WTm.not (.lt (.lit (.int (n:Int))) (.len (.arg 0)))).holds [] { args:=[.list (ns.map .int)] }=true:=by
   have e:=(holds_andW j).1;rw [p] at e;show e
  have f:=condW_of e (w_not (w_lt w_lit (w_len_list (w_arg rfl))));rw [Qb] at f;show Nat.le_of_not_lt λ q=> ?_
  have s:(n:Int)<((↑ns:Nat):Int):=()
  first
   | (rw [Ø s] at f;show absurd f (by decide))
   | (simp at f;rfl')
 cases i with
 | cons w1 w2=>
  cases w2
  cases w1 with
  | list ho hall=>show#[_,_,ns,rfl,rfl,ho,nH ns _ hall,c]
theorem Ce(l:OpenLaw)(a:ϊ WData):l.row.toRowW.claim.post a (.bool true) a=true:=
 postW_of (r:=l.row.toRowW) (X:=(true==true))
  (show WShape.has [] (.bool true) .bool=true by first | rfl | decide | simp [WShape.has,WShape.arms,WShape.armsAll])
  (show(WTm.eq .res (.lit (.bool true))).value [] { args:=a,res:=!(.bool true),after:=a }=!(.bool (true==true)) from w_eq_bool (w_res rfl) w_lit) rfl
theorem vC{l:OpenLaw}
  (K:l.most=!n) (p:d.params.defaults=[])
  (c: ∀(w:ϕ)(b s₁:ώ)(mg u:ϐ->ύ ϋ)(h:ό)(o:Obj)(v cd e:ϋ)(a:ό)(vs:ϊ ϋ)(ns:ϊ Int),
   Ground q loose [] XP w b mg u s₁.heap->YP w s₁.heap->
   s₁.heap.get? h=!o->o.data= .func (docDef d.name d.params d.body d.scope v cd e)->s₁.heap.CodeRec cd d.name->mg d.name=!(.ref h)->
   s₁.heap.get? a=!{ cls:= .type "list",data:= .seq vs.toArray }->IntsAre vs ns->↑ns<=n->s₁.gens= ([].toArray)->
   codeAny (model l.prog w) callerA (.call (.ref h) #[[.ref a],[]]) (λ r s'=>r= .ok (.ret (.bool true))/\OldK s₁.heap s'.heap/\s'.os=s₁.os/\AllBare s'.gens) s₁):
  WalkO q loose XP YP l.row.toRowW d [] (λ f vs=>PySem.call f vs):=by
 intro w b s₁ mg u G Y h o v cd e B kV L F m y s H x A O k z N t I;obtain rfl:B= .none:=Dflts.none y p;obtain rfl:kV= .none:=Dflts.noKw y;let#[a,vs,ns,rfl,rfl,j,g,i]:=Cd K k t;show enter_call (codeAny_mono (c w b s₁ mg u h o v cd e a vs ns G Y L (fd_plain F) m s j g i H) λ r s' M=> ?_);let#[rfl,C,D,E]:=M;show#[.inl #[.bool true, .bool true,[],rfl,λ _=>rfl, .bool true,Ce l _,λ _=>#[List.Pairwise.nil,λ _ J=>(nomatch J)]],C,D,E]
section
end
end Att
namespace L2
open PySem PySem.Spec PyProof.Rows
variable{y:V}{n:Nat}{B:Prop}{H:Hp}{st:Stmt}{w:ϕ}{A:ϖ}{d:DefRec}{a b f:ό}{qual x:ϐ}{fd:FuncData}{CX:ϕ->Nb}{oc u:ϋ}{an:ύ ό}{loose:ϊ ϐ}{prog q:ϓ}{YP:ϕ->ϒ->Prop}{E Q:϶}{osl:ϔ (ύ ϋ)}{XP:(ϐ->ύ ϋ)->ϒ->Prop}
theorem rD{b:ϊ ϋ}{a:ϊ Int}(h:IntsAre b a):Vals (a.map V.int) b:=by
 induction h with
 | nil=>show .nil
 | cons n t _ ih=>show .cons #[t,rfl] ih
def Only(H:Hp):Prop:= ∀b,H b=none\/ ∃o xs,H b=!(.frz o (.lst xs))
theorem EY{P:ϓ}{K:Ϗ}{I T:ϐ->ύ ϋ}{X:Nb}{k:Nat}{O:ό}{sp:Sp}{l:ϊ ϋ}{J:ϊ Int}
  (Y:K.In s₁.heap) (C:s₁.heap.Ns mainGlobals I) (f:s₁.heap.Ns builtinsNs T) (R: ∀x:ϐ,x≠"__name__"->T x=bootBuiltins x) (B:s₁.heap.NoLimit) (hg:s₁.gens= ([].toArray))
  (M:s₁.heap.get? a=!{ cls:= .type "list",data:= .seq l.toArray }) (hi:IntsAre l J) (hl:↑J<=sizeLine) (hr:Room k callerA)
  (F: ∀base:ϒ,K.In base->base.Ns mainGlobals I->FnOk P w K I base X k O fd [x] sp) (j: ∀(s:ώ)(u:ϋ),BindsTo s fd #[[u],[]] [(x,u)])
  (S: ∀H:Hp,Only H->SqL K H a (J.map V.int)->sp [.ref a] H (λ v _=>v= .bl true) λ _ _ _=>False)
  (Q: ∀H e s',X [] H s₁ (λ _ _ _=>False) e s'->False):
  codeAny (model P w) callerA (.call (.ref O) #[[.ref a],[]]) (λ r s'=>r= .ok (.ret (.bool true))/\OldK s₁.heap s'.heap/\s'.os=s₁.os/\AllBare s'.gens) s₁:=by
 have rv:=rD hi;have G:=↑hi;have i : ∀ H : Hp, Only H -> SqL K H a (J.map V.int) -> HOk P w H s₁.heap -> (∀ b, H b ≠ none -> b = a) -> (H a ≠ none -> K.lookup a = none) ->
   codeAny (model P w) callerA (.call (.ref O) #[[.ref a],[]]) (λ r s'=>r= .ok (.ret (.bool true))/\OldK s₁.heap s'.heap/\s'.os=s₁.os/\AllBare s'.gens) s₁:=by
  intro H hO hS D hA hK;have c: ∀{b:ό}{o:Obj},s₁.heap.get? b=!o->H b=none->(tH s₁.heap H).get? b=!o:=λ e n=>DW e n
  have U: ∀{b:ό}{o:Obj}{y:ϔ DictEntry}{t:Nat},s₁.heap.get? b=!o->o.data= .dict y t->H b=none:=λ {b o y t} e d=>by
   cases q:H b with
   | none=>rfl
   | some u=>
    have N:b=a:=hA b (by rw [q];simp);subst N;rw [M] at e;cases e;have d':Data.seq l.toArray _=Data.dict y t:=d
    cases d'
  have g: ∀{b:ό}{m:ϐ->ύ ϋ},s₁.heap.Ns b m->(tH s₁.heap H).Ns b m:=λ {b m} ⟨o,y,t,e,d,r⟩=>#[o,y,t,c e (U e d),d,r]
  have A:K.In (tH s₁.heap H):=λ b o e=>c (Y b o e) (by
   cases q:H b with
   | none=>rfl
   | some u=>
    have N:b=a:=hA b (by rw [q];simp);subst N;rw [hK (by rw [q];simp)] at e;cases e)
  have hM:Mod K I (tH s₁.heap H):=#[A,g C,#[T,g f,R],let ⟨mc,h1,h2⟩:=B;#[mc,g h1,h2]];have e0:Env0 P w K I (tH s₁.heap H) callerA [] s₁ H:=#[rfl,hM,λ b o e=>Nh e,ė (Bw _ _),trivial,λ b f=>absurd (show b∈([]:ϊ ό) from f) (by simp),D, .of_eq hg];show codeAny_mono ((F _ A (g C)).run callerA [] s₁ H #[[.ref a],[]] [.ref a] [.ref a] _ _ hr e0 (j s₁ (.ref a)) (.cons rfl .nil) (S H hO hS)) λ r s' h=> ?_
  cases r with
  | error e=>show(Q H e s' h).elim
  | ok fl=>
   cases fl with
   | next=>show False.elim h
   | brk=>show False.elim h
   | cont=>show False.elim h
   | ret u=>
    let#[v,H',os,p,un,E,r',q]:=h;have q':v= .bl true:=q;subst q';obtain rfl:u=Value.bool true:=r';show#[rfl,OldK.of_keep λ b o e=> ?_,os,p]
    cases q:H b with
    | none=>show un.keep b o e q (by intro z;show absurd (show b∈([]:ϊ ό) from z) (by simp)) (by simp)
    | some u=>
     rcases hO b with z | ⟨ob,xs,z⟩
     .rw [q] at z;cases z
     .have z2:=un.frzs b ob _ z;let#[Z,_]:=D b _ z;let#[e2,_]:=E b _ z2;rw [e] at Z;cases Z;show e2
 cases hk:K.lookup a with
 | some o=>
  have e:=Y a o hk;rw [M] at e
  cases e;show i (λ _=>none) (λ _=> .inl rfl) (.inr #[_,l.toArray,_,hk,rfl,rfl,rfl,by rw [Ù,G];show hl,by simpa using rv]) (λ b u z=>by have L:(none:ύ HO)=!u:=z;cases L) (λ b z=>absurd rfl z) λ z=>absurd rfl z
 | none=>
  show i (λ b=>if b=a then !(.frz { cls:= .type "list",data:= .seq l.toArray } (.lst (J.map V.int))) else none) (λ b=> ?_) (.inl (.inr #[{ cls:= .type "list",data:= .seq l.toArray },if_pos rfl])) (λ b u z=> ?_) (λ b z=> ?_) λ _=>hk
  .by_cases f:b=a
   .show .inr #[_,_,if_pos f]
   .show .inl (if_neg f)
  .by_cases f:b=a
   .have L:=(if_pos f).symm.trans z
    cases L;subst f;show#[M,by rw [Qb];show hl,l,_,rv,M]
   .have L:=(if_neg f).symm.trans z
    cases L
  .by_cases f:b=a
   .show f
   .show absurd (if_neg f) z
theorem NZ{l:W.OpenLaw}{k:Nat}{K:Params->Ϗ}{sp:ϕ->Sp}
  (N:l.most=!n) (t:n<=sizeLine) (p:d.params.defaults=[]) (O:Room k callerA)
  (I: ∀(w:ϕ)(h:ϒ),YP w h->(K w.params).In h)
  (F: ∀(w:ϕ)(mg:ϐ->ύ ϋ)(j:ό)(h:ϒ),(K w.params).In h->h.Ns mainGlobals mg->mg d.name=!(.ref j)->
   ∃fd:FuncData,(∀(s:ώ)(u:ϋ),BindsTo s fd #[[u],[]] [(x,u)])/\
    ∀base:ϒ,(K w.params).In base->base.Ns mainGlobals mg->FnOk l.prog w (K w.params) mg base (CX w) k j fd [x] (sp w))
  (y: ∀(w:ϕ)(H:Hp)(a:ό)(ns:ϊ Int),↑ns<=n->Only H->SqL (K w.params) H a (ns.map V.int)->sp w [.ref a] H (λ v _=>v= .bl true) λ _ _ _=>False)
  (m: ∀(w:ϕ)(H:Hp)(s:ώ)(e:ϋ)(s':ώ),CX w [] H s (λ _ _ _=>False) e s'->False):
  PySem.W.WalkO q loose XP YP l.row.toRowW d [] (λ f vs=>PySem.call f vs):=by
 show Att.vC N p λ w A i mg S j o T P B a vs ns G Y R Q L r g c b M=> ?_
 have z:=I w _ Y;let#[fd,J,C]:=F w mg j _ z G.T.g r;show EY z G.T.g G.T.b G.T.builtins G.T.nolimit M g c (Ò b t) O C J (λ H D E=>y w H a ns b D E) λ H e s'=>m w H i e s'
abbrev Tr:Nb:=λ _ _ _ _ _ _=>False
abbrev E0:XK:=λ _ _ _=>False
def XF{X:Cx}:xP Tr X E0:=λ _ _ _ _ _ _ _ h=>h.elim
structure Fun(K:Ϗ)(x qual:ϐ)(st:Stmt)(f:ό)(fd:FuncData):Prop where
 ex: ∃(oc:ϋ)(od:ύ ό)(kV doc pm:ϋ)(an:ύ ό)(cdv ct:ϋ)(osl:ϔ (ύ ϋ)),
  fd=W.fnOf x qual (gD st) (fU st) (bR st) .none kV doc pm an cdv ct/\K.lookup f=!#[oc,od, .func fd,osl]/\W.codeIn K cdv qual=true
 kp:W.keepIn K (.ref f)=true
section
variable{K:Ϗ}
theorem Fun.ok{N g:ϊ ϐ}{k:Nat}{i:Sp}(F:Fun K x qual st f fd)(S:FnScope N g (bR st))(e: ∀vs H Q E,i vs H Q E->↑vs=↑g)
  (b: ∀(a:ϋ)(A:ϖ)(outer:ϊ Env)(s:ώ)(H:Hp)(vs:ϊ V)(Q:VK)(E:XK),Room k (A.deeper (envOfC qual (bR st) s.heap.objs.size f a))->i vs H Q E->
   ∃t,PSs (BR Tr P w K mg base N qual (bR st) f a A outer s H E).nox (fU st) t/\t { nx:=λ _ H'=>Q .non H',rt:=Q } (start N vs) H):FnOk P w K mg base Tr (k+1) f fd g i:=by
 let#[p,r,kV,j,u,n,a,o,m,rfl,lk,c]:=F.ex;show Xz lk c S e λ A outer s H vs Q E l d=> ?_
 let#[t,h,q]:=b a A outer s H vs Q E l d;show#[t,h.nox,q]
theorem Fun.binds{e:ϊ ϐ}(F:Fun K x qual st f fd)
  (h: ∀(kV b d:ϋ)(an:ύ ό)(a c:ϋ)(us:ϊ ϋ),↑us=↑e->bindArgs (W.fnOf x qual (gD st) (fU st) (bR st) .none kV b d an a c) #[us,[]]=pure (e.zip us)):Binds K fd e []:=by
 let#[j,k,kV,b,d,an,a,c,i,rfl,lk,g]:=F.ex;show .all (h kV b d an a c)
def xZ{g:ύ ό}{kV b e a d:ϋ}(l:K.lookup f=!#[oc,g, .func (W.fnOf x qual (gD st) (fU st) (bR st) .none kV b e an a d),osl])
  (c:W.codeIn K a qual=true) (k:W.keepIn K (.ref f)=true):Fun K x qual st f (W.fnOf x qual (gD st) (fU st) (bR st) .none kV b e an a d):=#[#[oc,g,kV,b,e,an,a,d,osl,rfl,l,c],k]
end
theorem c7{k:Nat}(a:Room k A):A.units+1<cLine:=Û (Nat.add_le_add_left (by decide:1<=64) _) a.units
theorem Cg(h:n<=1000):n<sizeLine:=Û h (by decide)
section
variable{X:Cx}
def pv(i:Nat){x:ϐ}{b:Pos}(c:X.N[i]? =!x:=by rfl)(e:Vis X.env.scope x:=by first | show Or.inl rfl | show Or.inr (Or.inl rfl) | show Or.inr (Or.inr rfl))(d:(x==("__debug__":ϐ))=false:=by decide)
  (a:(x==("__classdict__":ϐ))=false:=by decide):PE X (.Name x b) (gK i):=SJ c e d a
end
theorem Ci{A:Prop}(h:B):if false=true then A else B:=by
 rw [if_neg Ñ];show h
theorem Cj{A:Prop}(h:A):if true=true then A else B:=by
 rw [if_pos rfl];show h
def Same(H H':Hp):Prop:= ∀b o,H b=!o->H' b=!o
def Same.refl(H:Hp):Same H H:=λ _ _ h=>h
def Same.trans{d:Hp}(a:Same H d)(b:Same d e):Same H e:=λ c o h=>b c o (a c o h)
theorem Same.free(e:Same H H')(h:H' l=Option.none):H l=Option.none:=by
 cases q:H l with
 | none=>rfl
 | some o=>
  rw [e l o q] at h
  cases h
theorem Same.seq{K:Ϗ}{b:ϊ V}(e:Same H H')(h:SqL K H a b):SqL K H' a b:=by
 rcases h with (h | ⟨o,h⟩) | h
 .show .inl (.inl (e _ _ h))
 .show .inl (.inr #[o,e _ _ h])
 .show .inr h
section
variable{κ:Type}[DecidableEq κ]
def bM(kvs:ϊ (κ×V))(k:κ):ύ V:=(kvs.find? λ kv=>decide (kv.1=k)).map (·.2)
def putK(kvs:ϊ (κ×V))(k:κ)(v:V):ϊ (κ×V):=
 if (kvs.any λ kv=>decide (kv.1=k))=true then kvs.map (λ kv=>if kv.1=k then (kv.1,v) else kv) else kvs++[(k,v)]
def dN(kvs:ϊ (κ×V))(k:κ):ϊ (κ×V):=kvs.filter λ kv=>decide (kv.1≠k)
theorem cJ{p:κ×V}{r:ϊ (κ×V)}{k:κ}(e:p.1=k):bM (p::r) k=!p.2:=by simp [bM,ē,e]
theorem bY{p:κ×V}{r:ϊ (κ×V)}{k:κ}(e: ¬p.1=k):bM (p::r) k=bM r k:=by simp [bM,ē,e]
theorem lC(k:κ): ∀kvs:ϊ (κ×V),(kvs.any λ a=>decide (a.1=k))=(bM kvs k).isSome
 | []=>rfl
 | p::r=>by
  rw [ű];by_cases e:p.1=k
  .simp only [cJ e,Ø e,Bool.true_or,Option.isSome_some]
  .rw [bY e,Ú e,Bool.false_or];show lC k r
theorem rE(k j:κ)(y:V): ∀kvs:ϊ (κ×V),bM kvs k=none->bM (kvs++[(k,y)]) j=if j=k then !y else bM kvs j
 | [],_=>by
  by_cases e:k=j
  .rw [if_pos e.symm];show cJ (p:=(k,y)) e
  .rw [if_neg (λ z=>e z.symm)];show bY (p:=(k,y)) e
 | p::r,hn=>by
  rw [ň];have a: ¬p.1=k:=λ z=>by rw [cJ z] at hn;cases hn
  rw [bY a] at hn;have b:=rE k j y r hn;by_cases e:p.1=j
  .rw [cJ e,cJ e,if_neg (λ z=>a (e.trans z))]
  .rw [bY e,bY e,b]
theorem ju(a:ϊ (κ×V))(k:κ)(v:V):↑(putK a k v)<=↑a+1:=by
 unfold putK;split
 .rw [Qb];rfl'
 .rw [Â,è,ů];rfl'
theorem dh{a:ϊ (κ×V)}{k:κ}(v:V)(h:bM a k=none):putK a k v=a++[(k,v)]:=by
 unfold putK;rw [lC,h];show if_neg (by decide)
theorem RelO.isSome_eq{u:ύ ϋ}(r:RelO o u):o.isSome=u.isSome:=by
 cases o with
 | none=>cases u with
  | none=>rfl
  | some _=>show(show False from r).elim
 | some _=>cases u with
  | none=>show(show False from r).elim
  | some _=>rfl
theorem RelO.getD{u:ύ ϋ}{d:V}(r:RelO o u)(a:RelV d d'):RelV (o.getD d) (u.getD d'):=by
 cases o with
 | none=>cases u with
  | none=>show a
  | some _=>show(show False from r).elim
 | some _=>cases u with
  | none=>show(show False from r).elim
  | some _=>show r
theorem KV.val{a:ϊ (κ×V)}{f:ϊ (κ×ϋ)}(r:KV a f)(k:κ):RelO (bM a k) (valueAt f k):=by
 unfold KV at r;induction r with
 | nil=>show True.intro
 | @cons p q ps qs h t ih=>
  let#[d,g]:=h;by_cases e:p.1=k
  .have c:q.1=k:=d.symm.trans e;have b:valueAt (q::qs) k=!q.2:=by simp [valueAt,ē,c]
   rw [cJ e,b];show g
  .have c: ¬q.1=k:=λ z=>e (d.trans z)
   have b:valueAt (q::qs) k=valueAt qs k:=by simp [valueAt,ē,c]
   rw [bY e,b];show ih
theorem KV.any{a:ϊ (κ×V)}{c:ϊ (κ×ϋ)}(r:KV a c)(k:κ):(a.any λ b=>decide (b.1=k))=c.any λ b=>decide (b.1=k):=by
 unfold KV at r;induction r with
 | nil=>rfl
 | cons h t ih=>rw [ű,ű,ih,h.1]
theorem KV.repl{b:ϊ (κ×V)}{d:ϊ (κ×ϋ)}(r:KV b d)(k:κ)(g:RelV y u):
  KV (b.map λ a=>if a.1=k then (a.1,y) else a) (d.map λ a=>if a.1=k then (a.1,u) else a):=by
 unfold KV at r ⊢;induction r with
 | nil=>show .nil
 | @cons p q ps qs h t ih=>
  rw [Ç,Ç];show .cons ?_ ih;let#[c,f]:=h;by_cases e:p.1=k
  .rw [if_pos e,if_pos (c.symm.trans e)];show#[c,g]
  .rw [if_neg e,if_neg (λ z=>e (c.trans z))];show#[c,f]
theorem KV.put{a:ϊ (κ×V)}{b:ϊ (κ×ϋ)}(r:KV a b)(k:κ)(c:RelV y u):KV (putK a k y) (stored b k u):=by
 unfold putK stored;rw [r.any k];by_cases e:(b.any λ d=>decide (d.1=k))=true
 .rw [if_pos e,if_pos e];show r.repl k c
 .rw [if_neg e,if_neg e];show Paired.snoc r #[rfl,c]
theorem KV.keys{a:ϊ (κ×V)}{b:ϊ (κ×ϋ)}(r:KV a b):a.map (·.1)=b.map (·.1):=by
 unfold KV at r;induction r with
 | nil=>rfl
 | cons h t ih=>rw [Ç,Ç,ih,h.1]
def KV.length{a:ϊ (κ×V)}{b:ϊ (κ×ϋ)}(r:KV a b):↑a=↑b:=Ğ r
def Fb(a:ϊ (κ×V))(k:κ):↑(dN a k)<=↑a:=List.length_filter_le _ _
end
theorem rG(r:RelV (kV k) u):(bB P w).is k u=true:=by
 cases k with
 | inl i=>let#[t,e]:=(show ∃t,u=Value.int i t from r);subst e;show vf P w i t
 | inr x=>let#[t,e]:=(show ∃t,u=Value.str x t from r);subst e;show vg P w x t
theorem rH{w:ϕ}: ∀{ks:ϊ Key}{us:ϊ ϋ},Vals (ks.map kV) us->ItemsAre (bB P w) ks us
 | [],_,r=>by rw [ď] at r;cases r;show .nil
 | k::ks,_,r=>by
  rw [Ç] at r
  cases r with
  | cons h t=>show .cons (rG h) (rH t)
abbrev KT(H:Hp):ϊ (ϊ Key×V)->ϊ (ϊ Key×ό×ϋ)->Prop:=Paired λ p q=>p.1=q.1/\H q.2.1=!(.tup (p.1.map kV))/\RelV p.2 q.2.2
theorem KT.val{d:ϊ (ϊ Key×ό×ϋ)}(r:KT H kvs d)(k:ϊ Key):RelO (bM kvs k) ((atKey d k).map (·.2)):=by
 induction r with
 | nil=>show True.intro
 | @cons p q ps qs h t ih=>
  let#[c,_,f]:=h;by_cases e:p.1=k
  .have a:q.1=k:=c.symm.trans e;have b:atKey (q::qs) k=!q.2:=by simp [atKey,ē,a]
   rw [cJ e,b];show f
  .have a: ¬q.1=k:=λ z=>e (c.trans z)
   have b:atKey (q::qs) k=atKey qs k:=by simp [atKey,ē,a]
   rw [bY e,b];show ih
theorem KT.repl{d:ϊ (ϊ Key×ό×ϋ)}(r:KT H kvs d)(k:ϊ Key)(g:RelV y u):
  KT H (kvs.map λ b=>if b.1=k then (b.1,y) else b) (d.map (putAt k u)):=by
 induction r with
 | nil=>show .nil
 | @cons p q ps qs h t ih=>
  rw [Ç,Ç];show .cons ?_ ih;let#[a,c,f]:=h;unfold putAt;by_cases e:p.1=k
  .rw [if_pos e,if_pos (a.symm.trans e)];show#[a,c,g]
  .rw [if_neg e,if_neg (λ z=>e (a.trans z))];show#[a,c,f]
theorem KT.put{a:ϊ (ϊ Key×ό×ϋ)}(r:KT H kvs a)(k:ϊ Key)(d:H b=!(.tup (k.map kV)))(c:RelV y u):
  KT H (putK kvs k y) (storedH a k b u):=by
 have e:(kvs.any λ f=>decide (f.1=k))=(atKey a k).isSome:=by
  rw [lC,(r.val k).isSome_eq,ś]
 unfold putK storedH;rw [e];by_cases q:(atKey a k).isSome=true
 .rw [if_pos q,if_pos q];show r.repl k c
 .rw [if_neg q,if_neg q];show Paired.snoc r #[rfl,d,c]
def KT.keeps{a:ϊ (ϊ Key×ό×ϋ)}(r:KT H kvs a)(c: ∀b ys,H b=!(.tup ys)->H' b=!(.tup ys)):KT H' kvs a:=
 Paired.mapP r λ _ _ z=>#[z.1,c _ _ z.2.1,z.2.2]
section
def QM{u:HO}(b:HOk P w H h)(e:Rd H a u):ObjOk P w H h a u:=e.ok b
def mX{b:ϊ (Key×V)}(c:HOk P w H h)(e:Rd H a (.dK b)):↑b<=sizeLine/\(a==sysModules)=false/\ ∃vs,KV b vs/\h.DictOf (bB P w) a vs:=
 show ObjOk P w H h a (.dK b) from QM c e
def QQ{b:ϊ (Key×V)}(c:HOk P w H h)(e:H a=!(.dK b)):↑b<=sizeLine/\(a==sysModules)=false/\ ∃vs,KV b vs/\h.DictOf (bB P w) a vs:=mX c (.inl e)
theorem jw(i:HOk P w H h)(e:H a=!(.tup (c.map kV))):(tupleKind (bB P w)).is h c a:=by
 let#[_,b,r,o,d,f,n,g]:=(show ObjOk P w H h a (.tup (c.map kV)) from i a _ e);show#[o,b.toArray,n,d,f,g,by simpa using rH r]
theorem rJ(c:HOk P w H h)(e:Rd H a (.dT kvs)):↑kvs<=sizeLine/\(a==sysModules)=false/\
  ∃xs,KT H kvs xs/\h.DictOfH (tupleKind (bB P w)) a xs:=by
 let#[z,y,xs,r,o,f,d,g,i,j,k,n]:=(show ObjOk P w H h a (.dT kvs) from QM c e);show#[z,y,xs,r,o,f,d,g,i,j,k,λ x hx=> ?_,n];have b: ∀{l:ϊ (ϊ Key×V)}{m:ϊ (ϊ Key×ό×ϋ)},KT H l m-> ∀x∈m,(tupleKind (bB P w)).is h x.1 x.2.1:=by
  intro l m q;induction q with
  | nil=>intro x hx;show nomatch hx
  | @cons p q ps qs hq t ih=>
   intro x hx;rcases È.mp hx with e | hx
   .subst e;show jw c (by rw [<- hq.1];show hq.2.1)
   .show ih x hx
 show b r x hx
def oY(b:HOk P w H h)(e:H a=!(.dT kvs)):↑kvs<=sizeLine/\(a==sysModules)=false/\
  ∃xs,KT H kvs xs/\h.DictOfH (tupleKind (bB P w)) a xs:=rJ b (.inl e)
end
def DGet(H:Hp)(a:ό)(y:V)(r:ύ V):Prop:=
 (∃kvs k,Rd H a (.dK kvs)/\y=kV k/\r=bM kvs k)\/ ∃kvs k b,Rd H a (.dT kvs)/\y= .ref b/\H b=!(.tup (k.map kV))/\r=bM kvs k
def DPut(H:Hp)(a:ό)(y v:V)(H':Hp):Prop:=
 (∃kvs k,H a=!(.dK kvs)/\y=kV k/\↑kvs<sizeLine/\H'=upd H a (.dK (putK kvs k v)))\/
 ∃kvs k b,H a=!(.dT kvs)/\y= .ref b/\H b=!(.tup (k.map kV))/\↑kvs<sizeLine/\H'=upd H a (.dT (putK kvs k v))
theorem DGet.k{H:Hp}{a:ό}{b:ϊ (Key×V)}{k:Key}(e:H a=!(.dK b)):DGet H a (kV k) (bM b k):= .inl #[b,k, .inl e,rfl,rfl]
def DGet.t{k:ϊ Key}(e:H a=!(.dT kvs))(c:H b=!(.tup (k.map kV))):DGet H a (.ref b) (bM kvs k):= .inr #[kvs,k,b, .inl e,rfl,c,rfl]
theorem DPut.k{H:Hp}{a:ό}{b:ϊ (Key×V)}{k:Key}{v:V}(e:H a=!(.dK b))(c:↑b<sizeLine):DPut H a (kV k) v (upd H a (.dK (putK b k v))):= .inl #[b,k,e,rfl,c,rfl]
def DPut.t{k:ϊ Key}{v:V}(e:H a=!(.dT kvs))(c:H b=!(.tup (k.map kV)))(d:↑kvs<sizeLine):
  DPut H a (.ref b) v (upd H a (.dT (putK kvs k v))):= .inr #[kvs,k,b,e,rfl,c,d,rfl]
section
variable{X:Cx}
theorem Inv.big(I:Inv X pins σ H s):sysModules<s.heap.objs.size:=by
 have h:mainGlobals<s.heap.objs.size:=(I.mod.glob.keeps I.bk).lt;show ž (by decide) h
theorem Ck(t:A.units+1<cLine)(I:Inv X pins σ H s)(g:DGet H a y !v)(n:RelV y u)(h: ∀f s',Inv X pins σ H s'->RelV v f->Q f s'):
  wpAny (model X.prog X.w) A (getItem (.ref a) u) Q E s:=by
 rcases g with ⟨kvs,k,e,ey,l⟩ | ⟨kvs,k,b,e,ey,eb,l⟩
 .subst ey;let#[z,q,w,c,i]:=mX I.hok e;let#[f,m,d]:=RelO.some_of (v:=v) (o:=valueAt w k) (by rw [l];show c.val k);show wpAny_getItem_of (rG n) i.mapOf m (h f _ (I.tok _) d)
 .subst ey
  cases (show u=Value.ref b from n);let#[z,q,x,c,i]:=rJ I.hok e;let#[f,m,d]:=RelO.some_of (v:=v) (o:=(atKey x k).map (·.2)) (by rw [l];show c.val k);let#[p,r,j]:=Î.mp m;show wpAny_getItem_heap (Ŏ t) (jw I.hok eb) i r ?_;rw [j];show h f _ (I.tok _) d
theorem a0g(j:A.units+1<cLine)(I:Inv X pins σ H s)(g:DGet H a y o)(i:RelV y u)(h: ∀s',Inv X pins σ H s'->Q (.bool o.isSome) s'):
  wpAny (model X.prog X.w) A (compareOp .In u (.ref a)) Q E s:=by
 rcases g with ⟨kvs,k,e,ey,l⟩ | ⟨kvs,k,b,e,ey,eb,l⟩
 .subst ey;let#[z,f,m,c,d]:=mX I.hok e;show wpAny_in_of (rG i) f d.mapOf ?_;rw [<- (c.val k).isSome_eq,<- l];show h _ (I.tok _)
 .subst ey
  cases (show u=Value.ref b from i);let#[z,f,n,c,d]:=rJ I.hok e;show wpAny_in_heap (Ŏ j) (jw I.hok eb) f d ?_;have q:=(c.val k).isSome_eq;rw [ś] at q;rw [<- q,<- l];show h _ (I.tok _)
theorem O1(j:A.units+1<cLine)(I:Inv X pins σ H s)(g:DGet H a y o)(i:RelV y u)(h: ∀s',Inv X pins σ H s'->Q (.bool (not o.isSome)) s'):
  wpAny (model X.prog X.w) A (compareOp .NotIn u (.ref a)) Q E s:=by
 rcases g with ⟨kvs,k,e,ey,l⟩ | ⟨kvs,k,b,e,ey,eb,l⟩
 .subst ey;let#[z,f,m,c,d]:=mX I.hok e;show wpAny_notIn_of (rG i) f d.mapOf ?_;rw [<- (c.val k).isSome_eq,<- l];show h _ (I.tok _)
 .subst ey
  cases (show u=Value.ref b from i);let#[z,f,n,c,d]:=rJ I.hok e;show wpAny_notIn_heap (Ŏ j) (jw I.hok eb) f d ?_;have q:=(c.val k).isSome_eq;rw [ś] at q;rw [<- q,<- l];show h _ (I.tok _)
theorem iZ{i:Nat}(I:Inv X pins σ H s)(h:Xn (H a))(g:Heap.SameBut a s.heap h')(f: ∃q,h'.get? a=!q)(c:ObjOk X.prog X.w (upd H a ob) h' a ob):
  Inv X pins σ (upd H a ob) { s with heap:=h',toks:=i }:=
 I.write (x:=a) (e:=a) h (.inl rfl) (λ b q d z=>(g.2 b d).trans z) f c
def Fd{b:ϊ (Key×V)}{d:ϊ (Key×ϋ)}(z:↑b<=sizeLine)(f:(a==sysModules)=false)(c:KV b d)(e:h'.DictOf (bB P w) a d):
  ObjOk P w H' h' a (.dK b):=#[z,f,d,c,e]
theorem Cm{Q:Unit->ώ->Prop}(M:A.units+1<cLine)(I:Inv X pins σ H s)(g:DPut H a y v H')(B:RelV y u)(x:RelV v r)(h: ∀s',Inv X pins σ H' s'->Q Unit.unit s'):
  wpAny (model X.prog X.w) A (setItem (.ref a) u r) Q E s:=by
 rcases g with ⟨kvs,k,e,ey,l,eH⟩ | ⟨kvs,k,b,e,ey,eb,l,eH⟩
 .subst ey eH;let#[z,m,N,d,j]:=QQ I.hok e;have p:↑N<=sizeLine:=by rw [<- ↑d];show z
  have n:↑(putK kvs k v)<=sizeLine:=by have:=ju kvs k v;rfl'
  show wpAny_setItem_pairs (hsz:=p) (rG B) j λ w f o=>h _ ?_
  have L: ∃q,w.get? a=!q:=let ⟨q,_,_,i,_⟩:=f;#[q,i];show iZ I (by rw [e];show True.intro) o L (Fd n m (d.put k x) f)
 .subst ey eH
  cases (show u=Value.ref b from B);let#[z,m,O,d,j]:=oY I.hok e;have p:↑O<=sizeLine:=by rw [<- Ğ d];show z
  have n:↑(putK kvs k v)<=sizeLine:=by have:=ju kvs k v;rfl'
  show wpAny_setItem_heap (hsz:=p) (Ŏ M) (jw I.hok eb) j λ w f o=>h _ ?_
  let#[q,D,C,i,F,G,J,_,K]:=f;show iZ I (by rw [e];show True.intro) o ⟨q,i⟩ ⟨n,m,_,(d.put k eb x).keeps λ c P t=> ?_,q,D,C,i,F,G,J,K⟩;rw [au (fj t e (λ z=>nomatch z))];show t
end
def Tt(i:Expr):Prop:= ∀ov iv,subscripted i false ov iv=operate [ov,iv] (getItem ov iv)
theorem zP{b a:Expr}
  (k:typeLookup (.type T) "__getitem__"=pure !(.builtin m)) (l:Tt a)
  (h:wpAny (model prog w) A (eval b e) (λ o s₁=>wpAny (model prog w) A (eval a e) (λ i s₂=>s₂.TypeIs o T/\wpAny (model prog w) A (getItem o i) Q E s₂) E s₁) E s):
  wpAny (model prog w) A (eval (.Subscript b a pos) e) Q E s:=by
 show Subscript_ (ċ h (λ o s₁ f=>ċ f (λ i s₂ c=> ?_) λ _ _ x=>x) λ _ _ x=>x);let#[j,c]:=c;unfold subscriptTail;show Zl ?_;rw [getitemInPython_of_ne j.not_modules];show Zl (Θ j k ?_);have fin:wpAny (model prog w) A (subscripted a false o i) (λ r d=>wpAny (model prog w) A (letTemporaryGo b o r >>= λ _=>pure r) Q E d) E s₂:=by
  rw [l o i];show wpAny_operating (ċ c (λ r d g=>Zl (wpAny_letTemporaryGo (Á g))) λ _ _ x=>x)
 first
  | show Á (Zl fin)
  | show Zl (Á (Zl fin))
  | show Zl fin
theorem vD{X:Cx}(I:Inv X pins σ H s)(g:DGet H a y o):s.TypeIs (.ref a) "dict":=by
 rcases g with ⟨kvs,k,e,_,_⟩ | ⟨kvs,k,b,e,_,_,_⟩
 .obtain ⟨_,_,d,_,c⟩:=mX I.hok e;show c.typeIs
 .obtain ⟨_,_,f,_,c⟩:=rJ I.hok e;show c.typeIs
abbrev jx(td ty:TE):TE:=λ σ H Q=>td σ H λ x H1=>ty σ H1 λ y H2=> ∃a v,x= .ref a/\DGet H2 a y !v/\Q v H2
abbrev Fe(ty td:TE):TE:=λ σ H Q=>ty σ H λ y H1=>td σ H1 λ x H2=> ∃a o,x= .ref a/\DGet H2 a y o/\Q (.bl o.isSome) H2
abbrev nR(ty td:TE):TE:=λ σ H Q=>ty σ H λ y H1=>td σ H1 λ x H2=> ∃a o,x= .ref a/\DGet H2 a y o/\Q (.bl (not o.isSome)) H2
abbrev jY(td ty tv:TE):TS:=λ D σ H=>tv σ H λ v H1=>td σ H1 λ x H2=>ty σ H2 λ y H3=> ∃a H4,x= .ref a/\DPut H3 a y v H4/\D.nx σ H4
section
variable{X:Cx}
theorem f9(r:X.A.units+1<cLine)(p:PE X o td)(n:PE X i ty)(q:Tt i):PE X (.Subscript o i pos) (jx td ty):=by
 intro b s e H Q I h;show zP PySem.F.slot_dict_getitem.lookup q (bF (p b s e H _ I h) λ u B ob=> ?_);let#[x,f,k,z,t]:=ob;show bF (n b B e f _ k t) λ C D ob=> ?_
 let#[y,j,d,A,a,v,m,g,w]:=ob;subst m;obtain rfl:u=Value.ref a:=z;show#[vD d g,Ck r d g A λ F E l c=>#[v,j,l,c,w]]
theorem tW(p:X.A.units+1<cLine)(m:PE X i ty)(n:PE X o td):PC X .In i o (Fe ty td):=by
 intro b s c H Q I h;show bF (m b s c H _ I h) λ z w ob=> ?_
 let#[y,d,f,v,q]:=ob;show bF (n b w c d _ f q) λ u A ob=> ?_
 let#[x,e,j,t,a,ov,l,g,r]:=ob;subst l;obtain rfl:u=Value.ref a:=t;show a0g p j g v λ B k=>#[.bl ov.isSome,e,k,rfl,r]
theorem m8(p:X.A.units+1<cLine)(m:PE X i ty)(n:PE X o td):PC X .NotIn i o (nR ty td):=by
 intro b s c H Q I h;show bF (m b s c H _ I h) λ z w ob=> ?_
 let#[y,d,f,v,q]:=ob;show bF (n b w c d _ f q) λ u A ob=> ?_
 let#[x,e,j,t,a,ov,l,g,r]:=ob;subst l;obtain rfl:u=Value.ref a:=t;show O1 p j g v λ B k=>#[.bl (not ov.isSome),e,k,rfl,r]
theorem fX(w:X.A.units+1<cLine)(q:PE X o td)(p:PE X i ty)(z:PE X value tv)(t:swapsWith value (!(.Subscript o i pos')) pos.line X.env=pure false):
  PS X (.Assign [.Subscript o i pos'] value pos) (jY td ty tv):=by
 intro b s c H D I h;show wpAny_Assign_Subscript (bF (z b s c H _ I h) λ r J ⟨v,d,j,E,A⟩=>bF (q b J c d _ j A) λ u K ⟨x,e,k,F,B⟩=>bF (p b K c e _ k B) λ M N ⟨y,L,l,G,a,f,n,g,C⟩=> ?_) t;subst n;obtain rfl:u=Value.ref a:=F;show Cm w l g G E λ O m=>#[c,f,m,C]
end
def vG(h:ϒ)(a:sysModules<h.objs.size):ObjOk P w H (h.push { cls:= .type "dict",data:= .dict ([].toArray) }) h.objs.size (.dK []):=
 #[Nat.zero_le _,ń.mpr (Ne.symm (ã a)),[], .nil,Heap.DictOf.new h]
def vH(h:ϒ)(a:sysModules<h.objs.size):ObjOk P w H (h.push { cls:= .type "dict",data:= .dict ([].toArray) }) h.objs.size (.dT []):=
 #[Nat.zero_le _,ń.mpr (Ne.symm (ã a)),[], .nil,_,([].toArray),0,Ê _ rfl,#[rfl,rfl,rfl],rfl,rfl,List.nodup_nil]
abbrev kO:TE:=λ _ H Q=> ∀p,H p=none->Q (.ref p) (upd H p (.dK []))
abbrev yc:TE:=λ _ H Q=> ∀p,H p=none->Q (.ref p) (upd H p (.dT []))
section
variable{X:Cx}
theorem iu:PE X (.Dict [] [] pos) kO:=λ b s c H Q I h=>
 wpAny_Dict_empty #[.ref s.heap.objs.size,_,I.laid (a:=s.heap.objs.size) (o:= .dK []) (t':=s.toks) (λ _ _ q=>Ã _ q) (Ä _) (vG s.heap I.big),rfl,h _ (I.hok.fresh (Ä _))]
theorem vI:PE X (.Dict [] [] pos) yc:=λ b s c H Q I h=>
 wpAny_Dict_empty #[.ref s.heap.objs.size,_,I.laid (a:=s.heap.objs.size) (o:= .dT []) (t':=s.toks) (λ _ _ q=>Ã _ q) (Ä _) (vH s.heap I.big),rfl,h _ (I.hok.fresh (Ä _))]
end
def yd:ϊ (TE×TE)->St->Hp->(ϊ (V×V)->Hp->Prop)->Prop
 | [],_,H,Q=>Q [] H
 | (tk,tv)::r,σ,H,Q=>tk σ H λ x H1=>tv σ H1 λ y H2=>yd r σ H2 λ ps H3=>Q ((x,y)::ps) H3
abbrev VV:ϊ (V×V)->ϊ (ϋ×ϋ)->Prop:=Paired λ p q=>RelV p.1 q.1/\RelV p.2 q.2
def PPs(X:Cx)(pos:Pos)(keys:ϊ (ύ Expr))(values:ϊ Expr)(trs:ϊ (TE×TE)):Prop:=
 ∀(pins:Ϸ)(s:ώ)(σ:St)(H:Hp)(Q:ϊ (V×V)->Hp->Prop),Inv X pins σ H s->yd trs σ H Q->
  wpAny (model X.prog X.w) X.A (evalPairs (pairTrees keys values X.env pos)) (λ vs s'=> ∃ps H',Inv X pins σ H' s'/\VV ps vs/\Q ps H') X.xe s
theorem zQ{X:Cx}:PPs X pos [] [] []:=λ a s b H Q I h=>pairTrees_nil_walk #[[],H,I, .nil,h]
theorem vJ{X:Cx}{f:ϊ Expr}{d:TE}(o:PE X k d)(q:PE X v e)(p:PPs X pos ks f trs):
  PPs X pos (some k::ks) (v::f) ((d,e)::trs):=λ a s c H Q I h=>
 pairTrees_cons_walk (bF (o a s c H _ I h) λ u C ⟨x,g,l,A,t⟩=>bF (q a C c g _ l t) λ F D ⟨y,i,m,B,w⟩=>
  bF (p a D c i _ m w) λ G E ⟨r,j,n,b,z⟩=>#[(x,y)::r,j,n, .cons #[A,B] b,z])
def jy(kvs more:ϊ (Key×V)):ϊ (Key×V):=more.foldl (λ acc kv=>putK acc kv.1 kv.2) kvs
theorem KV.merge: ∀{a:ϊ (Key×V)}{rs:ϊ (Key×ϋ)}{kvs:ϊ (Key×V)}{vs:ϊ (Key×ϋ)},KV a rs->KV kvs vs->KV (jy kvs a) (merged vs rs):=by
 intro a rs kvs vs r;unfold KV at r;induction r generalizing kvs vs with
 | nil=>intro q;show q
 | @cons p q ps qs h t ih=>
  intro b;have e:KV (putK kvs p.1 p.2) (stored vs q.1 q.2):=by
   have:=b.put p.1 h.2;rw [<- h.1];show this
  show ih e
theorem jZ: ∀(a kvs:ϊ (Key×V)),↑(jy kvs a)<=↑kvs+↑a
 | [],kvs=>by change ↑kvs<=↑kvs+0;rfl'
 | p::r,kvs=>by
  have b:=jZ r (putK kvs p.1 p.2);have c:=ju kvs p.1 p.2;change↑(jy (putK kvs p.1 p.2) r)<=_;rw [è];rfl'
theorem oZ{w:ϕ}: ∀{kvs:ϊ (Key×V)}{ws:ϊ (ϋ×ϋ)},VV (kvs.map λ d=>(kV d.1,d.2)) ws-> ∃rs,Carries (bB P w) ws rs/\KV kvs rs
 | [],_,r=>by rw [ď] at r;cases r;show⟨[],True.intro, .nil⟩
 | p::kvs,_,r=>by
  rw [Ç] at r
  cases r with
  | @cons a b as bs h t=>
   let#[rs,c,q]:=oZ (P:=P) (w:=w) t;let#[f,e]:=b;show#[(p.1,e)::rs,#[rG h.1,rfl,c], .cons #[rfl,h.2] q]
abbrev QR(trs:ϊ (TE×TE)):TE:=λ σ H Q=> ∀p,H p=none->yd trs σ (upd H p (.dK [])) λ ps H2=>H2 p=!(.dK [])/\ ∃kvs:ϊ (Key×V),ps=kvs.map (λ kv=>(kV kv.1,kv.2))/\↑kvs<=15/\Q (.ref p) (upd H2 p (.dK (jy [] kvs)))
theorem O2{X:Cx}{b:ϊ (ύ Expr)}(h:PPs X pos b values trs)(f:b.all (·.isSome)=true)(x:↑b=↑values)(r:b≠[])
  (j:↑b<=15):PE X (.Dict b values pos) (QR trs):=by
 intro i s J H Q I q;have y:=I.hok.fresh (Ä s.heap.objs.size);have m:=I.laid (a:=s.heap.objs.size) (o:= .dK []) (h':=s.heap.push { cls:= .type "dict",data:= .dict ([].toArray) }) (t':=s.toks) (λ _ _ q=>Ã _ q) (Ä _) (vG s.heap I.big);show wpAny_Dict_walk (knd:=bB X.prog X.w) f x r j (bF (h i _ J _ _ m (q _ y)) λ N M ob=> ?_);let#[L,K,l,k,e,g,p,lk,C]:=ob;subst p;let#[F,c,E]:=oZ (P:=X.prog) (w:=X.w) k;let#[z,u,G,D,n]:=QQ l.hok e
 cases D;show#[F,c,n,λ h' d A=>#[.ref s.heap.objs.size,_,?_,rfl,C]];have B:↑(jy [] g)<=sizeLine:=by
  have t:=jZ g [];rw [ů] at t;rw [Ā];rfl'
 have v: ∃q,h'.get? s.heap.objs.size=!q:=let ⟨q,_,_,hq,_⟩:=d;#[q,hq];show iZ l (by rw [e];show True.intro) A v (Fd B u (E.merge .nil) d)
structure M1(X:Cx)(o:Expr)(m:ϐ)(apos:Pos)(e:Expr)(cpos:Pos):Prop where
 base:attributeBase o m X.env (eval o X.env)=eval o X.env
 few:((backTo cpos (starEach [e] X.env)).all (λ x=> not x.1)&&(backToKw cpos (keywordEach [] X.env)).all (λ x=>x.1.isSome)
  &&decide (↑([e]:ϊ Expr)+↑([]:ϊ Keyword)+(if ([]:ϊ Keyword).isEmpty then 0 else 1)<30))=true
 line:(apos.endLine==cpos.line)=true
 trees:backTo cpos (starEach [e] X.env)=[(false,eval e X.env)]
structure M2(X:Cx)(o:Expr)(m:ϐ)(apos:Pos)(e f:Expr)(cpos:Pos):Prop where
 base:attributeBase o m X.env (eval o X.env)=eval o X.env
 few:((backTo cpos (starEach [e,f] X.env)).all (λ x=> not x.1)&&(backToKw cpos (keywordEach [] X.env)).all (λ x=>x.1.isSome)
  &&decide (↑([e,f]:ϊ Expr)+↑([]:ϊ Keyword)+(if ([]:ϊ Keyword).isEmpty then 0 else 1)<30))=true
 line:(apos.endLine==cpos.line)=true
 trees:backTo cpos (starEach [e,f] X.env)=[(false,eval e X.env),(false,eval f X.env)]
def IsD(H:Hp)(a:ό):Prop:=(∃kvs,Rd H a (.dK kvs))\/ ∃kvs,Rd H a (.dT kvs)
theorem ye{X:Cx}(I:Inv X pins σ H s)(d:IsD H a):
  s.TypeIs (.ref a) "dict"/\(∀b,Value.ref a= .ref b-> ∃ob,s.heap.get? b=!ob/\ob.dict=none)/\(a==sysModules)=false:=by
 rcases d with ⟨kvs,e⟩ | ⟨kvs,e⟩
 .obtain ⟨_,h,i,_,c⟩:=mX I.hok e;show#[c.typeIs,λ b q=> ?_,h]
  cases q;let#[ob,_,_,f,g,_]:=c;show#[ob,f,g.2.1]
 .obtain ⟨_,h,j,_,c⟩:=rJ I.hok e;show#[c.typeIs,λ b q=> ?_,h]
  cases q;let#[ob,_,_,f,g,_]:=c;show#[ob,f,g.2.1]
end L2
set_option linter.all false
namespace Bm
variable{i k n:Nat}
def popF:Nat->Nat->Nat
 | 0,_=>0
 | k+1,n=>n%2+popF k (n/2)
def pop(n:Nat):=popF n n
theorem popZ: ∀k,popF k 0=0
 | 0=>rfl
 | k+1=>(Nat.zero_add _).trans (popZ k)
theorem popK: ∀{k j n:Nat},n<=k->n<=j->popF k n=popF j n
 | 0,j,n,h,_=>by cases Nat.le_zero.mp h;exact (popZ j).symm
 | k+1,0,n,_,h=>by cases Nat.le_zero.mp h;exact popZ _
 | k+1,j+1,n,h,i=>congrArg (n%2+·) (popK (k:=k) (j:=j) (by omega) (by omega))
def jz:pop 0=0:=rfl
theorem m9(n:Nat):pop n=n%2+pop (n/2):=by
 cases n with
 | zero=>rfl
 | succ n=>exact congrArg ((n+1)%2+·) (popK (by omega) (Nat.le_refl _))
theorem tY(m:Nat):pop (2*m)=pop m:=by
 rw [m9,show 2*m%2=0 by rfl',show 2*m / 2=m by rfl',ũ]
theorem O3(m:Nat):pop (2*m+1)=pop m+1:=by
 rw [m9,show(2*m+1)%2=1 by rfl',show(2*m+1) / 2=m by rfl',ķ]
theorem Ff(a b:Nat):(2*a)&&& (2*b+1)=2*(a&&& b):=by
 apply Ĥ;intro i
 cases i with
 | zero=>simp [Ŗ]
 | succ i=>
  rw [Ŗ,Ĵ,Ĵ,Ĵ,show 2*a / 2=a by rfl',show(2*b+1) / 2=b by rfl',show 2*(a&&& b) / 2=(a&&& b) by rfl',Ŗ]
theorem Tu(a b:Nat):(2*a+1)&&& (2*b)=2*(a&&& b):=by rw [Nat.and_comm,Ff,Nat.and_comm]
theorem O4(n:Nat)(h:0<n):pop (n&&& (n-1))+1=pop n:=by
 induction n using Nat.strongRecOn with
 | ind n ih=>
  rcases ŏ n with e | e
  .obtain ⟨m,rfl⟩: ∃m,n=2*m:=#[n / 2,()];have q:=ih m () ();rw [show 2*m-1=2*(m-1)+1 by rfl',Ff,tY,tY];show q
  .obtain ⟨m,rfl⟩: ∃m,n=2*m+1:=#[n / 2,()];rw [show 2*m+1-1=2*m by rfl',Tu,Nat.and_self,tY,O3]
def Tv(n:Nat)(h:0<n):n&&& (n-1)<n:=Û Nat.and_le_right ()
theorem vK: ∀(k n:Nat),n<2^k->↑((List.range k).filter λ i=>n.testBit i)=pop n
 | 0,n,h=>by
  have e:n=0:=by simpa using h
  subst e;simp [jz]
 | k+1,n,h=>by
  have q:=vK k (n / 2) (by rw [Nat.pow_succ] at h;rfl');rw [ζ,m9 n,<- q,List.filter_cons];have e:((List.range k).map Nat.succ).filter (λ i=>n.testBit i)=((List.range k).filter λ i=>(n / 2).testBit i).map Nat.succ:=by
   rw [List.filter_map];congr 1;apply List.filter_congr;intro x _;simp [Function.comp,Ĵ]
  rw [e];rcases ŏ n with z | z
  .have t:n.testBit 0=false:=by simp [Nat.testBit_zero,z]
   simp [t,z]
  .have t:n.testBit 0=true:=by simp [Nat.testBit_zero,z]
   simp [t,z];rfl'
theorem vL(a b:Nat):(a^^^b) / 2=(a / 2)^^^(b / 2):=by
 apply Ĥ;intro i;simp [<- Ĵ,ŗ]
theorem du(x:Nat):x%2=(x.testBit 0).toNat:=by
 rcases ŏ x with h | h<;>simp [Nat.testBit_zero,h]
theorem O5(a b:Nat):(a^^^b)%2=(a%2+b%2)%2:=by
 rw [du (a^^^b),du a,du b,ŗ]
 cases a.testBit 0<;>cases b.testBit 0<;>rfl
theorem O6(a:Nat): ∀b:Nat,pop (a^^^b)<=pop a+pop b:=by
 induction a using Nat.strongRecOn with
 | ind a ih=>
  intro b;by_cases z:a=0
  .subst z;simp [jz]
  .have q:=ih (a / 2) () (b / 2);rw [m9 (a^^^b),m9 a,m9 b,vL,O5];rfl'
theorem O7(a b c:Nat):pop (a^^^c)<=pop (a^^^b)+pop (b^^^c):=by
 have e:a^^^c=(a^^^b)^^^(b^^^c):=by
  apply Ĥ;intro i;simp only [ŗ]
  cases a.testBit i<;>cases b.testBit i<;>cases c.testBit i<;>rfl
 rw [e];show O6 _ _
def lD(xs:ϊ Nat):Nat:=xs.foldl (λ a i=>a||| 2^i) 0
theorem XH(b:ϊ Nat): ∀(a i:Nat),(b.foldl (λ a i=>a||| 2^i) a).testBit i=(a.testBit i||decide (i∈b)):=by
 induction b with
 | nil=>intro a i;simp
 | cons x r ih=>
  intro a i;rw [Ł,ih,Nat.testBit_or,Nat.testBit_two_pow];simp only [È,Bool.decide_or,Bool.or_assoc];congr 1;by_cases e:x=i
  .subst e;simp
  .simp [e,Ne.symm e]
theorem Tw(a:ϊ Nat)(i:Nat):(lD a).testBit i=decide (i∈a):=by
 unfold lD;rw [XH];simp
theorem O8(a:ϊ Nat)(x:Nat):lD (a++[x])=lD a||| 2^x:=by unfold lD;rw [Ļ];rfl
def bits(k n:Nat):ϊ Nat:=(List.range k).filter λ i=>n.testBit i
theorem lE:i∈bits k n↔i<k/\n.testBit i=true:=by simp [bits]
theorem O9(h:n<2^k)(a:n.testBit i=true):i<k:=by
 apply Decidable.byContradiction;intro z;have q:n.testBit i=false:=Nat.testBit_lt_two_pow (Ô h (Nat.pow_le_pow_right () ()));rw [q] at a;cases a
theorem Oa(h:n<2^k):lD (bits k n)=n:=by
 apply Ĥ;intro i;rw [Tw]
 cases e:n.testBit i with
 | true=>simp [lE,e,O9 h e]
 | false=>simp [lE,e]
end Bm
set_option linter.all false
namespace Bx
open PySem
def j5(m n:Nat):Builtin.bitAnd (m:Int) (n:Int)=((m&&& n:Nat):Int):=by
 rw [PyProof.Rows.bitAnd_pp () ()];simp
def Fg(m n:Nat):(m||| n)+(m&&& n)=m+n:=by
 induction m using Nat.strongRecOn generalizing n with
 | ind m ih=>
  by_cases a:m=0
  .subst a;simp
  .have q:=ih (m / 2) () (n / 2);have b:(m||| n) / 2=(m / 2)||| (n / 2):=by
    apply Ĥ;intro i;simp [<- Ĵ,Nat.testBit_or]
   have c:(m&&& n) / 2=(m / 2)&&& (n / 2):=by
    apply Ĥ;intro i;simp [<- Ĵ,Ŗ]
   have d:(m||| n)%2+(m&&& n)%2=m%2+n%2:=by
    rw [Bm.du (m||| n),Bm.du (m&&& n),Bm.du m,Bm.du n,Nat.testBit_or,Ŗ]
    cases m.testBit 0<;>cases n.testBit 0<;>rfl
   rfl'
def rK(m n:Nat):Builtin.bitOr (m:Int) (n:Int)=((m||| n:Nat):Int):=by
 rw [PyProof.Rows.bitOr_and,j5];have:=Fg m n;rfl'
def Ob(m n:Nat):(m^^^n)+2*(m&&& n)=m+n:=by
 induction m using Nat.strongRecOn generalizing n with
 | ind m ih=>
  by_cases a:m=0
  .subst a;simp
  .have q:=ih (m / 2) () (n / 2);have b:=Bm.vL m n;have c:(m&&& n) / 2=(m / 2)&&& (n / 2):=by
    apply Ĥ;intro i;simp [<- Ĵ,Ŗ]
   have d:(m^^^n)%2+2*((m&&& n)%2)=m%2+n%2:=by
    rw [Bm.du (m^^^n),Bm.du (m&&& n),Bm.du m,Bm.du n,ŗ,Ŗ]
    cases m.testBit 0<;>cases n.testBit 0<;>rfl
   rfl'
def yf(m n:Nat):Builtin.bitXor (m:Int) (n:Int)=((m^^^n:Nat):Int):=by
 unfold Builtin.bitXor;rw [rK,j5];have a:=Fg m n;have b:=Ob m n;rfl'
def jA(k:Nat):((2^k:Nat):Int)=(2:Int)^k:=by simp
def Oc(n k:Nat):(n:Int) / 2^k=((n / 2^k:Nat):Int):=by
 rw [<- jA];rfl
def Od(n k:Nat):Builtin.bitAnd ((n:Int) / 2^k) 1=(((n.testBit k).toNat:Nat):Int):=by
 rw [Oc,show(1:Int)=((1:Nat):Int) from rfl,j5,Nat.and_one_is_mod,Bm.du];rw [show(n / 2^k).testBit 0=n.testBit k by rw [Nat.testBit_div_two_pow];simp]
end Bx
section
namespace L2
open PySem PySem.Spec PyProof.Rows
variable{H:Hp}{σ:St}{tl:TE}{wi:TI}{x:ϐ}{env:Env}{h':ϒ}{pos:Pos}{tg:Expr}{u:ϋ}{w:ϕ}{d:PyData}{n t':Nat}{C a p:ό}{N':ϊ ϐ}{ch:ϊ ό}{ifs:ϊ Expr}{us:ϊ ϋ}{ds:ϊ PyData}{esc sc scope:Scope}{κ:ϊ (ύ Nat)}{m':ϐ->ύ ϋ}{pins:Ϸ}{E:϶}{RR:ϋ->ό->Result->ώ->Prop}
abbrev blk(X:Cx)(sc:Scope)(N':ϊ ϐ)(cl:ϊ (ϐ×ό))(C:ό)(s:ώ)(H:Hp)(fp:ϊ ό)(pins:Ϸ):Cx where
 prog:=X.prog
 w:=X.w
 K:=X.K
 mg:=X.mg
 base:=X.base
 A:=X.A
 N:=N'
 s₀:=s
 H₀:=H
 env:=compEnvC sc cl C X.env
 outer:=X.stack
 stack:=X.stack
 ex:=fp
 fn:=λ _=>false
 calm:=X.calm
 pn:=X.pn++pins
 xe:=λ _ _=>False
structure CScope(esc sc:Scope):Prop where
 kind:sc.kind= .function
 nocell: ∀y∈sc.names,y.2≠ .cell
 locs: ∀y∈sc.names,y.2= .local->sc.names.lookup y.1=!.local
 frees: ∀y∈sc.names,y.2= .free->esc.names.lookup y.1=!.cell\/esc.names.lookup y.1=!.free
theorem mem_lookup{a:Type}{x:ϐ}{k:a}: ∀{l:ϊ (ϐ×a)},l.lookup x=!k->(x,k)∈l
 | [],h=>by simp at h
 | (n,k')::r,h=>by
  rw [ģ] at h
  cases e:x==n with
  | true=>
   rw [e] at h;have b:x=n:=Τ e;injection h with h
   subst b;subst h;show Ë
  | false=>
   rw [e] at h;show É _ (mem_lookup h)
theorem tZ{env:Env}: ∀(names:ϊ (ϐ×NameKind))(cs:ϊ (ϐ×ό)),(∀y∈names,y.2= .free-> ∃c,env.cells.lookup y.1=!c)->(∀x c,cs.lookup x=!c->env.cells.lookup x=!c)->
  ∃cl:ϊ (ϐ×ό),(forIn names cs λ (y:ϐ×NameKind) (r:ϊ (ϐ×ό))=>(if (y.2==NameKind.free)=true then (cellOf env y.1 >>= λ c=>pure (ForInStep.yield ((y.1,c)::r))) else pure (ForInStep.yield r):Sem (ForInStep (ϊ (ϐ×ό)))))=pure cl/\
   (∀x c,cl.lookup x=!c->env.cells.lookup x=!c)/\ ∀x c,env.cells.lookup x=!c->((x,NameKind.free)∈names\/cs.lookup x=!c)->cl.lookup x=!c
 | [],cs,_,hcs=>#[cs,rfl,hcs,λ x c _ h=>h.elim (λ z=>nomatch z) id]
 | (n, k) :: r, cs, hf, hcs => by
  have f: ∀y∈r,y.2= .free-> ∃c,env.cells.lookup y.1=!c:=λ y s=>hf y (É _ s)
  by_cases o:k= .free
  .subst o;let#[c,l]:=hf (n, .free) Ë rfl;have q:cellOf env n=pure c:=by
    have m:env.cells.lookup n=!c:=l;unfold cellOf;rw [m]
   have d: ∀x a,((n,c)::cs).lookup x=!a->env.cells.lookup x=!a:=λ x a h=>by
    rw [ģ] at h
    cases e:x==n with
    | true=>
     rw [e] at h;injection h with h
     have b:x=n:=Τ e;subst b;subst h;show l
    | false=>rw [e] at h;show hcs x a h
   let#[cl,e,i,j]:=tZ r ((n,c)::cs) f d;show#[cl,?_,i,λ x a g hm=>j x a g ?_]
   .rw [ü];simp-iota only [beq_self_eq_true,ĺ];rw [q];show e
   .rw [ģ]
    cases ex:x==n with
    | true=>
     right;have b:x=n:=Τ ex;subst b;show l.symm.trans g
    | false=>
     rcases hm with hm | hm
     .rcases È.mp hm with z | z
      .have b:x=n:=Ö Prod.fst z;subst b;rw [beq_self_eq_true] at ex
       cases ex
      .show .inl z
     .show .inr hm
  .obtain ⟨cl,e,i,j⟩:=tZ r cs f hcs;have p:(k==NameKind.free)=false:=by
    cases k<;>first | rfl | show absurd rfl o
   show#[cl,?_,i,λ x a g hm=>j x a g ?_]
   .rw [ü];simp-iota only [p,á,ą];show e
   .rcases hm with hm | hm
    .rcases È.mp hm with z | z
     .show absurd (Ö Prod.snd z).symm o
     .show .inl z
    .show .inr hm
theorem zR(f: ∀y∈sc.names,y.2= .free-> ∃c,env.cells.lookup y.1=!c):
  ∃cl:ϊ (ϐ×ό),closureFor sc env=pure cl/\(∀x c,cl.lookup x=!c->env.cells.lookup x=!c)/\ ∀x c,env.cells.lookup x=!c->(x,NameKind.free)∈sc.names->cl.lookup x=!c:=by
 let#[cl,e,b,d]:=tZ (env:=env) sc.names [] f (λ x c h=>by simp at h);show#[cl,?_,b,λ x c i g=>d x c i (.inl g)];have q:closureFor sc env=((forIn sc.names [] λ (y:ϐ×NameKind) (r:ϊ (ϐ×ό))=>(if (y.2==NameKind.free)=true then (cellOf env y.1 >>= λ c=>pure (ForInStep.yield ((y.1,c)::r))) else pure (ForInStep.yield r):Sem (ForInStep (ϊ (ϐ×ό))))) >>= λ a=>pure a):=by
  first
   | rfl
   | (unfold closureFor;congr 1)
 rw [q,e];rfl
theorem j6{env:Env}{x:ϐ}: ∀{names:ϊ (ϐ×NameKind)},
  (names.map λ (n,k)=>if (k==NameKind.free&&env.scope.kind== .function&&env.kindOf n==!.cell) then (n,NameKind.cell) else (n,k)).lookup x=
   (names.lookup x).map λ k=>if (k==NameKind.free&&env.scope.kind== .function&&env.kindOf x==!.cell) then NameKind.cell else k
 | []=>rfl
 | (n, k) :: r => by
  have c:=j6 (env:=env) (x:=x) (names:=r);change List.lookup x ((if (k==NameKind.free&&env.scope.kind== .function&&env.kindOf n==!.cell)=true then (n,NameKind.cell) else (n,k))::_)=_;rw [ģ (b:=k)]
  cases hx:x==n with
  | true=>
   have e:x=n:=Τ hx;subst e;by_cases a:(k==NameKind.free&&env.scope.kind== .function&&env.kindOf x==!.cell)=true
   .rw [if_pos a,ģ,hx];change some NameKind.cell=!(if (k==NameKind.free&&env.scope.kind== .function&&env.kindOf x==!.cell)=true then NameKind.cell else k);rw [if_pos a]
   .rw [if_neg a,ģ,hx];change some k=!(if (k==NameKind.free&&env.scope.kind== .function&&env.kindOf x==!.cell)=true then NameKind.cell else k);rw [if_neg a]
  | false=>
   by_cases a:(k==NameKind.free&&env.scope.kind== .function&&env.kindOf n==!.cell)=true
   .rw [if_pos a,ģ,hx];show c
   .rw [if_neg a,ģ,hx];show c
theorem CScope.free_of(S:CScope esc sc)(h:(relabel sc env).names.lookup x=!.cell\/(relabel sc env).names.lookup x=!.free):(x,NameKind.free)∈sc.names:=by
 have q:(relabel sc env).names.lookup x=_:=j6 (env:=env) (x:=x) (names:=sc.names);rw [q] at h
 cases e:sc.names.lookup x with
 | none=>rw [e] at h;simp at h
 | some k=>
  have a:=mem_lookup e;have b:=S.nocell _ a
  cases k with
  | free=>show a
  | cell=>show absurd rfl b
  | _=>rw [e] at h;simp at h
theorem CScope.cell_of(S:CScope esc sc)(a:env.scope=esc)(b:env.scope.kind= .function)(h:sc.names.lookup x=!.free):(relabel sc env).names.lookup x=!.cell\/(relabel sc env).names.lookup x=!.free:=by
 have q:(relabel sc env).names.lookup x=_:=j6 (env:=env) (x:=x) (names:=sc.names);rw [q,h];simp-iota only [Ŕ];split
 .show .inl rfl
 .show .inr rfl
def cap(κ:ϊ (ύ Nat))(σ:St):St:=κ.map λ o=>o.bind λ i=>(σ[i]?).join
def capOk(κ:ϊ (ύ Nat))(N' N:ϊ ϐ)(sc:Scope):ϑ:=
 decide (↑κ=↑N')&&(κ.zip N').all λ p=>match p.1 with
  | none=>true
  | some i=>N[i]? ==some p.2&&sc.names.lookup p.2==!.free
theorem capOk.len(h:capOk κ N' N sc=true):↑κ=↑N':=by
 unfold capOk at h;rw [Ć] at h;show ô h.1
theorem capOk.at(h:capOk b c N f=true){j:Nat}{d:St}(g:c[j]? =!y)(a:(cap b d)[j]? =!(!v)):
  ∃i:Nat,N[i]? =!y/\d[i]? =!(!v)/\f.names.lookup y=!.free:=by
 unfold capOk at h;rw [Ć,Ť] at h;unfold cap at a;rw [Wp] at a
 cases e:b[j]? with
 | none=>rw [e] at a;simp at a
 | some o=>
  rw [e] at a;simp only [Ŕ,Option.some.injEq] at a
  cases o with
  | none=>simp at a
  | some i=>
   have k:(!i,y)∈b.zip c:=Xs (i:=j) (by rw [List.getElem?_zip_eq_some];show#[e,g]);have q:=h.2 _ k;simp only [Ć,beq_iff_eq] at q;show#[i,q.1,?_,q.2];simp only [Option.bind_some] at a
   cases r:d[i]? with
   | none=>rw [r] at a;simp at a
   | some z=>rw [r] at a;simp at a;rw [a]
def qy(a b:St):Prop:=↑b=↑a/\ ∀(i:Nat) v,a[i]? =!(!v)->b[i]? =!(!v)
def Fi(X:Cx)(ifs:ϊ Expr)(t:TT):Prop:=
 ∀(pins:Ϸ)(s:ώ)(σ:St)(H:Hp)(Q:ϑ->Hp->Prop),Inv X pins σ H s->t σ H Q->
  wpAny (model X.prog X.w) X.A (forIn ifs true λ c r=>if r=true then do let ok <- isTrue c X.env (eval c X.env);pure (ForInStep.yield ok) else pure (ForInStep.yield r)) (TP X pins σ Q) X.xe s
abbrev dB:TT:=λ _ H Q=>Q true H
theorem bI{X:Cx}:Fi X [] dB:=λ a s b H Q I h=>wpAny_tests_nil #[H,I,h]
theorem nT{X:Cx}(h:PT X c t):Fi X [c] t:=λ a s b H Q I q=>wpAny_tests_one (h a s b H Q I q)
section
theorem u5{a:Expr}{C l:ϋ}(I:Nat->ώ->Prop)
  (B: ∀n s,I n s->wpAny (model prog w) A (pyNext C) (λ r s₁=>match r with
   | none=>R (.ok .next) s₁
   | some v=>wpAny (model prog w) A (letOwnedTupleGo a C v) (λ _ d=>wpAny (model prog w) A (assign a env v) (λ _ s₂=>
     wpAny (model prog w) A (forIn ifs true λ c r=>if r=true then do let ok <- isTrue c env (eval c env);pure (ForInStep.yield ok) else pure (ForInStep.yield r)) (λ ok e=>
      if ok=true then wpAny (model prog w) A (eval o env) (λ x j=>
       wpAny (model prog w) A (call (.builtin "list.append") [l,x]) (λ _ k=> ∃m,m<n/\I m k) (λ _ _=>False) j) (λ _ _=>False) e
      else ∃m,m<n/\I m e) (λ _ _=>False) s₂) (λ _ _=>False) d) (λ _ _=>False) s₁) (λ _ _=>False) s)
  (n:Nat) (h:I n s):
  codeAny (model prog w) A (.compLoop (.ListComp o [#[a,i,ifs,0]] scope pos) 0 C l env) R s:=by
 show codeAny_loop rfl I (λ n s D=> ?_) n h;change wpAny _ A ((compTurn (.ListComp o [#[a,i,ifs,0]] scope pos) 0 C l env).onRaise (λ x=>do noteFrame x env;theTreesLotGoes x)) _ _ s;show wpAny_noted ?_;rw [compTurn_list];show ċ (E:=λ _ _=>False) ?_ (λ _ _ q=>q) (λ _ _ z=>z.elim);show Zl (wpAny_standAt (Zl (ċ (B n s D) (λ r s₁ f=> ?_) λ _ _ b=>b)))
 cases r with
 | none=>show Á f
 | some v=>
  show Zl (ċ f (λ _ d p=> ?_) λ _ _ b=>b);show Zl (ċ p (λ _ s₂ t=>Zl (ċ t (λ ok e g=> ?_) λ _ _ b=>b)) λ _ _ b=>b)
  cases ok with
  | false=>show Á #[rfl,g]
  | true=>
   show Zl (Zl (ċ g (λ x j u=>Zl (ċ u (λ _ k y=>Á (Á #[rfl,y])) λ _ _ b=>b)) λ _ _ b=>b))
end
theorem HOk.track(x:HOk P w H h)(g:H a=none)(d:ObjOk P w (upd H a o) h a o):HOk P w (upd H a o) h:=λ b u e=>by
 by_cases f:b=a
 .subst f;rw [aa] at e;cases e;show d
 .rw [au f] at e;show(x b u e).stay (λ c v _ q=>q) (λ c q=>by rw [au (aY q g)];show q) λ c i q=>by rw [au (aY q g)];show q
section
variable{X:Cx}{pins:Ϸ}{σ:St}{H2:Hp}{s₂:ώ}{tg iter elt:Expr}{ifs:ϊ Expr}{sc:Scope}{pos:Pos}{N':ϊ ϐ}{κ:ϊ (ύ Nat)}{cl:ϊ (ϐ×ό)}{it:ό}{fp:ϊ ό}{tn:Nat->ϒ->Prop}{J:It}{g:TG}{tc:TT}{te:TE}
theorem Tz(I:Inv X pins σ H2 s₂)(g: ∀b∈fp,nG X pins H2 b)(j: ∀b∈fp,b<s₂.heap.objs.size)(S:CScope X.env.scope sc)
  (a: ∀x c,cl.lookup x=!c->X.env.cells.lookup x=!c) (f: ∀x c,X.env.cells.lookup x=!c->(x,NameKind.free)∈sc.names->cl.lookup x=!c) (i:s₂.heap.objs.size<=C):
  (blk X sc N' cl C s₂ H2 fp pins).Ok where
 mod:=I.mod
 kind:=S.kind
 glob:=I.ok.glob
 blt:=I.ok.blt
 above:=i
 inj:=λ x y c k l=>I.ok.inj x y c (a _ _ k) (a _ _ l)
 has:=λ x h=>by
  have e:=S.free_of (env:=X.env) h;let#[c,m]:=I.ok.has x (S.frees _ e rfl);show#[c,f x c m e]
 cab:=λ x c h _=>by cases h
 hd:=I.ok.hd
 frames:=I.ok.frames
 stk:= .inl rfl
 exf:=λ b d=>#[Nat.ne_of_lt (Ô (j b d) i),λ x c n=>(g b d).2.2.2.2.1 x c (a x c n)]
 bs:=I.bs
 bsz:=Ò I.ok.bsz I.sz
 noex:=λ b o d e=>by
  let#[_,_,_,h4,_]:=g b e;rcases h4 with h4 | h4
  .show I.ok.noex b o d h4
  .show absurd (Ì (I.ok.bs b o d).1) (Nat.not_lt.mpr h4)
 exfs:=λ b d e=>by
  rcases È.mp (I.stkSub b e) with z | z
  .show (g b d).2.1 z
  .show (g b d).2.2.1 z
 funs:=I.stack
 frf:=I.stkFree
theorem Oe(I:Inv X pins σ H2 s₂)(D: ∀b∈fp,nG X pins H2 b)(E: ∀b∈fp,b<s₂.heap.objs.size)(S:CScope X.env.scope sc)(f:capOk κ N' X.N sc=true)
  (a: ∀x c,cl.lookup x=!c->X.env.cells.lookup x=!c) (g: ∀x c,X.env.cells.lookup x=!c->(x,NameKind.free)∈sc.names->cl.lookup x=!c) (k:s₂.heap.objs.size<=C)
  {T:Nat} (M:h'.Ns C m') (d: ∀b o,s₂.heap.get? b=!o->h'.get? b=!o):
  Inv (blk X sc N' cl C s₂ H2 fp pins) [] (cap κ σ) H2 { s₂ with heap:=h',toks:=T } where
 ok:=Tz I D E S a g k
 os:=rfl
 bare:=I.bare
 base:=Un.kept d
 loc:=⟨m',M,λ j y v Q P A=>by
  let#[i,K,O,t]:=capOk.at f Q P;have w:=mem_lookup t;have h:=S.frees _ w rfl;let#[m,_,L]:=I.loc;let#[u,R,lk]:=L i y v K O (.inr h);show#[u,R, .inr #[S.cell_of (env:=X.env) rfl I.ok.kind t,?_]];rcases lk with ⟨hk,_⟩ | ⟨_,c,hc,hu⟩
  .have l:X.env.scope.names.lookup y=!.local:=hk;rcases h with z | z<;>(have B:X.env.scope.names.lookup y=_:=z;rw [l] at B;cases B)
  .obtain ⟨o,e,r⟩:=hu;show⟨c,g y c hc w,o,d _ _ e,r⟩⟩
 cell:=λ x c q=>by
  let#[v,o,e,r]:=I.cell x c (a x c q);show#[v,o,d _ _ e,r]
 free:=I.hok.fresh k
 freeC:=λ x c q=>I.freeC x c (a x c q)
 pin:=λ p N=>by
  have n:p∈X.pn++pins:=by simpa using N
  let#[s,F,G,H,J]:=I.pin p n;show#[d _ _ s,F,ã (Ô (Ì s) k),λ z=> ?_,J];rcases È.mp (I.stkSub p.1 z) with y | y
  .show G y
  .show H y
 hok:=I.hok.kept d
 len:=by
  change↑(cap κ σ)=↑N';unfold cap;rw [Qb];show capOk.len f
structure Left(X:Cx)(pins:Ϸ)(σ:St)(C:ό)(H:Hp)(s:ώ):Prop where
 inv:Inv X pins σ H s
 ns: ∃m,s.heap.Ns C m
 un:H C=none
 nl:C≠X.env.locals
 nf:C∉X.fs
 ab:X.s₀.heap.objs.size<=C
 nc: ∀x c,X.env.cells.lookup x=!c->c≠C
 np: ∀p∈X.pn++pins,p.1≠C
theorem Left.go(l:Left X pins σ C H s)(c:Heap.SameBut C s.heap h'):Inv X pins σ H { s with heap:=h' }:=
 l.inv.turned (t':=s.toks) (λ b o a e=>c.extBut b o a e) l.un l.nl (.inr l.ab) l.nc l.np
theorem zT(hc:X.calm=true)(I:Inv X pins σ H2 s₂)(T:Turn X.prog X.w X.K tg J fp it tn)(st:tn 0 s₂.heap)(G: ∀b∈fp,nG X pins H2 b)
  (S:CScope X.env.scope sc) (am:capOk κ N' X.N sc=true) (w: ∀x c,cl.lookup x=!c->X.env.cells.lookup x=!c) (ap: ∀x c,X.env.cells.lookup x=!c->(x,NameKind.free)∈sc.names->cl.lookup x=!c)
  (hg: ∀C,PG (blk X sc N' cl C s₂ H2 fp pins) tg g) (hi: ∀C,Fi (blk X sc N' cl C s₂ H2 fp pins) ifs tc) (he: ∀C,PE (blk X sc N' cl C s₂ H2 fp pins) elt te)
  {W:Nat->Nat->ϊ V->Hp->Prop} {Q:VK} {m0:Nat} (w0:W 0 m0 [] H2)
  (ay: ∀i m ys H,W i m ys H->(J.stop i H/\ ∀p,H p=none->Q (.ref p) (upd H p (.lst ys)))\/
   (J.go i H/\↑ys<sizeLine/\ ∃N:ϊ V->Hp->Prop,(∀a1 H',N a1 H'-> ∃m',m'<m/\W (i+1) m' a1 H')/\ ∀x H',J.yld i H x H'->g x (cap κ σ) H' λ ag H2=>qy (cap κ σ) ag/\tc ag H2 λ b B=>if b=true then te ag B λ y H4=>N (ys++[y]) H4 else N ys B))
  (a7: ∀D C H' s1,Left X pins σ C H' s1->Q (.ref D) H'->RR (.ref D) C (.ok .next) s1):
  wpAny (model X.prog X.w) X.A (newList []) (λ ai t=>wpAny (model X.prog X.w) X.A (newFunctionEnv sc X.env.globals cl [] X.env.qual none .none !X.env) (λ R ax=>
   codeAny (model X.prog X.w) X.A (.compStart (.ListComp elt [#[tg,iter,ifs,0]] sc pos) 0 (.ref it) ai { R with scope:=relabel sc X.env }) (RR ai R.locals) ax) E t) E s₂:=by
 show õ (wpAny_newFunctionEnv S.nocell (by intro y hy;simp at hy) (λ s k h=> ?_) S.kind);dsimp only at k h ⊢;generalize hH2:s₂.heap.push { cls:= .type "list",dict:=none,data:= .seq ([]:ϊ ϋ).toArray }=P2 at k h ⊢;have K:P2.objs.size=s₂.heap.objs.size+1:=by rw [<- hH2,Ī]
 generalize hCe:P2.objs.size=C at k h K ⊢;generalize hDe:s₂.heap.objs.size=D at K ⊢;have L:D≠C:=by rw [K];show ã (ĵ _)
 have hC:s₂.heap.objs.size<=C:=by rw [hDe,K];show Nat.le_succ _
 have hD:s₂.heap.objs.size<=D:=by rw [hDe];show Ä _
 have a: ∀b,b<s₂.heap.objs.size->b≠C/\b≠D:=λ b j=>#[Nat.ne_of_lt (Ô j hC),ã (Ô j hD)]
 have as: ∀b o,s₂.heap.get? b=!o->s.get? b=!o:=λ b o e=>h.extBut b o (a b (Ì e)).1 (Ã _ (hH2▸Ã _ e))
 have al:s.get? D=!{ cls:= .type "list",data:= .seq ([]:ϊ ϋ).toArray ↑([]:ϊ ϋ) }:=by
  have q:P2.get? s₂.heap.objs.size=!{ cls:= .type "list",data:= .seq ([]:ϊ ϋ).toArray 0 }:=hH2▸Ê _ rfl;rw [hDe] at q;show h.extBut _ _ L (Ã _ q)
 have fl: ∀b∈fp,b<s₂.heap.objs.size:=λ b j=>by
  let#[o,e,_]:=T.obj 0 _ st b j;show Ì e
 have A:tn 0 s:=T.keep 0 _ _ st λ b _ o e=>as b o e
 have IB: ∀tk,Inv (blk X sc N' cl C s₂ H2 fp pins) [] (cap κ σ) H2 { s₂ with heap:=s,toks:=tk }:=λ tk=>Oe I G fl S am w ap hC k as
 have ac: ∀x c,cl.lookup x=!c->c<s₂.heap.objs.size:=λ x c M=>by
  let#[v,o,e,_]:=I.cell x c (w x c M);show Ì e
 have Z: ∀p∈X.pn++pins,p.1<s₂.heap.objs.size:=λ p l=>Ì (I.pin p l).1
 have ab: ∀{H':Hp}{pl:Ϸ},(∀b∈fp,H' b=none)->(∀p∈pl,p.1=D)-> ∀b∈fp,nG (blk X sc N' cl C s₂ H2 fp pins) pl H' b:=λ {H' pl} hn be b j=>by
  show#[hn b j,(a b (fl b j)).1,λ z=> ?_, .inl j,λ x c M=>(G b j).2.2.2.2.1 x c (w x c M),λ p l=> ?_]
  .rcases È.mp (I.stkSub b z) with z | z
   .show (G b j).2.1 z
   .show (G b j).2.2.1 z
  .rcases Æ.mp l with z | z
   .show (G b j).2.2.2.2.2 p z
   .rw [be p z];show Ne.symm (a b (fl b j)).2
 have av: ∀{s':ώ}{af:St}{H':Hp}{o:Obj},Inv (blk X sc N' cl C s₂ H2 fp pins) [] af H' s'->s'.heap.get? D=!o->H' D=none->(∀v,o.data≠ .cell v)->Inv (blk X sc N' cl C s₂ H2 fp pins) [(D,o)] af H' s':=λ {s' af H' o} I' e n d=>
  I'.pins_of λ p l=>by
   rw [Zp.mp l];show#[e,n,L,λ z=> ?_,d];have z':D<s₂.heap.objs.size:=by
    rcases È.mp (I.stkSub D z) with y | y
    .have y':D=X.env.locals:=y;rw [y'];show I.lt
    .show absurd y (I.nofs hD)
   show absurd z' (Nat.not_lt.mpr hD)
 have Y : ∀ t : ώ, t = { s₂ with heap := s, toks := s₂.toks + ↑([] : ϊ (ϐ × ϋ)) } ->
   codeAny (model X.prog X.w) X.A (.compLoop (.ListComp elt [#[tg,iter,ifs,0]] sc pos) 0 (.ref it) (.ref D) (compEnvC sc cl C X.env)) (RR (.ref D) C) t:=by
  rintro t rfl;show u5 (λ n s'=> ∃(i:Nat)(ys:ϊ V)(f:ϊ ϋ)(H':Hp),Inv (blk X sc N' cl C s₂ H2 fp pins) [] (cap κ σ) H' s'/\tn i s'.heap/\(∀b∈fp,H' b=none)/\
   s'.heap.get? D=!{ cls:= .type "list",data:= .seq f.toArray ↑f }/\Vals ys f/\H' D=none/\↑ys<=sizeLine/\W i n ys H') ?_ m0
   #[0,[],[],H2,IB _,A,λ b j=>(G b j).1,al, .nil,I.hok.fresh hD,æ _,w0]
  rintro n s3 ⟨i,ys,f,B,I3,aw,a5,d3,v3,n3,z3,w3⟩;have ah:=av I3 d3 n3 (by intro v z;cases z);have ff:=ab (pl:=[(D,({ cls:= .type "list",data:= .seq f.toArray ↑f }:Obj))]) a5 (λ p l=>by rw [Zp.mp l]);rcases ay i n ys B w3 with ⟨stop,qn⟩ | ⟨go,hlt,N,hN,step⟩
  .show bF (T.done (blk X sc N' cl C s₂ H2 fp pins) rfl rfl rfl hc i _ s3 (cap κ σ) B _ ah ff aw stop) λ r s4 ob=> ?_
   let#[hr,I4]:=ob;subst hr;change RR (.ref D) C (.ok .next) s4;let#[dD,nD,_]:=I4.pin (D,_) (Ü _ Ë);have nC:B C=none:=I4.free;have O:=I4.base;have bb:HOk X.prog X.w (upd B D (.lst ys)) s4.heap:=HOk.track I4.hok nD #[z3,f,↑f,v3,dD];have un:Un (frs X.stack) fp H2 (upd B D (.lst ys)) s₂.heap s4.heap:=
    ⟨O.keep,O.slot,λ b o q n M=>by rw [au (a b (Ì q)).2];show O.free b o q n M,O.there,
     λ b xs q=>by rw [au (aY (O.tups b xs q) nD)];show O.tups b xs q,
     λ b o x q=>by rw [au (aY (O.frzs b o x q) nD)];show O.frzs b o x q,
     λ b ps q=>by
      let#[m1,e1]:=O.tbls b ps q;show⟨m1,by rw [au (aY e1 nD)];show e1⟩⟩
   have IX:Inv X pins σ (upd B D (.lst ys)) s4:=I.call' (by show I4.os) un bb I4.bare λ b j=>#[(G b j).2.2.2.1,(G b j).2.1,(G b j).2.2.2.2]
   let#[m4,a9,_]:=I4.loc;show a7 D C _ s4 #[IX,#[m4,a9],by rw [au (Ne.symm L)];show nC,Ne.symm (a _ I.lt).1,I.nofs hC,Ò I.sz hC,λ x c M=> ?_,λ p l=>(a _ (Z p l)).1] (qn D nD);let#[v,o,e,_]:=I.cell x c M;show(a c (Ì e)).1
  .show bF (T.item (blk X sc N' cl C s₂ H2 fp pins) rfl rfl rfl hc i _ s3 (cap κ σ) B _ ah ff aw go) λ r s4 ob=> ?_
   let#[u,hr,h4]:=ob;subst hr;show bF h4 λ _ s5 ob=> ?_
   let#[x,H5,I5,r5,y5,ae,a6]:=ob;have a4:=ab (pl:=[(D,({ cls:= .type "list",data:= .seq f.toArray ↑f }:Obj))]) a6 (λ p l=>by rw [Zp.mp l]);have a3:=I5.pinned a4 (T.obj _ _ ae);show bF (hg C _ s5 (cap κ σ) H5 x u _ a3 r5 (step x H5 y5)) λ _ s6 ob=> ?_
   let#[P,H6,I6,F,q6]:=ob;show bF (hi C _ s6 P H6 _ I6 q6) λ ok s7 ob=> ?_
   let#[H7,I7,q7]:=ob;have U: ∀{a2:St}{H8:Hp}{s8:ώ},Inv (blk X sc N' cl C s₂ H2 fp pins) ([(D,({ cls:= .type "list",data:= .seq f.toArray ↑f }:Obj))]++oJ fp s5.heap) a2 H8 s8->
     tn (i+1) s8.heap/\(∀b∈fp,H8 b=none)/\s8.heap.get? D=!{ cls:= .type "list",data:= .seq f.toArray ↑f }/\H8 D=none:=λ {a2 H8 s8} I8=>by
    show#[T.keep _ _ _ ae λ b j o e=>(I8.pin (b,o) (Ü _ (Ü _ (iM j e)))).1,λ b j=> ?_,?_]
    .obtain ⟨o,e,d⟩:=T.obj _ _ ae b j;show(I8.pin (b,o) (Ü _ (Ü _ (iM j e)))).2.1
    .obtain ⟨e,n,_⟩:=I8.pin (D,_) (Ü _ (Ý _ Ë));show#[e,n]
   cases ok with
   | false=>
    have ad:N ys H7:=by simpa using q7
    let#[m',hm,w7]:=hN _ _ ad;let#[t8,f8,d8,n8]:=U I7;change ∃m,m<n/\_;show#[m',hm,i+1,ys,f,H7,(I7.pins_of (pins':=[]) (λ p l=>nomatch l)).weak F.1.symm F.2,t8,f8,d8,v3,n8,z3,w7]
   | true=>
    have ad:te P H7 λ y H4=>N (ys++[y]) H4:=by simpa using q7
    change wpAny _ _ (eval elt (compEnvC sc cl C X.env)) _ _ s7;show bF (he C _ s7 P H7 _ I7 ad) λ v s8 ob=> ?_
    let#[y,H8,I8,r8,q8]:=ob;let#[m',hm,w8]:=hN _ _ q8;let#[t8,f8,d8,n8]:=U I8;show append_at (hsz:=by rw [Ù,<- ↑v3];show z3) d8 λ h9 ar a8=> ?_
    have I9:Inv (blk X sc N' cl C s₂ H2 fp pins) [] P H8 { s8 with heap:=h9,toks:=s8.toks }:=by
     show(I8.pins_of (pins':=[]) (λ p l=>nomatch l)).turned (λ b o j e=>ar.extBut b o j e) n8 L (.inr hD) (λ x c M=>(a c (ac x c M)).2) λ p l=> ?_
     have bd:p∈X.pn++pins:=by simpa using l
     show(a _ (Z p bd)).2
    show#[m',hm,i+1,ys++[y],f++[v],H8,I9.weak F.1.symm F.2,T.keep _ _ _ t8 λ b j o e=>ar.extBut b o (a b (fl b j)).2 e,f8,?_,Vals.append v3 (.cons r8 .nil),n8,?_,w8]
    .show h9.get? D=_;rw [a8];simp
    .rw [Â,â];show hlt
 show codeAny_compStart_list (Y _ rfl) (T.self X.A 0 _ _ _ A (Y _ rfl))
def lF(κ:ϊ (ύ Nat))(wi:TI)(g:TG)(tc:TT)(te:TE):TE:=λ σ H Q=>wi σ H λ J H1=> ∃W:Nat->Nat->ϊ V->Hp->Prop,(∃m,W 0 m [] H1)/\ ∀i m ys H,W i m ys H->
 (J.stop i H/\ ∀p,H p=none->Q (.ref p) (upd H p (.lst ys)))\/
 (J.go i H/\↑ys<sizeLine/\ ∃N:ϊ V->Hp->Prop,(∀ys' H',N ys' H'-> ∃m',m'<m/\W (i+1) m' ys' H')/\ ∀x H',J.yld i H x H'->g x (cap κ σ) H' λ σ2 H2=>qy (cap κ σ) σ2/\tc σ2 H2 λ b H3=>if b=true then te σ2 H3 λ y H4=>N (ys++[y]) H4 else N ys H3)
theorem XJ(r:ϊ (ύ Nat))(i:ϊ ϐ)(B:X.calm=true)(k:PI X tg iter wi)(S:CScope X.env.scope sc)(b:capOk r i X.N sc=true)
  (G: ∀cl C s H fp pins,PG (blk X sc i cl C s H fp pins) tg g) (K: ∀cl C s H fp pins,Fi (blk X sc i cl C s H fp pins) ifs tc) (E: ∀cl C s H fp pins,PE (blk X sc i cl C s H fp pins) elt te)
  (M: ∀x,foldedSetIterable iter X.env x=pure x:=by intro _;rfl):PE X (.ListComp elt [#[tg,iter,ifs,0]] sc pos) (lF r wi g tc te):=by
 intro pins s U H Q I h;let#[cl,a,c,d]:=zR (sc:=sc) (env:=X.env) λ y N F=>I.ok.has y.1 (S.frees y N F)
 rw [eval_ListComp];show wpAny_comprehension_free (use:=none) rfl M a S.kind S.locs (bF (k pins s U H _ I h) λ v P z=>bF z λ O o A=> ?_);let#[Z,fp,tn,J,j,e,u,T,p,w,W,#[m0,R],f]:=A;subst e;show zT B u T p w S b c d (λ C=>G cl C o j fp pins) (λ C=>K cl C o j fp pins) (λ C=>E cl C o j fp pins) R f λ D C t P l q=> ?_
 let#[m,L]:=l.ns;show#[m,L,λ Y n=>#[V.ref D,t,l.go n,rfl,q]]
theorem zU{i:Nat}{p:Pos}(R:ϊ (ύ Nat))(t:ϊ ϐ)(hc:X.calm=true)(hN:X.N.Nodup)(E:X.N[i]? =!x)(n:X.env.scope.names.lookup x=!.local)
  (B:PI X tg iter wi) (S:CScope X.env.scope sc) (f:capOk R t X.N sc=true)
  (hg: ∀cl C s H fp pins,PG (blk X sc t cl C s H fp pins) tg g) (hi: ∀cl C s H fp pins,Fi (blk X sc t cl C s H fp pins) ifs tc) (he: ∀cl C s H fp pins,PE (blk X sc t cl C s H fp pins) elt te)
  (K:swapsWith (.ListComp elt [#[tg,iter,ifs,0]] sc pos) (!(.Name x p)) c.line X.env=pure true:=by rfl)
  (hs: ∀x,foldedSetIterable iter X.env x=pure x:=by intro _;rfl):PS X (.Assign [.Name x p] (.ListComp elt [#[tg,iter,ifs,0]] sc pos) c) (aJ (lF R wi g tc te) (ak i)):=by
 intro pins s N H D I h;let#[cl,d,j,k]:=zR (sc:=sc) (env:=X.env) λ y hy hf=>I.ok.has y.1 (S.frees y hy hf)
 rw [exec_Assign_Name_used _ _ _ _ K];show Zl (wpAny_standAt (Zl ?_));change wpAny _ X.A (do let _ <- comprehension (.ListComp elt [⟨tg,iter,ifs,0⟩] sc pos) sc X.env _ (newList []) false (eval iter X.env) !(assign (.Name x p) X.env)) _ _ s;show Zl (ċ (wpAny_comprehension_free (use:=!(assign (.Name x p) X.env)) (Q:=λ _ O=>SP X pins D .next O) rfl hs d S.kind S.locs
  (bF (B pins s N H _ I h) λ v s1 h1=>bF h1 λ ab L h2=> ?_)) (λ _ O hq=>Á (Á hq)) λ _ _ e=>e)
 let#[it,fp,tn,J,w,e,Z,T,M,f2,W,#[m0,w0],r]:=h2;subst e;show zT (Q:=λ y Y=>ak i y N Y D.nx) hc Z T M f2 S f j k (λ C=>hg cl C L w fp pins) (λ C=>hi cl C L w fp pins) (λ C=>he cl C L w fp pins) w0 r λ u C U s1 l q=> ?_
 change wpAny _ X.A (assign (.Name x p) X.env (.ref u)) _ _ _;show wpAny_assign_Name (qW l.inv hN E (.inl n) (v:= .ref u) rfl (λ P I3 ⟨a,G,ha⟩=> ?_) (.inr n));let#[m,hn]:=l.ns;have A:C≠a:=by
  rcases ha with z | z
  .rw [z];show l.nl
  .show Ne.symm (l.nc x a z)
 show#[m,hn.sameBut G A,λ h' F=> ?_];have I4:Inv X pins (N.set i !(.ref u)) U { P with heap:=h' }:=I3.turned (t':=P.toks) (λ b o hb e=>F.extBut b o hb e) l.un l.nl (.inr l.ab) l.nc l.np;show#[_,_,I4,q]
end
section
variable{κ:ϊ (ύ Nat)}{g:TG}{tc:TT}{te:TE}{σ:St}{H:Hp}{Q:VK}
theorem Fj{lo:Int}(d:Nat->ϊ V->Hp->Prop)(k:d 0 [] H)(o:n<=sizeLine)(r: ∀i ys H,d i ys H->↑ys<=i)
  (q: ∀i ys H,i<n->d i ys H->g (.int (lo+i)) (cap κ σ) H λ a H2=>qy (cap κ σ) a/\tc a H2 λ b h=>if b=true then te a h λ y j=>d (i+1) (ys++[y]) j else d (i+1) ys h)
  (l: ∀ys H,d n ys H-> ∀p,H p=none->Q (.ref p) (upd H p (.lst ys))):
  ∃W:Nat->Nat->ϊ V->Hp->Prop,(∃m,W 0 m [] H)/\ ∀i m ys H,W i m ys H->
   ((Dy lo n).stop i H/\ ∀p,H p=none->Q (.ref p) (upd H p (.lst ys)))\/
   ((Dy lo n).go i H/\↑ys<sizeLine/\ ∃N:ϊ V->Hp->Prop,(∀f H',N f H'-> ∃m',m'<m/\W (i+1) m' f H')/\ ∀x H',(Dy lo n).yld i H x H'->g x (cap κ σ) H' λ a H2=>qy (cap κ σ) a/\tc a H2 λ b h=>if b=true then te a h λ y j=>N (ys++[y]) j else N ys h):=by
 show#[λ i m ys H=>m=n-i/\i<=n/\d i ys H,#[n,by simp,æ _,k],?_];rintro i m ys H ⟨rfl,t,p⟩;by_cases c:i<n
 .show .inr #[c,Ô (Û (r _ _ _ p) c) o,d (i+1),λ f H' s=>#[n-(i+1),(),rfl,c,s],λ x H' y=> ?_];let#[e,y]:=y;subst e y;show q i ys _ c p
 .have e:i=n:=()
  subst e;show .inl #[Nat.le_refl _,l ys H p]
theorem Og{K:Ϗ}{xs:ϊ V}(d:Nat->ϊ V->Hp->Prop)(l:d 0 [] H)(s:↑xs<=sizeLine)(r: ∀i ys H,i<=↑xs->d i ys H->SqL K H a xs)(u: ∀i ys H,d i ys H->↑ys<=i)
  (t: ∀i x ys H,xs[i]? =!x->d i ys H->g x (cap κ σ) H λ c H2=>qy (cap κ σ) c/\tc c H2 λ b j=>if b=true then te c j λ y k=>d (i+1) (ys++[y]) k else d (i+1) ys j)
  (n: ∀ys H,d ↑xs ys H-> ∀p,H p=none->Q (.ref p) (upd H p (.lst ys))):
  ∃W:Nat->Nat->ϊ V->Hp->Prop,(∃m,W 0 m [] H)/\ ∀i m ys H,W i m ys H->
   ((Np K a).stop i H/\ ∀p,H p=none->Q (.ref p) (upd H p (.lst ys)))\/
   ((Np K a).go i H/\↑ys<sizeLine/\ ∃N:ϊ V->Hp->Prop,(∀h H',N h H'-> ∃m',m'<m/\W (i+1) m' h H')/\ ∀x H',(Np K a).yld i H x H'->g x (cap κ σ) H' λ c H2=>qy (cap κ σ) c/\tc c H2 λ b j=>if b=true then te c j λ y k=>N (ys++[y]) k else N ys j):=by
 show#[λ i m ys H=>m=↑xs-i/\i<=↑xs/\d i ys H,#[↑xs,by simp,æ _,l],?_];rintro i m ys H ⟨rfl,o,p⟩;have q:=r i ys H o p;by_cases f:i<↑xs
 .show .inr #[#[xs,xs[i],q,by simp [f]],Ô (Û (u _ _ _ p) f) s,d (i+1),λ h H' v=>#[xs.length-(i+1),(),rfl,f,v],λ x H' y=> ?_];let#[e,y]:=y;subst e;show t i x ys _ (y xs q) p
 .have e:i=↑xs:=()
  subst e;show .inl #[#[xs,q,Ä _],n ys H p]
end
mutual
inductive Dp(K:Ϗ)(H:Hp):V->PyData->Prop where
 | non:Dp K H .non .none
 | bl (b:ϑ):Dp K H (.bl b) (.bool b)
 | int (i:Int):Dp K H (.int i) (.int i)
 | str (x:ϐ):Dp K H (.str x) (.str x)
 | lst {a:ό} {xs:ϊ V} {ds:ϊ PyData}:SqL K H a xs->DpAll K H xs ds->Dp K H (.ref a) (.list ds)
 | tup {a:ό} {xs:ϊ V} {ds:ϊ PyData}:SqT K H a xs->DpAll K H xs ds->Dp K H (.ref a) (.tuple ds)
inductive DpAll(K:Ϗ)(H:Hp):ϊ V->ϊ PyData->Prop where
 | nil:DpAll K H [] []
 | cons {x:V} {xs:ϊ V} {d:PyData} {ds:ϊ PyData}:Dp K H x d->DpAll K H xs ds->DpAll K H (x::xs) (d::ds)
end
theorem DpAll.ints{K:Ϗ}: ∀ns:ϊ Int,DpAll K H (ns.map V.int) (ns.map PyData.int)
 | []=> .nil
 | n::r=> .cons (.int n) (DpAll.ints r)
section
variable{X:Cx}
mutual
theorem Dp.reads{pins:List (Addr×Obj)}{σ:St}{H:Hp}{s:Shared}(I:Inv X pins σ H s){x:V}{d:PyData}{u:Value}(h:Dp X.K H x d)(r:RelV x u): ∃a,Reads s.heap u d a:=by
 cases h with
 | non=>cases (show _=Value.none from r);show#[_, .none]
 | bl b=>cases (show _=Value.bool b from r);show#[_, .bool b]
 | int i=>let#[t,rfl]:=r;show#[_, .int i t]
 | str x=>let#[t,rfl]:=r;show#[_, .str x t]
 | lst h hs=>
  cases (show _=Value.ref _ from r);let#[g,j,p,_]:=I.list h;let#[a,q]:=DpAll.reads I hs j;let#[o,n,e,c,_,f]:=p;show#[_, .list e c f (by simpa using q)]
 | tup h hs=>
  cases (show _=Value.ref _ from r);let#[g,j,p,_]:=I.tuple h;let#[a,q]:=DpAll.reads I hs j;let#[o,e,c,n,f]:=p;show#[_, .tuple e c f (by simpa using q)]
theorem DpAll.reads{pins:List (Addr×Obj)}{σ:St}{H:Hp}{s:Shared}(I:Inv X pins σ H s){b:List V}{ds:List PyData}{us:List Value}(h:DpAll X.K H b ds)(r:Vals b us): ∃a,ReadsAll s.heap us ds a:=by
 cases h with
 | nil=>cases r;show#[_, .nil]
 | cons h hs=>
  cases r with
  | cons r rr=>
   let#[a,q]:=Dp.reads I h r;let#[c,p]:=DpAll.reads I hs rr;show#[_, .cons q p]
end
def rEqD(K:Ϗ):R2:=λ x y H Q=> ∃d e,Dp K H x d/\Dp K H y e/\SeqAt.shaped d=true/\SeqAt.shaped e=true/\Q (.bl (PyData.eqv d e)) H
def rNeD(K:Ϗ):R2:=λ x y H Q=> ∃d e,Dp K H x d/\Dp K H y e/\SeqAt.shaped d=true/\SeqAt.shaped e=true/\Q (.bl (not (PyData.eqv d e))) H
theorem TF(i:X.A.units+64<cLine):jh X (compareOp .Eq) (rEqD X.K):=by
 intro a s p H x y v u Q I l m h;let#[d,e,b,c,f,g,q]:=h;let#[n,j]:=b.reads I l;let#[o,k]:=c.reads I m;show eq_dataH j k f g i #[.bl _,H,I,rfl,q]
theorem TJ(i:X.A.units+64<cLine):jh X (compareOp .NotEq) (rNeD X.K):=by
 intro a s p H x y v u Q I l m h;let#[d,e,b,c,f,g,q]:=h;let#[n,j]:=b.reads I l;let#[o,k]:=c.reads I m;show ne_dataH j k f g i #[.bl _,H,I,rfl,q]
end
theorem jB: ∀ns ms:ϊ Int,PyData.eqvAll (ns.map PyData.int) (ms.map PyData.int)=decide (ns=ms)
 | [],[]=>by simp [PyData.eqvAll]
 | [],_::_=>by simp [PyData.eqvAll]
 | _::_,[]=>by simp [PyData.eqvAll]
 | n::r,m::q=>by
  simp only [Ç,PyData.eqvAll,PyData.eqv,jB r q];by_cases h:n=m<;>simp [h]
section
variable{X:Cx}
theorem vM:cB X (.builtin "isinstance") (λ xs H Q=> ∃T x t b,xs=[x, .ty T]/\TyOf X.K H x t/\PySem.W.kitOne X.K t (.type T)=!b/\Q (.bl b) H):=by
 intro c s k H xs j Q I f h;let#[T,x,t,b,rfl,ty,e,q]:=h;let#[u,i,rfl,d,a]:=f.two
 cases (show i=Value.type T from a);show BP I d ty e λ g=>#[.bl b,H,I.tok g,rfl,q]
def plainAttrs_int:PlainAttrs "int":=#[#["int.__getattribute__",PyProof.Rows.ga_int,PyProof.Rows.canon_ga_int],PyProof.Rows.no_getattr_int]
theorem Cp:NB X "int.bit_length" (λ x xs H Q=> ∃i,x= .int i/\xs=[]/\Q (.int (Builtin.Int.intBits i)) H):=by
 intro a s e H x xs v d Q I c b h;let#[i,rfl,rfl,q]:=h;let#[t,rfl]:=c
 cases b;show call_int_bit_length #[.int _,H,I.tok _,#[_,rfl],q]
theorem rM:jh X (compareOp .LtE) (λ x y H Q=> ∃i j,x= .str i/\y= .str j/\Q (.bl (not (decide (j.cps.toList<i.cps.toList)))) H):=by
 intro a s e H x y v u Q I b c h;let#[i,j,rfl,rfl,q]:=h;let#[t,rfl]:=b;let#[d,rfl]:=c;show PySem.P.le_str (bh I q (by simp))
theorem Fl(i:X.calm=true):cB X (.builtin "sum") (λ xs H Q=> ∃(a:ό)(ns:ϊ Int),xs=[.ref a]/\SqL X.K H a (ns.map V.int)/\Q (.int ns.sum) H):=by
 intro f s w H xs v Q I m h;let#[a,ns,rfl,k,q]:=h;let#[u,rfl,l]:=m.one
 cases (show u=Value.ref a from l);let#[b,r,d,o]:=I.list k;have c:=intsAre_of r;let#[xs,e]:=c.allInts.items;rw [e] at d;show sum_intListG (I.ok.hd i) d.isList λ n t p j=> ?_
 have g:preSum (numAt xs) xs.size=ns.sum:=by
  rw [preSum_eq,ë (by simp),<- nums_intItems,<- e];change(numsOf b.toArray.toList).sum=_;rw [show b.toArray.toList=b from rfl,c.numsOf]
 rw [g];show#[.int _,H,I.kept j,#[_,rfl],q]
end
section
variable{X:Cx}
def Its(x:ϐ):It:=#[λ i _=>i<x.cps.size,λ i H v H'=>H'=H/\ ∃c,x.cps[i]? =!c/\v= .str #[([c].toArray)],λ i _=>i=x.cps.size]
theorem Fp{P:ϓ}{K:Ϗ}(x:ϐ)(t:Tok)(p:String)(a:ό)(N:["enumerate","zip","dict_itemiterator","dict_reverseitemiterator","odict_iterator","itertools.zip_longest","itertools.pairwise"].contains p=false)
  (W: ∀A:ϖ,A.handled=none->Walks P w A a [a] [a] x.cps.size (SignAt x) (λ i h=>h.IsStrIter a p x t i))
  (S: ∀(A:ϖ)(i:Nat)(s:ώ)(Q:϶)(E:϶),s.heap.IsStrIter a p x t i->Q (.ref a) s->wpAny (model P w) A (pyIter (.ref a)) Q E s):
  Turn P w K tg (Its x) [a] a (λ i h=>h.IsStrIter a p x t i) where
 mem:=by simp
 obj:=λ i h f b j=>by
  have e:b=a:=by simpa using j
  subst e;let#[o,e,c,d]:=f;show#[o,e,λ v z=>by rw [d] at z;cases z]
 keep:=λ i h m f k=>by
  let#[o,e,r]:=f;show#[o,k a (by simp) o e,r]
 item:=by
  intro X G O F J i g s U H E I n f M;subst G O F;let#[q,y,Z,B,C,D]:=n a (by simp);show(W X.A (I.ok.hd J)).item i s _ _ M f λ v m T hv l R=> ?_
  let#[c,u,hx,rfl]:=hv;have Y:Inv X g U H { s with heap:=m,toks:=T }:=I.turned (λ b o j e=>R b o (by simpa using j) e) q y B C D;let#[o,e,L,d]:=id l;show⟨_,rfl,oG (s:={ s with heap:=m,toks:=T }) e L d N ⟨.str ⟨([c].toArray)⟩,H,Y,⟨u,rfl⟩,⟨rfl,c,hx,rfl⟩,l,λ b j=>(n b j).1⟩⟩
 done:=by
  intro X G O F J i g s U H E I n f M;subst G O F;let#[q,y,Z,B,C,D]:=n a (by simp);have e:i=x.cps.size:=M;subst e;show(W X.A (I.ok.hd J)).done s _ _ f λ m T R=>#[rfl,I.turned (λ b o j e=>R b o (by simpa using j) e) q y B C D]
 self:=λ A i s Q E f h=>S A i s Q E f h
abbrev Ft(tl:TE):TI:=λ σ H R=>tl σ H λ x H1=> ∃z,x= .str z/\R (Its z) H1
theorem u6(r:PE X l tl):PI X tg l (Ft tl):=by
 intro c s k H R I h;show bF (r c s k H _ I h) λ v a ob=> ?_
 let#[x,m,g,w,u]:=ob;let#[z,e,q]:=u;subst e;let#[t,rfl]:=w;have fin: ∀(d:String)(o:Obj),(["enumerate","zip","dict_itemiterator","dict_reverseitemiterator","odict_iterator","itertools.zip_longest","itertools.pairwise"].contains d=false)->
   (∀A:ϖ,A.handled=none->Walks X.prog X.w A a.heap.objs.size [a.heap.objs.size] [a.heap.objs.size] z.cps.size (SignAt z) (λ i h=>h.IsStrIter a.heap.objs.size d z t i))->
   (∀(A:ϖ)(i:Nat)(s:ώ)(Q:϶)(E:϶),s.heap.IsStrIter a.heap.objs.size d z t i->Q (.ref a.heap.objs.size) s->wpAny (model X.prog X.w) A (pyIter (.ref a.heap.objs.size)) Q E s)->
   (a.heap.push o).IsStrIter a.heap.objs.size d z t 0->PIE X c k tg R (.ref a.heap.objs.size) { a with heap:=a.heap.push o }:=λ d o n W S f=>by
  show#[a.heap.objs.size,[a.heap.objs.size],_,_,m,rfl,g.kept (t':=a.toks) λ b o e=>Ã _ e,Fp z t d _ n W S,f,λ b p=> ?_,q];have e:b=a.heap.objs.size:=by simpa using p
  subst e;show g.fpOk (Ä _) (g.hok.fresh (Ä _))
 cases ha:z.cps.all (· <128)
 .show wpAny_pyIter_wide ha (fin "str_iterator" _ (by decide) (λ A j=>Walks.strWide j _ z t) (λ A i s Q E f h=>wpAny_pyIter_striter_wide f h) #[_,Ê _ rfl,rfl,rfl])
 .show wpAny_pyIter_ascii ha (fin "str_ascii_iterator" _ (by decide) (λ A j=>Walks.strAscii j _ z t) (λ A i s Q E f h=>wpAny_pyIter_striter_ascii f h) #[_,Ê _ rfl,rfl,rfl])
def TQ(lo c:Int)(n:Nat):It:=#[λ i _=>i<n,λ i H x H'=>H'=H/\x= .int (lo+i*c),λ i _=>n<=i]
theorem vN{P:ϓ}{K:Ϗ}(d:ό)(lo c:Int)(n:Nat):Turn P w K tg (TQ lo c n) [d] d (λ i h=>IsRangeIter h d (lo+(i:Nat)*c) ((n:Int)-(i:Nat)) c) where
 mem:=by simp
 obj:=λ i h a b g=>by
  have e:b=d:=by simpa using g
  subst e;show⟨_,a,λ v z=>by
   have Q:Data.fields _=Data.cell v:=z
   cases Q⟩
 keep:=λ i h l a k=>k d (by simp) _ a
 item:=by
  intro X A D y B i f s G H E I m a C;subst A D y;let#[p,q,M,r,u,x]:=m d (by simp);have W:=Walks.range (prog:=X.prog) (w:=X.w) (I.ok.hd B) d lo c n;show W.item i s _ _ C a λ v l F N j O=> ?_
  let#[t,rfl]:=N;have J:Inv X f G H { s with heap:=l,toks:=F }:=I.turned (λ b o g e=>O b o (by simpa using g) e) p q r u x;show⟨_,rfl,oG (s:={ s with heap:=l,toks:=F }) (n:="range_iterator") j rfl rfl (by decide) ⟨.int (lo+i*c),H,J,⟨t,rfl⟩,⟨rfl,rfl⟩,j,λ b g=>(m b g).1⟩⟩
 done:=by
  intro X A D y B i f s G H E I m a C;subst A D y;let#[p,q,M,r,u,x]:=m d (by simp);show Ψ (I.ok.hd B) a (by have:n<=i:=C;rfl') λ l L=>#[rfl,I.turned (t':=s.toks) (λ b o g e=>L b o g e) p q r u x]
 self:=λ _ _ _ _ _ a h=>Ω a h
abbrev QS(ta:TA):TI:=λ σ H R=>ta σ H λ vs H1=> ∃(i j c:Int)(n:Nat),vs=[.int i, .int j, .int c]/\c≠0/\Builtin.Range.small i j c=true/\Builtin.divisionGoesByPylong (j-i) c=false/\Builtin.Range.rangeSize i j c=(n:Int)/\R (TQ i c n) H1
theorem Cq{a b d:Expr}{p:Pos}(G:Gl X "range")(J:X.mg "range"=none)(E:PA X [a,b,d] v)(K:starEach [a,b,d] X.env=[(false,eval a X.env),(false,eval b X.env),(false,eval d X.env)]:=by rfl)(g:starEach [b,d] X.env=[(false,eval b X.env),(false,eval d X.env)]:=by rfl):
  PI X tg (.Call (.Name "range" p) [a,b,d] [] pos) (QS v):=by
 intro f s w H R I h;show Call_ (gM I G J boot_range (ă (bF (E pos f s w H _ I h) λ N k ⟨O,u,x,M,L⟩=> ?_) (by rw [K,g]) (by rw [g];rfl)));let#[i,j,c,n,e,A,B,C,D,q]:=L;subst e
 cases M with
 | cons r rr=>
  cases rr with
  | cons r' rr=>
   cases rr with
   | cons r'' rr=>
    cases rr;let#[t,rfl]:=r;let#[t',rfl]:=r';let#[m,rfl]:=r'';show call_range_3 A ?_ (.inl C);show wpAny_pyIter_range (IsRange.new ..) B ?_;have l:Inv X f w u { k with heap:=k.heap.push { cls:= .type "range",data:= .fields ([.int i t, .int j t', .int c m].toArray) },toks:=k.toks }:=x.kept λ b o e=>Ã _ e
    show#[_,[_],_,_,u,rfl,l.kept (t':=k.toks) λ b o e=>Ã _ e,vN _ i c n,?_,λ b F=> ?_,q]
    .have y:i+((0:Nat):Int)*c=i:=by simp
     have z:((n:Int))-((0:Nat):Int)=Builtin.Range.rangeSize i j c:=by rw [D];simp
     change IsRangeIter _ _ (i+((0:Nat):Int)*c) ((n:Int)-((0:Nat):Int)) c;rw [y,z];show Ê _ rfl
    .have e:=Zp.mp F;subst e;show l.fpOk (Ä _) (l.hok.fresh (Ä _))
end
structure ZipNe(z TI TO i1 i2:ό):Prop where
 TIz:TI≠z
 TOz:TO≠z
 i1z:i1≠z
 i2z:i2≠z
 TITO:TI≠TO
 TIi1:TI≠i1
 TIi2:TI≠i2
 TOi1:TO≠i1
 TOi2:TO≠i2
 i12:i1≠i2
theorem Inv.turnedAll{X:Cx}{s:ώ}(I:Inv X pins σ H s)(k: ∀b o,b∉ch->s.heap.get? b=!o->h'.get? b=!o)
  (d: ∀b∈ch,nG X pins H b):Inv X pins σ H { s with heap:=h',toks:=t' }:=by
 have f: ∀b u,H b=!u->b∉ch:=λ b u e z=>by rw [(d b z).1] at e;cases e
 show I.step (g':=s.gens) (d':=s.drawn) (ch:=ch) (λ b g=> ?_) (λ b o _ _ a e _=>k b o a e) (λ b o _ _ a e _=>#[o.slots,k b o a e]) (λ _ _ _ _ n=>n)
  (λ b o a e=>#[o,k b o a e]) (λ _ _ e=>e) (λ _ _ _ e=>e) (λ b p e=>#[([].toArray),by rw [e];simp]) (λ m j=> ?_) (λ b u e=> ?_) I.bare
 .show #[(d b g).2.2.2.1,(d b g).2.1,(d b g).2.2.2.2.1,(d b g).2.2.2.2.2]
 .obtain ⟨o,i,h,l,r⟩:=j;show#[o,i,h,k _ o (λ z=>(d _ z).2.1 rfl) l,r]
 .show (I.hok b u e).stay (λ c v a q=>k c v ?_ q) (λ _ q=>q) λ _ _ q=>q
  rcases a with z | z
  .rw [z];show f b u e
  .show f c _ z
theorem Inv.yields{X:Cx}{s:ώ}{x y:V}{v:ϋ}(I:Inv X pins σ H s)(k: ∀b o,b∉ch->s.heap.get? b=!o->h'.get? b=!o)
  (g: ∀b∈ch,nG X pins H b) (h:RelV x u) (i:RelV y v) (e:h'.get? s.heap.objs.size=!{ cls:= .type "tuple",data:= .seq ([u,v].toArray) }):
  H s.heap.objs.size=none/\Inv X pins σ (upd H s.heap.objs.size (.tup [x,y])) { s with heap:=h',toks:=t' }:=by
 have a:H s.heap.objs.size=none:=I.hok.fresh (Ä _);have n: ∀b z,H b=!z->upd H s.heap.objs.size (.tup [x,y]) b=!z:=λ b z q=>by rw [au (aY q a)];show q
 show⟨a,I.call' (s':={ s with heap:=h',toks:=t' }) rfl ⟨λ b o q _ _ f=>k b o f q,λ b o q _ _ f=>⟨o.slots,k b o f q⟩,λ b o q n _=>by rw [au (ã (Ì q))];show n,λ b o q f=>⟨o,k b o f q⟩,λ b _ q=>n b _ q,λ b _ _ q=>n b _ q,λ b j q=>⟨([].toArray),by rw [n b _ q];simp⟩⟩
  (HOk.track (I.turnedAll (t':=t') k g).hok a ⟨by change 2<=sizeLine;decide,[u,v], .cons h (.cons i .nil),_,e,rfl,_,rfl⟩) I.bare λ c d=>⟨(g c d).2.2.2.1,(g c d).2.1,(g c d).2.2.2.2⟩⟩
structure Cal(P:ϓ)(w:ϕ)(K:Ϗ)(mg:ϐ->ύ ϋ)(base:ϒ)(n:Nat)(x:ϐ)(ps:ϊ ϐ)(sp:Sp):Prop where
 ex: ∃(f:ό)(fd:FuncData),FnOk P w K mg base Tr n f fd ps sp/\Binds K fd ps []/\W.keepIn K (.ref f)=true/\mg x=!(.ref f)
section
variable{X:Cx}{n k:Nat}{x:ϐ}{ps:ϊ ϐ}{sp:Sp}{p pos:Pos}{e:Expr}{es:ϊ Expr}{t:TA}
theorem TV(c:Cal X.prog X.w X.K X.mg X.base n x ps sp)(m:Room k X.A)(j:n<=k)(i:Gl X x)(d:PA X (e::es) t)(a:(x==("__debug__":ϐ))=false:=by decide)
  (h:starEach (e::es) X.env=(false,eval e X.env)::starEach es X.env:=by rfl) (b:(backTo pos (starEach es X.env)).any (·.1)=false:=by rfl):
  PE X (.Call (.Name x p) (e::es) [] pos) (vz sp [] E0 t):=by
 let#[f,q,F,g,o,l]:=c.ex;show Ny F (m.mono j) i l o g .nil XF d a h b
end
def small(h:n<=1000):n<=sizeLine:=ñ (Cg h)
theorem aq(h:H p=none)(o:HO):Same H (upd H p o):=λ b u q=>by rw [au (aY q h)];show q
def Same.get(e:Same H b)(h:H a=!o):b a=!o:=e a o h
def aH(h:H p=none)(q:H a=!o):upd H p o' a=!o:=aq h o' a o q
section
variable{X:Cx}(K:Ϗ)(hK:X.K=K)
include hK
theorem Fv:X6 X (eG K):=hK▸NK
theorem Oh:X6 X (gQ K):=hK▸Tg
theorem p6:Te X (BX K):=hK▸NP
theorem gk:jh X (compareOp .In) (QL K false):=hK▸BZ
theorem Oi(a:X.A.units+64<cLine):jh X (compareOp .Eq) (rEqD K):=hK▸TF a
theorem zV(a:X.A.units+64<cLine):jh X (compareOp .NotEq) (rNeD K):=hK▸TJ a
def vO(K:Ϗ):ϊ V->Hp->VK->Prop:=λ xs H Q=> ∃x n,xs=[x]/\Xy K x H n/\Q (.int n) H
theorem az:cB X (.builtin "len") (vO K):=by subst hK;show Eo
def fY(K:Ϗ):ϊ V->Hp->VK->Prop:=λ xs H Q=> ∃p ys,xs=[.ref p]/\(SqL K H p ys\/SqT K H p ys)/\ ∀l,H l=none->Q (.ref l) (upd H l (.lst ys))
theorem cO:cB X (.type "list") (fY K):=by subst hK;show tV
def iw(K:Ϗ):ϊ V->Hp->VK->Prop:=λ xs H Q=> ∃p ys,xs=[.ref p]/\((SqL K H p ys/\ ∀l,H l=none->Q (.ref l) (upd H l (.tup ys)))\/(SqT K H p ys/\Q (.ref p) H))
theorem dO:cB X (.type "tuple") (iw K):=by subst hK;show qJ
def cR(K:Ϗ):ϊ V->Hp->VK->Prop:=λ xs H Q=> ∃T x t b,xs=[x, .ty T]/\TyOf K H x t/\PySem.W.kitOne K t (.type T)=!b/\Q (.bl b) H
theorem bu:cB X (.builtin "isinstance") (cR K):=by subst hK;show vM
def Oj(K:Ϗ):ϊ V->Hp->VK->Prop:=λ xs H Q=> ∃(a:ό)(ns:ϊ Int),xs=[.ref a]/\SqL K H a (ns.map V.int)/\Q (.int ns.sum) H
theorem rN(a:X.calm=true):cB X (.builtin "sum") (Oj K):=by subst hK;show Fl a
theorem aO(a:PE X l tl):PI X tg l (bN K tl):=hK▸Nq a
theorem fZ(a:PE X l tl):PI X tg l (oH K tl):=hK▸SQ a
abbrev fJ(K:Ϗ)(ta:TE):TT:=λ σ H Q=>ta σ H λ x H'=> ∃k,El K x H' k/\Q k H'
theorem aW{a:Expr}(d:PE X a c)(e: ∀b,isTrue a X.env b=(do let v <- b;standAt a.pos;holding [v] (truthy v))):PT X a (fJ K c):=by subst hK;show Em d e
theorem cC{a:ϊ Expr}{k:Nat}(c:X.calm=true)(h:Xp X a t)
  (d:↑(assignEach a X.env)=n:=by rfl) (b:(assignEach a X.env).findIdx? (·.1)=none:=by rfl):PG X (.Tuple a k pos) (ie K n t):=by subst hK;show SN c h d b
end
section
variable{X:Cx}(K:Ϗ)(hK:X.K=K){o e:Expr}{es:ϊ Expr}{to:TE}{t:TA}{name:ϐ}{apos cpos:Pos}{T id:String}{r:V->ϊ V->Hp->VK->Prop}
include hK
theorem zW(g:PlainAttrs T)(c:Slot T name id)(d:typeOf (.builtin id)=pure (.type "method_descriptor"))(e:NB X id r)(f:PE X o to)(a:attributeBase o name X.env (eval o X.env)=eval o X.env:=by rfl)
  (b:(apos.endLine==cpos.line)=true:=by rfl):PE X (.Call (.Attribute o name apos) [] [] cpos) (NT K T r to):=by subst hK;show Ti g c d e f a b
theorem fK(l:PlainAttrs T)(f:Slot T name id)(g:typeOf (.builtin id)=pure (.type "method_descriptor"))(i:NB X id r)(j:PE X o to)(h:PA X (e::es) t)(b:attributeBase o name X.env (eval o X.env)=eval o X.env:=by rfl)
  (d:((backTo cpos (starEach (e::es) X.env)).all (λ x=> not x.1)&&(backToKw cpos (keywordEach [] X.env)).all (λ x=>x.1.isSome)&&decide (↑(e::es)+↑([]:ϊ Keyword)+(if ([]:ϊ Keyword).isEmpty then 0 else 1)<30))=true:=by rfl)
  (c:(apos.endLine==cpos.line)=true:=by rfl) (k:starEach (e::es) X.env=(false,eval e X.env)::starEach es X.env:=by rfl) (a:(backTo cpos (starEach es X.env)).any (·.1)=false:=by rfl):
  PE X (.Call (.Attribute o name apos) (e::es) [] cpos) (qx K T r to t):=by subst hK;show XC l f g i j h b d c k a
end
abbrev bZ:R2:=qF λ i j=> .int (i+j)
abbrev lG:R2:=qF λ i j=> .int (i-j)
abbrev jj:R2:=rI CMul λ i j=> .int (i*j)
abbrev TX:R2:=rI Xu λ i j=> .int (i / j)
abbrev di:R2:=rI (λ _ j=>0<j) λ i j=> .int (i%j)
abbrev QT:R2:=rI Xv λ i j=> .int (i*2^j.toNat)
abbrev XM:R2:=rI (λ _ j=>0<=j) λ i j=> .int (i / 2^j.toNat)
abbrev QV:R2:=qF λ i j=> .int (Builtin.bitAnd i j)
abbrev a0h:R2:=qF λ i j=> .int (Builtin.bitOr i j)
abbrev XN:R2:=qF λ i j=> .int (Builtin.bitXor i j)
abbrev Fw:R2:=qF λ i j=> .bl (decide (i<j))
abbrev nJ:R2:=qF λ i j=> .bl (decide (i<=j))
abbrev qK:R2:=qF λ i j=> .bl (decide (j<i))
abbrev a0i:R2:=qF λ i j=> .bl (decide (j<=i))
abbrev bc:R2:=λ x y H Q=> ∃i j,x= .str i/\y= .str j/\↑i+↑j<=sizeLine/\Q (.str (i++j)) H
abbrev p7:R2:=λ x y H Q=> ∃i j,x= .str i/\y= .str j/\Q (.bl (not (decide (j.cps.toList<i.cps.toList)))) H
abbrev mY:R2:=λ x y H Q=>y= .non/\Q (.bl (decide (x= .non))) H
abbrev u9:R2:=λ x y H Q=>y= .non/\Q (.bl (not (decide (x= .non)))) H
abbrev ph:V->Hp->VK->Prop:=rU λ i=> .int (-i)
abbrev vP:V->ϊ V->Hp->VK->Prop:=λ x xs H Q=> ∃i,x= .int i/\xs=[]/\Q (.int (Builtin.Int.intBits i)) H
abbrev QW:ϊ V->Hp->VK->Prop:=λ xs H Q=> ∃x,xs=[.str x]/\↑x=1/\Q (.int (x.cps.getD 0 0:Nat)) H
abbrev pq:ϊ V->Hp->VK->Prop:=λ xs H Q=> ∃i j,xs=[.int i, .int j]/\Q (.int (if j<i then j else i)) H
abbrev yg:ϊ V->Hp->VK->Prop:=λ xs H Q=> ∃i j,xs=[.int i, .int j]/\Q (.int (if j>i then j else i)) H
abbrev zX:X4:=ipI λ i j=>i+j
abbrev TY(X:Cx)(pins:Ϸ)(xe:϶):Cx where
 prog:=X.prog
 w:=X.w
 K:=X.K
 mg:=X.mg
 base:=X.base
 A:=X.A
 N:=X.N
 s₀:=X.s₀
 H₀:=X.H₀
 env:=X.env
 outer:=X.outer
 stack:=X.stack
 ex:=X.ex
 fn:=X.fn
 calm:=X.calm
 pn:=X.pn++pins
 xe:=xe
section
variable{X:Cx}
theorem Inv.tryIn(I:Inv X pins σ H s)(b:϶):Inv (TY X pins b) [] σ H s:=
 ⟨⟨I.ok.mod,I.ok.kind,I.ok.glob,I.ok.blt,I.ok.above,I.ok.inj,I.ok.has,I.ok.cab,I.ok.hd,I.ok.frames,I.ok.stk,I.ok.exf,I.ok.bs,I.ok.bsz,I.ok.noex,I.ok.exfs,I.ok.funs,I.ok.frf⟩,
  I.os,I.bare,I.base,I.loc,I.cell,I.free,I.freeC,λ p a=>I.pin p (by simpa using a),I.hok,I.len⟩
theorem Inv.tryOut(I:Inv (TY X pins xe) pins' σ H s):Inv X pins σ H s:=
 ⟨⟨I.ok.mod,I.ok.kind,I.ok.glob,I.ok.blt,I.ok.above,I.ok.inj,I.ok.has,I.ok.cab,I.ok.hd,I.ok.frames,I.ok.stk,I.ok.exf,I.ok.bs,I.ok.bsz,I.ok.noex,I.ok.exfs,I.ok.funs,I.ok.frf⟩,
  I.os,I.bare,I.base,I.loc,I.cell,I.free,I.freeC,λ p a=>I.pin p (Ý _ a),I.hok,I.len⟩
end
section
variable{X:Cx}{i:Nat}
abbrev behind(i:Nat)(D:Ends):Ends where
 nx:=λ σ H=>D.nx (σ.set i none) H
 rt:=D.rt
 bk:=λ σ H=>D.bk (σ.set i none) H
 ct:=λ σ H=>D.ct (σ.set i none) H
end
end L2
end
section
namespace L2
open PySem PySem.Spec PySem.Calls PyProof.Rows PySem.W PySem.Builtin PySem.Builtin.ObjectAttr PySem.Builtin.Getset_descriptor
structure ExcK(K:Ϗ)(C:ό):Prop where
 ex:PySem.W.excIn K C [.type "ValueError", .type "Exception", .type "BaseException", .type "object"] "ValueError.__new__"=true
 ga:findIn K (.ref C) "__getattribute__"=!(!(.builtin "BaseException.__getattribute__"))
 gt:findIn K (.ref C) "__getattr__"=!none
 cl:findIn K (.ref C) "__class__"=!(!(.builtin "object.__class__"))
 ge:specialIn K (.builtin "object.__class__") "__get__"=!(!(.builtin "getset_descriptor.__get__"))
 tk:takesIn K (.builtin "object.__class__")=!true
 mo:mroIn K C (.type "object")=!true
 mb:subIn K (.ref C) (.type "BaseException")=!true
end L2
end
section
namespace L2
open PySem PySem.Spec PyProof.Rows
variable{k:Nat}
theorem pA: ∀{ys:ϊ ϐ}{us:ϊ ϋ},Vals (ys.map V.str) us->StrsAre us ys
 | [],_,r=>by cases r;show .nil
 | y::ys,_,r=>by
  cases r with
  | cons r rr=>
   let#[t,rfl]:=r;show .cons y t (pA rr)
def rJoin(K:Ϗ):V->ϊ V->Hp->VK->Prop:=λ x vs H Q=> ∃(s:ϐ)(a:ό)(ys:ϊ ϐ),x= .str s/\vs=[.ref a]/\SqL K H a (ys.map V.str)/\(ys.map (·.length)).sum+↑ys*↑s<=16777216/\Q (.str (Txt.join s ys)) H
def vQ:V->ύ Int->ύ Int->Hp->VK->Prop:=λ x lo hi H Q=> ∃s:ϐ,x= .str s/\↑s<=sizeLine/\Q (.str (Txt.slice s lo hi)) H
section
variable{X:Cx}
theorem Ol:NB X "str.join" (rJoin X.K):=by
 intro c s w H x o v n Q I j i h;let#[z,a,p,rfl,rfl,e,b,q]:=h;let#[t,rfl]:=j;let#[u,rfl,g]:=i.one
 cases (show u=Value.ref a from g);let#[f,r,d,m]:=I.list e;show join_list d.isList (pA r) b λ l k=>#[.str _,H,I.tok k,#[l,rfl],q]
def pB(K:Ϗ)(a:X.K=K):NB X "str.join" (rJoin K):=a▸Ol
theorem pC:Te X vQ:=by
 intro a s w H x v y A lo m d Q I p b o c h;let#[z,rfl,n,q]:=h;let#[t,rfl]:=p;have fin: ∀(l u:ύ (Int×Tok)),l.map (·.1)=lo->u.map (·.1)=m->s.heap.IsSlice d l u none->wpAny (model X.prog X.w) X.A (getItem (.str z t) (.ref d)) (EP X a w Q) X.xe s:=by
  intro l u e f g;show wpAny_getItem_str_slice (l:=l) (u:=u) (st:=none) g rfl ?_;subst e f;show post_val_or_str #[Nat.le_trans (Txt.slice_le z _ _) n,λ r k=>#[.str _,H,I.tok k,#[r,rfl],q]]
 show#["str",_,F.slot_str_getitem.lookup,Ŷ _ _ _,?_]
 cases o with
 | none=>
  cases c with
  | none=>show fin none none rfl rfl b
  | int j u=>show fin none (!(j,u)) rfl rfl b
 | int i u=>
  cases c with
  | none=>show fin (!(i,u)) none rfl rfl b
  | int j u'=>show fin (!(i,u)) (!(j,u')) rfl rfl b
end
def Ite(K:Ϗ)(a:ό):It:=
 ⟨λ i H=> ∃xs x,SqL K H a xs/\xs[i]? =!x,
  λ i H v H'=> ∃p x,H p=none/\v= .ref p/\H'=upd H p (.tup [.int (i:Int),x])/\ ∀xs,SqL K H a xs->xs[i]? =!x,
  λ i H=> ∃xs,SqL K H a xs/\↑xs<=i⟩
structure EnSt(e it a:ό)(i:Nat)(h:ϒ):Prop where
 he: ∃old,IsEnum h e it (i:Int) old
 h1:h.IsListIter it a i
theorem Cr{P:ϓ}{K:Ϗ}{e y:ό}(a:ό)(D:e≠y):
  Turn P w K (.Tuple elts k tpos) (Ite K a) [e,y] e (EnSt e y a) where
 mem:=by simp
 obj:=λ i h j c r=>by
  let#[#[f,d],#[Y,C,c1,d1]]:=j;simp only [È,å,ĥ] at r;rcases r with rfl | rfl
  .show #[_,d,λ v z=>by cases z]
  .show #[Y,C,λ v z=>by rw [d1] at z;cases z]
 keep:=λ i h S j m=>by
  let#[#[f,d],l]:=j;show#[#[f,m e (by simp) _ d],l.at λ o e=>m y (by simp) o e]
 item:=by
  intro X G N F r i A s σ H E I B j J;subst G N F;let#[xs,x,g,U]:=J;let#[Q,R,p,O]:=I.list g;let#[u,hu,ru]:=R.get U;let#[#[f,d],l]:=id j;show wpAny_pyNext_enum_item (x:=u) d l p.isList (by simpa using hu) D λ S a1 a2 a3 a4 a5=> ?_
  show#[_,rfl,wpAny_letOwnedTupleGo_enum a1 λ n b1 M=> ?_];have hT:s.heap.objs.size≠e:=Ģ (Ì d);have m: ∀c o,c∉[e,y]->s.heap.get? c=!o->n.get? c=!o:=λ c o b q=>by
   simp only [È,å,ĥ,not_or] at b;show M.extBut _ _ b.1 (a5 c o b.1 b.2 q)
  have e5:n.get? s.heap.objs.size=!{ cls:= .type "tuple",data:= .seq ([.int i s.toks,u].toArray) }:=M.extBut _ _ hT a3;let#[t,Z]:=I.yields (t':=s.toks+1) m B (x:= .int (i:Int)) #[_,rfl] ru e5;show#[.ref s.heap.objs.size,_,Z,rfl,#[_,x,t,rfl,rfl,λ ac h=>by rw [I.list_inj h g];show U],#[#[u,by have:=b1;rwa [show((i:Int)+1)=((i+1:Nat):Int) by rfl'] at this],a2.extBut M.extBut (Ne.symm D)],λ c b=> ?_];have L:c<s.heap.objs.size:=by
   let#[Y,C,_]:=l;simp only [È,å,ĥ] at b;rcases b with rfl | rfl
   .show Ì d
   .show Ì C
  rw [au (ã L)];show(B c b).1
 done:=by
  intro X G N F r i A s σ H E I B j J;subst G N F;let#[xs,g,T]:=J;let#[Q,R,p,O]:=I.list g;let#[#[f,d],l]:=id j;have ab:=↑R;show wpAny_pyNext_enum_end (I.ok.hd r) d l p.isList (by simp;rfl') λ S m=> ?_
  show#[rfl,I.turnedAll (t':=s.toks) (λ c o b q=> ?_) B];simp only [È,å,ĥ,not_or] at b;show m c o b.2 q
 self:=λ _ _ _ _ _ j h=>by
  let#[f,d]:=j.he;show wpAny_pyIter_enum d h
abbrev zY(K:Ϗ)(ta:TA):TI:=λ σ H R=>ta σ H λ vs H1=> ∃a xs,vs=[.ref a]/\SqL K H1 a xs/\R (Ite K a) H1
theorem Om{X:Cx}(o:Gl X "enumerate")(F:X.calm=true)(t:X.mg "enumerate"=none)(n:PA X [a] ta)(u:starEach [a] X.env=[(false,eval a X.env)]:=by rfl):
  PI X (.Tuple elts k tpos) (.Call (.Name "enumerate" p) [a] [] pos) (zY X.K ta):=by
 intro f s D H R I h;show Call_ (gM I o t (show bootBuiltins "enumerate"=!(.type "enumerate") by ac_nf) (ă (bF (n pos f s D H _ I h) λ J g ⟨K,m,i,B,A⟩=> ?_) (by rw [u];rfl) (by rfl)));let#[y,L,e,j,q]:=A;subst e
 cases B with
 | cons r rr=>
  cases rr
  cases r;let#[w,G,z,v]:=i.list j;show call_enumerate_list z.isList λ E l C M x=> ?_
  show wpAny_pyIter_enum l ?_;show#[g.heap.objs.size+1,[g.heap.objs.size+1,g.heap.objs.size],_,_,m,rfl,i.kept (t':=g.toks) x,Cr y (by change(_:Nat)≠_;rfl'),#[#[_,l],C],λ c b=> ?_,q];have d:g.heap.objs.size<=c:=by
   simp only [È,å,ĥ] at b;rcases b with rfl | rfl<;>(change(_:Nat)<=_;rfl')
  show i.fpOk d (i.hok.fresh d)
theorem vR{X:Cx}(K:Ϗ)(b:X.K=K)(e:Gl X "enumerate")(d:X.calm=true)(f:X.mg "enumerate"=none)(c:PA X [a] ta)(g:starEach [a] X.env=[(false,eval a X.env)]:=by rfl):
  PI X (.Tuple elts k tpos) (.Call (.Name "enumerate" p) [a] [] pos) (zY K ta):=by subst b;show Om e d f c g
section
variable{i ep:Nat}
theorem Fx{c:Type}{P:c->ώ->Prop}{h:ϒ}(f:A.handled=none)(g:Heap.SameBut it h s.heap)(d: ∀h',Heap.ExtBut it h h'->Q none { s with heap:=h' }):
  wpAny (model prog w) A.in1 (newExc (.type "StopIteration") [] >>= λ e=>(raiseNew e:Sem c)) P (λ v s'=>wpAny (model prog w) A (do if <- isInstance v (.type "StopIteration") then pure none else throw v:Sem (ύ ϋ)) Q E s') s:=by
 show Zl ?_;simp-iota only [newExc,newTuple];show Zl (õ ?_ (by size_fits));show Zl (m:=firstArgMember _ _) (wpAny_of_eq (a:=Value.none) (by first | rfl | (simp-iota only [firstArgMember];rfl)) ?_);show õ ?_ (by size_fits);simp-iota only [raiseNew];show Zl (wpAny_handled ?_);rw [show A.in1.handled=none from f];show Zl (Á (wpAny_throw ?_));show Zl (ť (T:="StopIteration") (b:=true) #[_,Ê _ rfl,rfl] isSubtype_stop (Á (d _ ((g.extBut.push _).push _))))
theorem lH(x:A.handled=none)(g:s.heap.IsKeyIter it d i es.size ep)(h:s.heap.get? d=!od)(f:od.data= .dict es ep)
  (u: ∀(hi:i<es.size) h',h'.IsKeyIter it d (i+1) es.size ep->Heap.SameBut it s.heap h'->Q (!es[i].key) { s with heap:=h' })
  (t:es.size<=i-> ∀h',Heap.ExtBut it s.heap h'->Q none { s with heap:=h' }):wpAny (model prog w) A (pyNext (.ref it)) Q E s:=by
 let#[o,j,v,e]:=id g;have T:=g.typeIs (s:=s);unfold pyNext;show Zl (wpAny_attempt (wpAny_callSpecial?_slot (name:=Str.ofString "__next__") T F.slot_dict_keyiterator_next (ð F.slot_dict_keyiterator_next T F.entry_dict_keyiterator_next ?_ (F.args_dict_keyiterator_next_1 _))));have q:Builtin.Dict_items.ownsTuple "dict_keyiterator"=false:=by decide
 have r: ¬ (Value.ref d==Value.none)=true:=Ñ;have y: ¬ ((i:Int)<0):=()
 have l: ∀{k:ώ}{m:ϖ}{n:϶}{R:String->ώ->Prop},k.TypeIs (.ref it) "dict_keyiterator"->R "dict_keyiterator" k->wpAny (model prog w) m (typeNameOfWhole (.ref it)) R n k:=λ a b=>wpAny_typeNameOfWhole_keyiter a b
 repeat (first
  | (show l T ?_)
  | (show wpAny_fieldsOf j e ?_)
  | (show ī h f ?_)
  | (show wpAny_dictEpoch h f ?_)
  | (show ψ T ?_)
  | (show Á ?_)
  | (show Zl ?_)
  | (simp only [q,á,ą])
  | (rw [if_neg r])
  | (rw [if_neg (by simp)]))
 rw [Ó];rcases Đ i es.size with hi | hi
 .rw [ò hi];have c:(s.heap.update it (Obj.mapFields (·.setIfInBounds 1 (rawInt ((i:Int)+1))))).IsKeyIter it d (i+1) es.size ep:=#[_,ĝ _ j (Obj.isFreed_of_fields (Ν e _)),(Obj.cls_mapFields ..).trans v,by rw [Ν e];simp [rawInt]];have p:=c.typeIs (s:={ s with heap:=s.heap.update it (Obj.mapFields (·.setIfInBounds 1 (rawInt ((i:Int)+1)))) });dsimp only;show Zl (Zl (l T (Á (Zl (ψ T ?_)))));change wpAny (model prog w) A.in1 (do setField (.ref it) 1 (rawInt ((i:Int)+1));_) _ _ s;show Zl (η j e (by simp) (Zl (þ (Zl (ψ p (Á ?_))))));show Á #[_,rfl,Á (u hi _ c (Ą ..))]
 .rw [θ hi];dsimp only;show Zl (Zl (l T (Á ?_)));change wpAny (model prog w) A.in1 (do setField (.ref it) 0 .none;_) _ _ s;show Zl (η j e (by simp) (Fx x (Ą ..) (t hi)))
def vU(f:A.handled=none)(b:s.heap.IsKeyIter it d i es.size ep)(c:s.heap.get? d=!od)(a:od.data= .dict es ep)(g:i<es.size)
  (e: ∀h',h'.IsKeyIter it d (i+1) es.size ep->Heap.SameBut it s.heap h'->Q (!es[i].key) { s with heap:=h' }):wpAny (model prog w) A (pyNext (.ref it)) Q E s:=
 lH f b c a (λ _=>e) λ n=>absurd g (Nat.not_lt.mpr n)
def zZ(f:A.handled=none)(b:s.heap.IsKeyIter it d i es.size ep)(c:s.heap.get? d=!od)(a:od.data= .dict es ep)(g:es.size<=i)
  (e: ∀h',Heap.ExtBut it s.heap h'->Q none { s with heap:=h' }):wpAny (model prog w) A (pyNext (.ref it)) Q E s:=
 lH f b c a (λ n=>absurd n (Nat.not_lt.mpr g)) λ _=>e
theorem pD(c:(d==sysModules)=false)(T:s.TypeIs (.ref d) "dict")(b:s.heap.get? d=!od)(a:od.data= .dict es ep)
  (e:R (.ref s.heap.objs.size) { s with heap:=s.heap.push { cls:= .type "dict_keyiterator",data:= .fields ([.ref d, .int 0 0, .int es.size 0, .int ep 0].toArray) } }):wpAny (model prog w) A (pyIter (.ref d)) R E s:=by
 show wpAny_pyIter_slot T F.slot_dict_iter (ð F.slot_dict_iter T F.entry_dict_iter ?_ (F.args_dict_iter_1 _));unfold Builtin.«dict.__iter__» Builtin.Dict.dictSlotNone Builtin.Dict.showsAll;have f: ¬ ((d==sysModules)=true):=by rw [c];show Ñ
 show Zl (Zl (Ĳ T ?_));change wpAny _ _ (pure (Value.ref d)) _ _ s;show Á ?_;change wpAny _ _ ((if (d==sysModules)=true then _ else _) >>= _) _ _ s;rw [if_neg f];show Zl (Á (Zl (ī b a (Zl (wpAny_dictEpoch b a ?_)))));show Zl (õ (Á #[_,rfl,"dict_keyiterator",_,#[_,Ê _ rfl,rfl],F.slot_dict_keyiterator_next.lookup,by simpa [rawInt] using e]))
end
def Fz:HO->Prop
 | .dK _=>True
 | .dT _=>True
 | .ext _=>True
 | _=>False
theorem HOk.freeze{a:ό}(x:HOk P w H h)(f:H a=!u)(i:h.get? a=!d)(j:Fz u):HOk P w (upd H a (.frz d u)) h:=by
 have n: ∀c v,H c=!v-> ¬Fz v->upd H a (.frz d u) c=!v:=λ c v q n=>by rw [au (fj q f λ z=>n (z▸j))];show q
 intro b v e;by_cases g:b=a
 .subst g;rw [aa] at e
  cases e;show#[i,(x b _ f).stay (λ c v _ q=>q) (λ c q=>n c _ q id) λ c k q=>n c _ q id]
 .rw [au g] at e;show(x b v e).stay (λ c v _ q=>q) (λ c q=>n c _ q id) λ c k q=>n c _ q id
theorem Inv.freeze{X:Cx}{a:ό}(I:Inv X pins g H s)(d:H a=!u)(h:s.heap.get? a=!e)(f:Fz u):Inv X pins g (upd H a (.frz e u)) s:=
 have n: ∀c v,H c=!v-> ¬Fz v->upd H a (.frz e u) c=!v:=λ c v q n=>by rw [au (fj q d λ z=>n (z▸f))];show q
 I.call' (ch:=[]) rfl ⟨λ b o q _ _ _=>q,λ b o q _ _ _=>⟨o.slots,q⟩,λ b o q n _=>by rw [au (λ z=>by rw [z,d] at n;cases n)];show n,λ b o q _=>⟨o,q⟩,
  λ b k q=>n b _ q id,λ b o u q=>n b _ q id,λ b j q=>⟨([].toArray),by rw [n b _ q id];simp⟩⟩ (I.hok.freeze d h f) I.bare λ b i=>nomatch i
theorem iy{d e:Type}{F:d->e->Prop}: ∀{c:ϊ d}{l₂:ϊ e}(i:Nat),Paired F c l₂->i<↑c-> ∃a b,c[i]? =!a/\l₂[i]? =!b/\F a b
 | _,_,_, .nil,h=>by simp at h
 | _,_,0, .cons r _,_=>#[_,_,rfl,rfl,r]
 | _,_,i+1, .cons _ t,h=>by
  let#[a,b,f,g,j]:=iy i t (by simpa using h);show#[a,b,by simpa using f,by simpa using g,j]
end L2
end
section
namespace Sx
open PySem PyProof.Rows
structure Wk(B:Keyed->Keyed->ϑ):Prop where
 rf: ∀p,B p p=false
 tr: ∀ {p q r},B q p=false->B r q=false->B r p=false
 an: ∀ {p q},B p q=true->B q p=false
def gt(xs:ϔ Keyed)(i:Nat):Keyed:=xs[i]?.getD (.none, .none)
def Up(B:Keyed->Keyed->ϑ)(xs:ϔ Keyed)(k:Nat):Prop:= ∀i j,i<=j->j<k->B (gt xs j) (gt xs i)=false
def Dn(B:Keyed->Keyed->ϑ)(xs:ϔ Keyed)(k:Nat):Prop:= ∀i j,i<=j->j<k->B (gt xs i) (gt xs j)=false
def Eb(B:Keyed->Keyed->ϑ)(xs:ϔ Keyed)(l k:Nat):Prop:= ∀i j,l<=i->i<k->l<=j->j<k->B (gt xs i) (gt xs j)=false
structure Bs(kd:SortKind)(a0:ϔ Keyed)(st:SortSt):Prop where
 pm:(arrOf st).Perm a0
 kn:kindOf st=kd
 fl:failedOf st=none
 pe:pendingOf st= ([].toArray)
section
variable{kd:SortKind}{st:SortSt}{k l m:Nat}
def Bs.sz(b:Bs kd a0 st):(arrOf st).size=a0.size:=b.pm.size_eq
def Bs.put(b:Bs kd a0 st)(a:xs.Perm (arrOf st)):Bs kd a0 (setArr st xs):=#[a.trans b.pm,b.kn,b.fl,b.pe]
theorem Fy{a d:Nat}(c:a<xs.size)(b:d<=a):gt (bubble xs a d) k=if k=a-d then gt xs a else if a-d<k/\k<=a then gt xs (k-1) else gt xs k:=by
 unfold gt;rw [getElem?_bubble c d b k];split
 .rfl
 .split<;>rfl
theorem jC(a:m<=xs.size):gt (mirror xs l m ((m-l) / 2)) k=if l<=k/\k<m then gt xs (l+m-1-k) else gt xs k:=by
 unfold gt;rw [getElem?_mirror_all a k];split<;>rfl
theorem Up.one(o:Wk B):Up B xs 1:=λ i j a b=>by
 have:i=j:=()
 rw [this];show o.rf _
theorem Up.next(o:Wk B)(u:Up B xs k)(f:1<=k)(e:B (gt xs k) (gt xs (k-1))=false):Up B xs (k+1):=λ i j a d=>by
 by_cases c:j<k
 .show u i j a c
 .obtain rfl:j=k:=()
  by_cases b:i=j
  .rw [b];show o.rf _
  .show o.tr (u i (j-1) () ()) e
theorem Dn.next(o:Wk B)(u:Dn B xs k)(f:1<=k)(e:B (gt xs (k-1)) (gt xs k)=false):Dn B xs (k+1):=λ i j a d=>by
 by_cases c:j<k
 .show u i j a c
 .obtain rfl:j=k:=()
  by_cases b:i=j
  .rw [b];show o.rf _
  .show o.tr e (u i (j-1) () ())
theorem Eb.one(o:Wk B):Eb B xs (k-1) k:=λ i j a b c d=>by
 have:i=j:=()
 rw [this];show o.rf _
theorem Eb.next(o:Wk B)(u:Eb B xs l k)(m:l<k)(e:B (gt xs k) (gt xs (k-1))=false)(f:B (gt xs (k-1)) (gt xs k)=false):Eb B xs l (k+1):=λ i j b g c h=>by
 by_cases d:i<k
 .by_cases a:j<k
  .show u i j b d c a
  .obtain rfl:j=k:=()
   show o.tr f (u i (j-1) b d () ())
 .obtain rfl:i=k:=()
  by_cases a:j<i
  .show o.tr (u (i-1) j () () c a) e
  .obtain rfl:j=i:=()
   show o.rf _
theorem Dn.mir(u:Dn B xs m)(q:Eb B xs l m)(b:m<=xs.size):Dn B (mirror xs l m ((m-l) / 2)) m:=λ i j d e=>by
 rw [jC b,jC b];by_cases a:l<=i/\i<m
 .rw [if_pos a,if_pos ()];show q _ _ () () () ()
 .rw [if_neg a];by_cases c:l<=j/\j<m
  .rw [if_pos c];show u _ _ () ()
  .rw [if_neg c];show u i j d e
theorem Dn.up(u:Dn B xs m)(a:m<=xs.size):Up B (mirror xs 0 m ((m-0) / 2)) m:=λ i j b c=>by
 rw [jC a,jC a,if_pos (),if_pos ()];show u _ _ () ()
end
def Oo(M:Model)(A:ϖ)(E:϶)(s:ώ)(kd:SortKind)(a0:ϔ Keyed)(B:Keyed->Keyed->ϑ):Prop:=
 ∀(st:SortSt)(i j:Nat)(Q:ύ ϑ->SortSt->Prop),Bs kd a0 st->i≠j->i<a0.size->j<a0.size->Q (!(B (gt (arrOf st) i) (gt (arrOf st) j))) st->wpS M A E s (ltAt' i j) Q st
section
variable{kd:SortKind}{st:SortSt}{n k:Nat}
theorem Aa(o:Wk B)(i:Oo (model prog w) A E s kd a0 B){Q:AscSt->SortSt->Prop}(p:n<=a0.size)(l:1<=k)(a:k<=n)(b:Bs kd a0 st)(u:Up B (arrOf st) k)
  (h: ∀m,k<=m->m<=n->Up B (arrOf st) m->(m=n\/B (gt (arrOf st) m) (gt (arrOf st) (m-1))=true)->Q (none,m) st):wpS (model prog w) A E s (ascLoop k n) Q st:=by
 unfold ascLoop;show ι (I:=λ m c t=>c=(none,m)/\t=st/\Up B (arrOf st) m) (λ m c t g j f=> ?_) (λ c t f=> ?_) #[rfl,rfl,u]
 .obtain ⟨rfl,rfl,d⟩:=f;show ý (i _ _ _ _ b (show m≠m-1 by rfl') (show m<_ by rfl') (show m-1<_ by rfl') ?_);dsimp only
  cases e:B (gt (arrOf t) m) (gt (arrOf t) (m-1)) with
  | true=>rw [if_pos rfl];show ğ (h m g () d (.inr e))
  | false=>rw [if_neg Ñ];show ğ #[rfl,rfl,d.next o () e]
 .obtain ⟨rfl,rfl,d⟩:=f;rw [show max k n=n from Nat.max_eq_right a] at d ⊢;show h n a (Ä _) d (.inl rfl)
theorem vV(o:Wk B)(e:Oo (model prog w) A E s kd a0 B)(g:n<=a0.size)(f:1<=k)(a:k<=n)(b:Bs kd a0 st)(u:Dn B (arrOf st) k)
  (h: ∀m t,Bs kd a0 t->1<=m->m<=n->Up B (arrOf t) m->Q (!m) t):wpS (model prog w) A E s (tail3 k n) Q st:=by
 unfold tail3;show ý (wpS_reverse ?_);have c:=b.put (mirror_perm (arrOf st) 0 k ((k-0) / 2));show ý (Aa o e g f a c (u.up (by rw [b.sz];rfl')) λ m j d i _=>ğ (h m _ c () d i))
theorem FJ(o:Wk B)(y:Oo (model prog w) A E s kd a0 B){Q:DescSt->SortSt->Prop}(H:n<=a0.size)(F:1<=k)(g:k<=n)(b:Bs kd a0 st)(u:Dn B (arrOf st) k)
  (h: ∀m e t,Bs kd a0 t->k<=m->m<=n->Dn B (arrOf t) m->e+1<=m->Eb B (arrOf t) (m-(e+1)) m->Q (none,m,e) t):wpS (model prog w) A E s (descLoop k n) Q st:=by
 unfold descLoop;show ι (I:=λ m c t=> ∃e,c=(none,m,e)/\Bs kd a0 t/\Dn B (arrOf t) m/\e+1<=m/\Eb B (arrOf t) (m-(e+1)) m) (λ m c t C G r=> ?_) (λ c t r=> ?_) #[0,rfl,b,u,F,Eb.one o]
 .obtain ⟨e,rfl,a,f,l,q⟩:=r;have d:m<=(arrOf t).size:=by rw [a.sz];rfl'
  show ý (y _ _ _ _ a (show m≠m-1 by rfl') (show m<_ by rfl') (show m-1<_ by rfl') ?_);dsimp only
  cases e1:B (gt (arrOf t) m) (gt (arrOf t) (m-1)) with
  | true=>
   rw [if_pos rfl];have p:Dn B (arrOf t) (m+1):=f.next o () (o.an e1);by_cases x:e>0
   .rw [if_pos x];show ý (wpS_reverse (ğ #[0,rfl,a.put (mirror_perm _ _ _ _),λ i j v z=> ?_,(),Eb.one o]));by_cases D:j<m
    .show (f.mir q d) i j v D
    .obtain rfl:j=m:=()
     change B (gt (mirror (arrOf t) _ _ _) i) (gt (mirror (arrOf t) _ _ _) j)=false;rw [jC d,jC d,if_neg (show ¬ (_/\j<j) by rfl')];split
     .show p _ _ () ()
     .show p _ _ v z
   .rw [if_neg x];show ğ #[0,rfl,a,p,(),Eb.one o]
  | false=>
   rw [if_neg Ñ];show ý (y _ _ _ _ a (show m-1≠m by rfl') (show m-1<_ by rfl') (show m<_ by rfl') ?_);dsimp only
   cases e2:B (gt (arrOf t) (m-1)) (gt (arrOf t) m) with
   | true=>rw [if_pos rfl];show ğ (h m e t a C () f l q)
   | false=>
    rw [if_neg Ñ];show ğ #[e+1,rfl,a,f.next o () e2,(),?_];rw [show m+1-(e+1+1)=m-(e+1) by rfl'];show q.next o () e1 e2
 .obtain ⟨e,rfl,a,f,l,q⟩:=r;rw [show max k n=n from Nat.max_eq_right g] at f l q ⊢;show h n e t a g (Ä _) f l q
theorem rO(o:Wk B)(c:Oo (model prog w) A E s kd a0 B)(f:n<=a0.size)(d:k+1<=n)(b:Bs kd a0 st)(u:Dn B (arrOf st) (k+1))
  (h: ∀m t,Bs kd a0 t->1<=m->m<=n->Up B (arrOf t) m->Q (!m) t):wpS (model prog w) A E s (descPart k n) Q st:=by
 unfold descPart;show ý (wpS_lift (Ő #[rfl,ý (FJ o c f () d b u λ m e t a p j l r q=> ?_)]));dsimp only;have g:m<=(arrOf t).size:=by rw [a.sz];rfl'
 by_cases i:e>0
 .rw [if_pos i];show ý (wpS_reverse (vV o c f () j (a.put (mirror_perm _ _ _ _)) (l.mir q g) h))
 .rw [if_neg i];show vV o c f () j a l h
theorem Cu(o:Wk B)(d:Oo (model prog w) A E s kd a0 B)(v:n<=a0.size)(p:1<=n)(b:Bs kd a0 st)
  (h: ∀m t,Bs kd a0 t->1<=m->m<=n->Up B (arrOf t) m->Q (!m) t):wpS (model prog w) A E s (countRun' 0 n) Q st:=by
 rw [countRun0_eq];show ý (Aa o d v (Ä 1) p b (Up.one o) λ m l C f x=> ?_);dsimp only;by_cases u:m=n
 .rw [if_pos (by simpa using u)];show ğ (h m st b l C f)
 .rw [if_neg (by simpa using u)];have a:=x.resolve_left u;have c:m<=(arrOf st).size:=by rw [b.sz];rfl'
  by_cases g:m>1
  .rw [if_pos g];show ý (d _ _ _ _ b () (show 0<_ by rfl') (show m-1<_ by rfl') ?_);dsimp only
   cases e:B (gt (arrOf st) 0) (gt (arrOf st) (m-1)) with
   | true=>rw [if_pos rfl];show ğ (h m st b l C f)
   | false=>
    rw [if_neg Ñ];have q:Eb B (arrOf st) 0 m:=λ i j _ D _ r=>o.tr (f j (m-1) () ()) (o.tr e (f 0 i () D))
    have y:Dn B (arrOf st) (m+1):=Dn.next o (λ i j _ r=>q i j () () () r) l (o.an a);show ý (wpS_reverse (rO o d v () (b.put (mirror_perm _ _ _ _)) (λ i j z k=> ?_) h));change B (gt (mirror (arrOf st) _ _ _) i) (gt (mirror (arrOf st) _ _ _) j)=false;rw [jC c,jC c];by_cases r:j<m
    .rw [if_pos (),if_pos ()];show q _ _ () () () ()
    .rw [if_neg (show ¬ (0<=j/\j<m) by rfl')];split
     .show y _ _ () k
     .show y _ _ z k
  .rw [if_neg g];obtain rfl:m=1:=()
   show rO o d v () b (Dn.next o (λ i j z k=>by rw [show i=j by rfl'];show o.rf _) (Ä 1) (o.an a)) h
theorem Oq(o:Wk B)(Y:Oo (model prog w) A E s kd a0 B){Q:ϑ->SortSt->Prop}(R:n<=a0.size)(H:k<=n)(b:Bs kd a0 st)(u:Up B (arrOf st) k)
  (h: ∀t,Bs kd a0 t->Up B (arrOf t) n->Q true t):wpS (model prog w) A E s (binarySort' 0 n k) Q st:=by
 rw [binarySort'_eq];simp-iota only [ũ];show ý (wpS_mono (ι (I:=λ m c t=>c=(none,Unit.unit)/\Bs kd a0 t/\Up B (arrOf t) (min m n)) (Q:=λ c t=>c=(none,Unit.unit)/\Bs kd a0 t/\Up B (arrOf t) n) (λ m c t F v y=> ?_) (λ c t y=> ?_) #[rfl,b,λ i j D L=> ?_]) λ c t G=> ?_)
 .obtain ⟨rfl,q,f⟩:=y;rw [Ř (ñ v)] at f;have C:m<a0.size:=()
  show ý (wpS_mono (ι (I:=λ x c p=>p=t/\ ∃l r,c=(none,l,r)/\l<=r/\r<=m/\r+x<=m+l/\(∀i,i<l->B (gt (arrOf t) m) (gt (arrOf t) i)=false)/\ ∀i,r<=i->i<m->B (gt (arrOf t) i) (gt (arrOf t) m)=false)
   (Q:=λ c p=>p=t/\ ∃l r,c=(none,l,r)/\l<=m/\(∀i,i<l->B (gt (arrOf t) m) (gt (arrOf t) i)=false)/\ ∀i,l<=i->i<m->B (gt (arrOf t) i) (gt (arrOf t) m)=false)
   (λ x c p D L y=> ?_) (λ c p y=> ?_) #[rfl,0,m,rfl,(),(),(),λ i z=>(),λ i W X=>()]) λ c p G=> ?_)
  .obtain ⟨rfl,l,r,rfl,N,d,O,lo,a⟩:=y;dsimp only;by_cases P:l>=r
   .rw [if_pos P];obtain rfl:l=r:=()
    show ğ #[rfl,l,l,rfl,d,lo,a]
   .rw [if_neg P];have F:l<=(l+r) / 2:=by clear O lo a f d F v D L C R H;rfl'
    have v:(l+r) / 2<r:=by clear O lo a f d F v D L C R H;rfl'
    generalize (l+r) / 2=c at F v ⊢;have g:=Ô v d;show ý (Y _ _ _ _ q () C (show c<_ from ž g C) ?_);dsimp only
    cases e:B (gt (arrOf p) m) (gt (arrOf p) c) with
    | true=>
     simp-iota only [ĺ];show ğ #[rfl,l,c,rfl,F,ñ g,by clear F g C;rfl',lo,λ i W X=>o.tr (o.an e) (f _ _ W X)]
    | false=>
     simp-iota only [á,ą];show ğ #[rfl,c+1,r,rfl,v,d,by clear g C;rfl',λ i z=>o.tr (f i c (Nat.le_of_lt_succ z) g) e,a]
  .obtain ⟨rfl,l,r,rfl,N,d,O,lo,a⟩:=y;obtain rfl:l=r:=()
   show#[rfl,l,l,rfl,d,lo,a]
  .obtain ⟨rfl,l,r,rfl,M,lo,a⟩:=G;change wpS _ _ _ _ (do moveDown' m l;pure (ForInStep.yield (none,Unit.unit))) _ _;rw [moveDown'_eq];show ý (wpS_modify (ğ #[rfl,q.put (bubble_perm _ _ _),?_]));rw [show min (m+1) n=m+1 by rfl'];have J:m<(arrOf p).size:=by rw [q.sz];show C
   intro i j D L;change B (gt (bubble (arrOf p) m (m-l)) j) (gt (bubble (arrOf p) m (m-l)) i)=false;rw [Fy J (),Fy J (),Nat.sub_sub_self M];by_cases S:i=l
   .rw [if_pos S];by_cases K:j=l
    .rw [if_pos K];show o.rf _
    .rw [if_neg K,if_pos ()];show a (j-1) () ()
   .rw [if_neg S];by_cases T:l<i/\i<=m
    .rw [if_pos T,if_neg (),if_pos ()];show f _ _ () ()
    .rw [if_neg T];by_cases K:j=l
     .rw [if_pos K];show lo i ()
     .rw [if_neg K];by_cases U:l<j/\j<=m
      .rw [if_pos U];show f _ _ () ()
      .rw [if_neg U];show f _ _ D ()
 .obtain ⟨G,q,f⟩:=y;show#[G,q,?_];rwa [show min (max (max k 1) n) n=n by rfl'] at f
 .by_cases Z:k=0
  .rw [show i=j by rfl'];show o.rf _
  .show u i j D ()
 .obtain ⟨rfl,q,f⟩:=G;show ğ (h t q f)
def Dd(B:Keyed->Keyed->ϑ)(a0:ϔ Keyed)(st:SortSt):Prop:=(arrOf st).Perm a0/\failedOf st=none/\pendingOf st= ([(0,a0.size,0)].toArray)/\Up B (arrOf st) a0.size
theorem Bs.dd(b:Bs kd a0 st)(u:Up B (arrOf st) a0.size):Dd B a0 (setPending st ((pendingOf st).push (0,a0.size,0))):=#[b.pm,b.fl,by change(pendingOf st).push (0,a0.size,0)=_;rw [b.pe];rfl,u]
theorem Ot(o:Wk B)(q:Oo (model prog w) A E s kd a0 B){Q:Unit->SortSt->Prop}(b:Bs kd a0 st)(D:2<=a0.size)(l:a0.size<64)
  (h: ∀t,(arrOf t).Perm a0->failedOf t=none->Up B (arrOf t) a0.size->Q Unit.unit t):wpS (model prog w) A E s sortRuns' Q st:=by
 rw [sortRuns'_eq];show ý (wpS_get ?_);have n: ∀f,minRun' (f+1) a0.size 0=a0.size:=λ f=>by rw [minRun'_succ,if_pos l];rfl
 have i:minRun' a0.size a0.size 0=a0.size:=by
  have:=n (a0.size-1);rwa [show a0.size-1+1=a0.size by rfl'] at this
 dsimp only;simp-iota only [b.sz,i];show ý (wpS_mono (ι (I:=λ x c t=>(x=0/\c=(none,0)/\Bs kd a0 t)\/(1<=x/\c=(none,a0.size)/\Dd B a0 t)) (Q:=λ c t=>c=(none,a0.size)/\Dd B a0 t) (λ x c t _ _ e=> ?_) (λ c t e=> ?_) (.inl #[rfl,rfl,b])) λ c t d=> ?_)
 .rcases e with ⟨rfl,rfl,bt⟩ | ⟨hx,rfl,a⟩
  .dsimp only;rw [if_neg ()];simp-iota only [Nat.sub_zero,Nat.min_self,ũ];show ý (Cu o q (Ä _) () bt λ m v k F u r=> ?_);dsimp only;by_cases g:m<a0.size
   .rw [if_pos g];show ý (wpS_lift (Ő #[rfl,ý (Oq o q (Ä _) u k r λ y p C=> ?_)]));simp-iota only [Ĕ,á,ą];show ý (wpS_get ?_);rw [show(pendingOf y).back?=none by rw [p.pe];rfl];show ý (wpS_modify (ğ (.inr #[(),rfl,p.dd C])))
   .rw [if_neg g];obtain rfl:m=a0.size:=()
    show ý (wpS_get ?_);rw [show(pendingOf v).back?=none by rw [k.pe];rfl];show ý (wpS_modify (ğ (.inr #[(),rfl,k.dd r])))
  .dsimp only;rw [if_pos (Ä _)];show ğ #[rfl,a]
 .rcases e with ⟨hx,_⟩ | ⟨_,d,a⟩
  .rfl'
  .show #[d,a]
 .obtain ⟨rfl,a⟩:=d;dsimp only;show ý (wpS_mono (ι (I:=λ _ c j=>j=t/\c=(none,Unit.unit)) (Q:=λ c j=>j=t/\c=(none,Unit.unit)) (λ x c j _ _ e=> ?_) (λ _ _ z=>z) #[rfl,rfl]) λ c j d=> ?_)
  .obtain ⟨rfl,rfl⟩:=e;show ý (wpS_get ?_);rw [if_pos (by rw [a.2.2.1];show Ä 1)];show ğ #[rfl,rfl]
  .obtain ⟨rfl,rfl⟩:=d;show ğ (h _ a.1 a.2.1 a.2.2.2)
def mid(h:ϒ)(a:ό)(vs:ϊ ϋ):ϒ:=((h.update a (Obj.mapSeq λ _=> ([].toArray))).push (seqObj "tuple" vs.toArray 0)).push (seqObj "list" ([].toArray) 0)
theorem FN(o:Wk B){a:ό}{b:ϊ ϋ}{n:Nat}{P:Fin->ώ->Prop}(g:s.heap.get? a=!(seqObj "list" b.toArray n))(u:↑b<64)
  (x:2<=↑b->wpAny (model prog w) A (keyKind' b.toArray) (λ k s'=>s'={ s with heap:=mid s.heap a b }/\k=kd) E { s with heap:=mid s.heap a b })
  (v:Oo (model prog w) A E { s with heap:=mid s.heap a b } kd (pairsOf b) B)
  (h: ∀d:ϔ Keyed,d.Perm (pairsOf b)->Up B d ↑b->P (.done (.ret .none)) { s with heap:=sortedHeap s.heap a b (d.map (·.2)) }):
  wpAny (model prog w) A (Builtin.«list.sort» #[[.ref a],[]]) P E s:=by
 rw [list_sort_plain];have F:a<s.heap.objs.size:=Ì g;let#[p,r]: ∃p,(s.heap.update a (Obj.mapSeq λ _=> ([].toArray))).get? a=!(seqObj "list" ([].toArray) p):=#[_,get?_update_seq g (λ _=> ([].toArray))];have f:(mid s.heap a b).get? a=!(seqObj "list" ([].toArray) p):=by
  unfold mid;show Ã _ (Ã _ r)
 have c:(pairsOf b).size=↑b:=pairsOf_size b;show Zl (listItems_at g rfl (Zl (listUpdate_at g rfl (Zl (seqEpoch_at r rfl (Zl (wpAny_newTuple (Zl (wpAny_newList (þ ?_))))))))));change wpAny (model prog w) A _ P E { s with heap:=mid s.heap a b };dsimp only;have y:b.toArray.size=↑b:=by simp
 rw [y];by_cases e:↑b<2
 .rw [if_pos e,if_pos e];show Zl (Á ?_);rw [StateT.run_pure];show Zl (Á (Zl (seqEpoch_at f rfl (Zl (listUpdate_at f rfl ?_ (hsz2:= ?_))))))
  .simp-iota only [bne_self_eq_false,á,ą];show Á (h (pairsOf b) (Array.Perm.refl _) λ i j C D=>by rw [show i=j by rfl'];show o.rf _)
  .rw [Array.size_map];change(pairsOf b).size<=_;rw [c,Ā];rfl'
 .rw [if_neg e,if_neg e];show Zl (ċ (x ()) ?_ λ _ _ z=>z);rintro k s' ⟨rfl,rfl⟩;show Zl (ċ (Ot o v (st:=SortSt.mk' k (b.toArray.zip b.toArray) ([].toArray) 7 none) (Q:=λ _ t=>(arrOf t).Perm (pairsOf b)/\failedOf t=none/\Up B (arrOf t) (pairsOf b).size)
   #[Array.Perm.refl _,rfl,rfl,rfl] () () λ t l q m=>#[l,q,m]) ?_ λ _ _ z=>z)
  rintro ⟨⟨⟩,t⟩ s' ⟨rfl,l,q,m⟩;show Zl (seqEpoch_at f rfl (Zl (listUpdate_at f rfl ?_ (hsz2:= ?_))))
  .dsimp only;rw [q];simp-iota only [bne_self_eq_false,á,ą];rw [c] at m;show Á (h _ l m)
  .rw [Array.size_map];change(arrOf t).size<=_;rw [l.size_eq,c,Ā];rfl'
end
def uc(b:ϑ)(x y:ϋ):keyLt' (tuples' b) x y=(do
  let xs <- Builtin.List.listItems x;let ys <- Builtin.List.listItems y
  for ((p,q),i) in (xs.toList.zip ys.toList).zipIdx do
   if not (<- eqBool p q) then return <- oneLt' (b&&i==0) p q
  return xs.size<ys.size):=rfl
def FP(v:ϋ):firstOfTuple' v=(do
  if (<- typeOf v)!= .type "tuple" then return none
  return (<- Builtin.List.listItems v)[0]?):=rfl
def Fs(h:ϒ)(f:ϋ->ϐ)(v:ϋ):Prop:= ∃b ob its tk n rest,v= .ref b/\h.get? b=!ob/\ob.cls= .type "tuple"/\ob.data= .seq its n/\its.toList= .str (f v) tk::rest
section
theorem vW{b a:Type}{g:b->Sem a}{r:b->a}: ∀{vs:ϊ b}{Q:ϊ a->ώ->Prop},(∀v∈vs,∀R:a->ώ->Prop,R (r v) s->wpAny (model prog w) A (g v) R E s)->Q (vs.map r) s->wpAny (model prog w) A (vs.mapM g) Q E s
 | [],Q,_,q=>by rw [List.mapM_nil];show Á q
 | v::vs,Q,h,q=>by
  rw [List.mapM_cons];show Zl (h v Ë _ (Zl (vW (λ u c=>h u (É _ c)) (Á q))))
def vX(B:c≠[])(C: ∀v∈c,Fs s.heap f v):wpAny (model prog w) A (keyKind' c.toArray) (λ k s'=>s'=s/\k=tuples' true) E s:=by
 rw [keyKind'_eq,List.mapM_toArray];have l: ∀v∈c,∃a,∀R:ύ ϋ->ώ->Prop,R (!(.str (f v) a)) s->wpAny (model prog w) A (firstOfTuple' v) R E s:=by
  intro v d;let#[b,ob,i,a,n,rest,rfl,j,t,y,z]:=C v d;show#[a,λ R r=> ?_];rw [FP];show Zl (wpAny_typeOf_ref j ?_);rw [t];show Zl (listItems_at j y (Á ?_));have:i[0]? =!(.str (f (.ref b)) a):=by rw [<- ø,z];rfl
  rw [this];show r
 let#[a,h]: ∃a:ϋ->Tok,∀v∈c,∀R:ύ ϋ->ώ->Prop,R (!(.str (f v) (a v))) s->wpAny (model prog w) A (firstOfTuple' v) R E s:=#[λ v=>if d:v∈c then (l v d).choose else 0,λ v d R r=>(l v d).choose_spec R (by simpa only [dif_pos d] using r)];have D: ∀e:ϊ ϋ,StrsAre (e.map λ v=> .str (f v) (a v)) (e.map f):=by
  intro e;induction e with
  | nil=>show .nil
  | cons u e ih=>show .cons _ _ ih
 rw [map_eq_pure_bind,bind_assoc];show Zl (vW (r:=λ v=>!(.str (f v) (a v))) h ?_);rw [pure_bind];have m:((c.map λ v=>!(Value.str (f v) (a v))).toArray.all (·.isSome))=true:=by
  rw [List.all_toArray,List.all_map,Ť];intro _ _;rfl
 have o:(c.map λ v=>!(Value.str (f v) (a v))).toArray.filterMap id=(c.map λ v=>Value.str (f v) (a v)).toArray:=by
  rw [List.filterMap_toArray,List.filterMap_map];congr 1;change c.filterMap (λ v=>!(Value.str (f v) (a v)))=_;rw [List.filterMap_eq_map']
 rw [if_pos m,o,oneTypeOnly'_eq,List.mapM_toArray,mapM_typeOf_strs (D c)];simp only [map_pure,pure_bind];show Zl (Ő ?_);let#[v,g,rfl]:=List.exists_cons_of_ne_nil B;have p:((List.map (λ _=>Value.type "str") ((v::g).map λ v=>Value.str (f v) (a v))).toArray.all λ x=>x==Value.type "str")=true:=by
  rw [List.all_toArray,List.all_map,Ť];intro _ _;rfl
 have q:(List.map (λ _=>Value.type "str") ((v::g).map λ v=>Value.str (f v) (a v))).toArray[0]? =!(Value.type "str"):=by simp
 rw [q];simp only [p,ĺ,pure_bind];show Á #[rfl,rfl]
def Bf(f:ϋ->ϐ)(p q:Keyed):ϑ:=strKind.blt (f p.1).cps.toList (f q.1).cps.toList
def a0j:Wk (Bf f):=#[λ p=>strKind.irrefl _,λ {p q r} a b=>KeyOrd.kle_trans (O:=strKind.toKeyOrd) a b,λ {p q} h=>KeyOrd.klt_asymm (O:=strKind.toKeyOrd) h]
def yh(m: ∀v∈g,Fs s.heap f v)(u:(g.map f).Nodup):Oo (model prog w) A E s (tuples' true) (pairsOf g) (Bf f):=by
 intro a i j Q b l z B q;have c:i<(arrOf a).size:=by rw [b.sz];show z
 have d:j<(arrOf a).size:=by rw [b.sz];show B
 have h: ∀k (C:k<(arrOf a).size),((arrOf a)[k]).1∈g:=by
  intro k C;have n:(arrOf a)[k]∈(pairsOf g).toList:=(Ÿ.mp b.pm).mem_iff.mp (by simp);rw [pairsOf_toList] at n;show(mem_zip_self n).2
 have H:f ((arrOf a)[i]).1≠f ((arrOf a)[j]).1:=by
  have o:((arrOf a).toList.map λ p=>f p.1).Perm (g.map f):=by
   have:=(Ÿ.mp b.pm).map (λ p:Keyed=>f p.1);rw [pairsOf_toList] at this;have e:(g.zip g).map (λ p:Keyed=>f p.1)=g.map f:=by
    rw [show(λ p:Keyed=>f p.1)=f∘Prod.fst from rfl,<- Å,List.map_fst_zip (Ä _)]
   rwa [e] at this
  have G:=(o.nodup_iff).mpr u;intro e;show l ((ţ (h₀:=by simpa using c) (h₁:=by simpa using d) G).mp (by simpa using e))
 have r:gt (arrOf a) i=(arrOf a)[i]:=by unfold gt;rw [getElem?_pos _ i c];rfl
 have t:gt (arrOf a) j=(arrOf a)[j]:=by unfold gt;rw [getElem?_pos _ j d];rfl
 rw [r,t] at q;rw [ltAt'_eq];show ý (wpS_get ?_);change wpS _ _ _ _ (do let x <- elem' (arrOf a) i;let y <- elem' (arrOf a) j;lt' x y) Q a;rw [elem'_eq,elem'_eq,getElem?_pos _ i c,getElem?_pos _ j d];show ý (ğ (ý (ğ ?_)));rw [lt'_eq];show ý (wpS_get ?_);rw [b.kn];obtain ⟨O,T,D,Y,R,W,v1,K,y1,M,I⟩:=m _ (h i c);obtain ⟨P,U,F,Z,S,X,v2,L,y2,N,J⟩:=m _ (h j d);show ý (wpS_lift (wpAny_attempt ?_));rw [uc];generalize o:(arrOf a)[i]=p at*;generalize hq:(arrOf a)[j]=p' at*;rw [v1,v2];show Zl (listItems_at K M (Zl (listItems_at L N ?_)));rw [I,J,Μ,List.zipIdx_cons,ü];show Zl (Zl (Zl (eqBool_str ?_)));rw [if_pos (by rw [ń.mpr H];rfl)];show Zl (strKind_oneLt prog w A _ s _ _ (f p.1).cps.toList (f p'.1).cps.toList rfl rfl (Á (Á (Á #[rfl,ğ ?_]))));show q
end
end Sx
namespace L2
open PySem PySem.Spec PyProof.Rows
variable{v:ϋ}{w:ϕ}{A:ϖ}{prog:ϓ}{E Q:϶}{C R:ϊ ϋ->ώ->Prop}{Z:ϊ ϋ->ώ->ϔ ϋ->Prop}
theorem Ou{b c:Type}{g:b->c}{l a:ϊ c}(h:l.Perm a): ∀{zs:ϊ b},l=zs.map g-> ∃ws:ϊ b,ws.Perm zs/\a=ws.map g:=by
 induction h with
 | nil=>intro zs e;show#[zs, .refl _,e]
 | cons x _ ih=>
  intro zs e
  cases zs with
  | nil=>cases e
  | cons z zs=>
   rw [Ç] at e;injection e with e1 e2
   let#[ws,p,q]:=ih e2;show#[z::ws,p.cons z,by rw [Ç,q,e1]]
 | swap x y l=>
  intro zs e
  match zs,e with
  | z1::z2::r,e=>
   rw [Ç,Ç] at e;injection e with e1 e2
   injection e2 with e2 e3
   show#[z2::z1::r, .swap _ _ _,by rw [Ç,Ç,e1,e2,e3]]
 | trans _ _ ih1 ih2=>
  intro zs e;let#[ws,p,q]:=ih1 e;let#[i,d,f]:=ih2 q;show#[i,d.trans p,f]
def rP(h:ϒ):ϋ->ϐ
 | .ref b=>match h.get? b with
  | some ob=>match ob.data with
   | .seq its _=>match (its[0]? :ύ ϋ) with
    | some (Value.str x _)=>x
    | _=>#[([].toArray)]
   | _=>#[([].toArray)]
  | none=>#[([].toArray)]
 | _=>#[([].toArray)]
theorem pF{a:Type}{g:a->ό}: ∀{zs:ϊ a}{us:ϊ ϋ},Vals (zs.map λ z=>V.ref (g z)) us->us=zs.map λ z=>Value.ref (g z)
 | [],_,r=>by cases r;rfl
 | z::zs,_,r=>by
  cases r with
  | cons r rr=>
   rw [pF rr,Ç];congr 1
theorem mj{a:Type}{g:a->ό}: ∀zs:ϊ a,Vals (zs.map λ z=>V.ref (g z)) (zs.map λ z=>Value.ref (g z))
 | []=> .nil
 | _::zs=> .cons rfl (mj zs)
abbrev qM(a b:ϐ):Prop:=a.cps.toList<b.cps.toList
def ud:ϊ V->Hp->VK->Prop:=λ xs H Q=> ∃(a:ό)(kvs:ϊ (Int×V)),xs=[.ref a]/\H a=!(.dK (kvs.map λ p=>(Sum.inl p.1,p.2)))/\↑kvs<64/\ ∀r (ns:ϊ Int),ns.Perm (kvs.map (·.1))->ns.Pairwise (· < ·)->H r=none->Q (.ref r) (upd H r (.lst (ns.map V.int)))
abbrev ue(td:TE):TE:=λ σ H Q=>td σ H λ x H1=> ∃(a:ό)(kvs:ϊ (ϐ×V)),x= .ref a/\H1 a=!(.dK (kvs.map λ p=>(Sum.inr p.1,p.2)))/\↑kvs<64/\ ∀r (zs:ϊ (ό×ϐ×V)) (H2:Hp),(zs.map (·.2)).Perm kvs->(zs.map (·.2.1)).Pairwise qM->H1 r=none->Same H1 H2->H2 r=!(.lst (zs.map λ z=>V.ref z.1))->(∀z∈zs,H2 z.1=!(.tup [.str z.2.1,z.2.2]))->Q (.ref r) H2
theorem pG{s:ώ}
  (i: ∀(b:϶)(R:ϊ ϋ->ώ->Prop),(∀vs s1,C vs s1->R vs s1)->wpAny (model prog w) A.in1 (collect v) R b s)
  (j: ∀vs s1,C vs s1->↑vs<64/\(∀(c:ϖ)(b:϶)(P:PySem.Fin->ώ->Prop),(∀a,Z vs s1 a->P (.done (.ret .none)) { s1 with heap:=sortedHeap (s1.heap.push (seqObj "list" vs.toArray 0)) s1.heap.objs.size vs a })->
    wpAny (model prog w) c (Builtin.«list.sort» #[[.ref s1.heap.objs.size],[]]) P b { s1 with heap:=s1.heap.push (seqObj "list" vs.toArray 0) })/\
   ∀a,Z vs s1 a->Q (.ref s1.heap.objs.size) { s1 with heap:=sortedHeap (s1.heap.push (seqObj "list" vs.toArray 0)) s1.heap.objs.size vs a }):
  wpAny (model prog w) A (call (.builtin "sorted") [v]) Q E s:=by
 show Calls.call_function_entry kind_sorted plain_sorted entry_sorted (args_sorted1 _) ?_;unfold Builtin.«sorted»;show Zl (m:=checkCount "sorted" 1 1 _) (Á (Zl (i _ _ λ vs s1 e=> ?_)));let#[d,f,h]:=j vs s1 e;show Zl (wpAny_newList ?_ (by rw [Ā];rfl'));have g:(s1.heap.push (seqObj "list" vs.toArray 0)).get? s1.heap.objs.size=!(seqObj "list" vs.toArray 0):=Ê _ rfl;change wpAny _ _ _ _ _ { s1 with heap:=s1.heap.push (seqObj "list" vs.toArray 0) };show Zl (þ (ð slot_list_sort #[_,g,rfl] entry_list_sort (f _ _ _ λ a z=>#[_,rfl,?_]) (args_list_sort _)));show Á #[_,rfl,h a z]
theorem uf{K:Type}[DecidableEq K]{n:PySem.KeyKind prog w K}{g:ϊ (K×ϋ)}{z:Nat}
  (I:A.handled=none) (lo:(d==sysModules)=false) (F:s.heap.DictAt n d g z) (L:↑g<=sizeLine)
  (h: ∀(h':ϒ)(p:Nat)(vs:ϊ ϋ),(∀b o,s.heap.get? b=!o->h'.get? b=!o)->s.heap.objs.size<=h'.objs.size->↑vs=↑g->(∀(j:Nat) v,vs[j]? =!v-> ∃k x,g[j]? =!(k,x)/\n.is k v=true)->R vs { s with heap:=h',toks:=p }):
  wpAny (model prog w) A (collect (.ref d)) R E s:=by
 have D:d<s.heap.objs.size:=F.lt_size;have KS:=PySem.W.kdl_dict (prog:=prog) (w:=w) (knd:=n) (d:=d) (kvs:=g) (ep:=z) lo;unfold collect;show Zl (wpAny_runValue (ř entry_proto_collect' ?_));rw [Ħ PySem.F.plain_proto_collect _];change wpAny _ A.in1 (newList [] >>= λ l=>again (.builtin "list.__iadd__" #[[l, .ref d],[]])) _ _ s;show Zl (õ ?_);show Á #[plainId_quiet PySem.F.plain_list_iadd _,ř entry_list_iadd' ?_];rw [Ħ PySem.F.plain_list_iadd _];have t:(s.heap.push { cls:= .type "list",data:= .seq ([]:ϊ ϋ).toArray }).get? s.heap.objs.size=!{ cls:= .type "list",data:= .seq ([].toArray) }:=Ê _ rfl;change wpAny _ A.in1 (Builtin.List.listExtendWith (.ref s.heap.objs.size) (.ref d) (.ref s.heap.objs.size)) _ _ _;have B:=PySem.W.kdl_extend (A:=A) (s:={ s with heap:=s.heap.push { cls:= .type "list",data:= .seq ([]:ϊ ϋ).toArray } }) KS
  (R:=λ (q:Result) (C:ώ)=> ∃(h':ϒ)(p:Nat)(a:ϔ ϋ)(r:Nat),q= .ok (.ret (.ref s.heap.objs.size))/\C={ s with heap:=h',toks:=p }/\
   (∀b o,s.heap.get? b=!o->h'.get? b=!o)/\h'.get? s.heap.objs.size=!{ cls:= .type "list",dict:=none,data:= .seq a r,slots:= ([].toArray) }/\ItemsOf (λ i v=> ∃k x,g[i]? =!(k,x)/\n.is k v=true) a ↑g)
  I (F.push _) s.heap.objs.size (Ģ D) (Ģ D) (.ref s.heap.objs.size) 0 t
  (λ h' p a r u m c=>#[h',p,a,r,rfl,rfl,λ b o e=>u b o (ã (Ì e)) (Ã _ e),m,c]) L
 have fin: ∀{h':ϒ}{p:Nat}{a:ϔ ϋ}{r:Nat},(∀b o,s.heap.get? b=!o->h'.get? b=!o)->h'.get? s.heap.objs.size=!{ cls:= .type "list",dict:=none,data:= .seq a r,slots:= ([].toArray) }->ItemsOf (λ i v=> ∃k x,g[i]? =!(k,x)/\n.is k v=true) a ↑g->R a.toList { s with heap:=h',toks:=p }:=by
  intro h' p a r u m c;show h h' p a.toList u (ñ (Ì m)) (by rw [Ċ];show c.1) λ j v J=>c.2 j v (by rw [<- ø];show J)
 show ċ B (λ f C x=> ?_) λ e C x=> ?_
 .cases f with
  | done f=>
   let#[h',p,a,r,e,rfl,u,m,c]:=x
   cases e;change wpAny _ A (load s.heap.objs.size >>= _) _ _ _;show Zl (wpAny_load m (Á (fin u m c)))
  | again c₁=>
   show#[x.1,codeAny_mono x.2 λ q G y=> ?_];let#[h',p,a,r,rfl,rfl,u,m,c]:=y;change wpAny _ A (load s.heap.objs.size >>= _) _ _ _;show Zl (wpAny_load m (Á (fin u m c)))
 .obtain ⟨_,_,_,_,H,_⟩:=x
  cases H
def QX(h:ϒ)(b:ϊ ϋ)(a:ϔ ϋ): ∃e,(sortedHeap (h.push (seqObj "list" b.toArray 0)) h.objs.size b a).get? h.objs.size=!(seqObj "list" a e):=sortedHeap_at (n:=0) (Ê _ rfl)
theorem yj{h:ϒ}{e:ϊ ϋ}{c:ϔ ϋ}{b:ό}{o:Obj}(d:h.get? b=!o):(sortedHeap (h.push (seqObj "list" e.toArray 0)) h.objs.size e c).get? b=!o:=by
 have a:b<h.objs.size:=Ì d;rw [sortedHeap_old (ã a) (by rw [size_push'];show ĩ a)];show Ã _ d
theorem XR{l:Type}{c:l->Key}{Y:ϊ ϋ->ϊ l->Prop}(nil:Y [] [])(cons: ∀ {v k r ks},gZ (c k) v=true->Y r ks->Y (v::r) (k::ks)){a:ϊ (l×V)}(s:KV (a.map λ p=>(c p.1,p.2)) us)(o:↑b=↑us)(h: ∀(j:Nat) v,b[j]? =!v-> ∃k x,us[j]? =!(k,x)/\(bB prog w).is k v=true):Y b (a.map (·.1)):=by
 have g:us.map (·.1)=a.map λ p=>c p.1:=by rw [<- s.keys,Å];rfl
 have d:↑b=↑a:=by rw [o,<- Qb (f:=(·.1)),g,Qb]
 have e: ∀(j:Nat) v,b[j]? =!v-> ∃p,a[j]? =!p/\gZ (c p.1) v=true:=by
  intro j v i;let#[k,x,t,m]:=h j v i;have n:(us.map (·.1))[j]? =!k:=by rw [Wp,t];rfl
  rw [g,Wp] at n;let#[p,u,rfl]:=Î.mp n;rw [kj] at m;show#[p,u,m]
 clear h g o s
 revert a
 induction b with
 | nil=>
  intro a d e
  cases a with
  | nil=>show nil
  | cons=>simp at d
 | cons v r ih=>
  intro a d e
  cases a with
  | nil=>simp at d
  | cons p ps=>
   let#[q,y,k]:=e 0 v rfl
   cases y;show cons k (ih (by simpa using d) λ j v i=>e (j+1) v i)
theorem a0k{k:Int}(h:gZ (Sum.inl k) v=true)(t:IntsAre r ks):IntsAre (v::r) (k::ks):=by
 rcases bC h with ⟨i,t,e,rfl⟩ | ⟨y,t,e,_⟩<;>cases e
 show .cons _ _ ‹_›
theorem rQ{f:Type}{c:f->Key}{d:ϊ (f×V)}(i:KV (d.map λ p=>(c p.1,p.2)) us)(h:(us.map (·.1)).Nodup):(d.map (·.1)).Nodup:=by
 have g:us.map (·.1)=(d.map (·.1)).map c:=by rw [<- i.keys,Å,Å];rfl
 rw [g] at h;show Ŝ (λ {a b} z e=>z (by rw [e])) (ļ.mp h)
theorem yl{X:Cx}(l:X.calm=true){h:Type}{c:h->Key}{B:h->V}{Y:ϊ ϋ->ϊ h->Prop}{Z:ϊ h->Prop}{N:h->h->Prop}(nil:Y [] [])(cons: ∀ {v k r ks},gZ (c k) v=true->Y r ks->Y (v::r) (k::ks))(j: ∀ {us ks},Y us ks->Vals (ks.map B) us)
  (J: ∀{L:ϖ}{z:϶}{P:PySem.Fin->ώ->Prop}{s1:ώ}{vs ks},Y vs ks->↑vs<64->(∀d ns,Y d.toList ns->ns.Perm ks->Z ns->P (.done (.ret .none)) { s1 with heap:=sortedHeap (s1.heap.push (seqObj "list" vs.toArray 0)) s1.heap.objs.size vs d })->
    wpAny (model X.prog X.w) L (Builtin.«list.sort» #[[.ref s1.heap.objs.size],[]]) P z { s1 with heap:=s1.heap.push (seqObj "list" vs.toArray 0) })
  (K: ∀{ns:ϊ h},Z ns->ns.Nodup->ns.Pairwise N) {s:ώ} {O:St} {H:Hp} {us:ϊ ϋ} {Q:VK} {a:ό} {f:ϊ (h×V)} (I:Inv X pins O H s) (rv:Vals [.ref a] us) (e:Rd H a (.dK (f.map λ p=>(c p.1,p.2)))) (W:↑f<64) (q: ∀r (ns:ϊ h),ns.Perm (f.map (·.1))->ns.Pairwise N->H r=none->Q (.ref r) (upd H r (.lst (ns.map B)))):
  wpAny (model X.prog X.w) X.A (call (.builtin "sorted") us) (λ v s'=> ∃x H',Inv X pins O H' s'/\RelV x v/\Q x H') E s:=by
 let#[u,rfl,ru]:=rv.one
 cases (show u=Value.ref a from ru);let#[hz,w,ws,G,hD]:=mX I.hok e;let#[ep,m]:=hD.dictAt;have n:↑f=↑ws:=by have:=↑G;rw [Qb] at this;show this
 show pG (C:=λ vs s1=> ∃i y,s1={ s with heap:=i,toks:=y }/\(∀b o,s.heap.get? b=!o->i.get? b=!o)/\s.heap.objs.size<=i.objs.size/\Y vs (f.map (·.1)))
  (Z:=λ vs _ d=> ∃ns,Y d.toList ns/\ns.Perm (f.map (·.1))/\Z ns) (λ z R hR=> ?_) λ vs s1 hC=> ?_
 .show uf (A:=X.A.in1) (I.ok.hd l) w m (by rw [<- n,Ā];rfl') λ i y vs F g hl hv=>hR _ _ #[i,y,rfl,F,g,XR nil cons G hl hv]
 .obtain ⟨i,y,rfl,F,g,M⟩:=hC;have ab:↑vs=↑f:=by have:=↑(j M);rw [Qb,Qb] at this;show this.symm
  show#[(),λ L z P hP=>J M () λ d ns a b c=>hP _ #[ns,a,b,c],λ d t=> ?_];let#[ns,T,D,U]:=t;let#[S,he]:=QX i vs d;show#[.ref _,_,I.laid (t':=y) (a:=i.objs.size) (o:= .lst (ns.map B)) (λ b o hb=>yj (F b o hb)) g (show ObjOk X.prog X.w _ _ _ (.lst _) from #[?_,d.toList,S,j T,by rw [he]]),rfl,q _ ns D (K U (D.nodup_iff.mpr (rQ G m.nodup))) (I.hok.fresh g)];rw [Qb,D.length_eq,Qb,Ā];rfl'
theorem vY{X:Cx}(c:X.calm=true):cB X (.builtin "sorted") ud:=by
 intro g s r H p o Q I n h;let#[a,m,rfl,e,d,q]:=h;show yl c .nil a0k rD (λ k l j=>list_sort_tree (Ê _ rfl) k l j) (λ i f=>Ŝ (R:=λ a b=>a<=b/\a≠b) (λ {a b} z=>()) (List.Pairwise.and i f)) I n (.inl e) d q
end L2
namespace Sx
open PySem PyProof.Rows
section
def mC{a:ό}{d:ϊ ϋ}{n:Nat}{P:PySem.Fin->ώ->Prop}(M:s.heap.get? a=!(seqObj "list" d.toArray n))(m:↑d<64)(D: ∀v∈d,Fs (mid s.heap a d) f v)(F:(d.map f).Nodup)
  (h: ∀c:ϊ ϋ,c.Perm d->(c.map f).Pairwise (λ a b=>a.cps.toList<b.cps.toList)->P (.done (.ret .none)) { s with heap:=sortedHeap s.heap a d c.toArray }):
  wpAny (model prog w) A (Builtin.«list.sort» #[[.ref a],[]]) P E s:=by
 show FN (kd:=tuples' true) (a0j (f:=f)) M m (λ B=>vX (s:={ s with heap:=mid s.heap a d }) (by intro e;rw [e] at B;simp at B) D) (yh (s:={ s with heap:=mid s.heap a d }) D F) λ c I u=> ?_
 have l:c.toList.Perm (d.zip d):=by
  have:=Ÿ.mp I;rwa [pairsOf_toList] at this
 have g: ∀p∈c.toList,p.1=p.2:=λ p L=>(mem_zip_self (l.mem_iff.mp L)).1
 have k:(c.toList.map (·.2)).Perm d:=by
  have:=l.map (·.2);rwa [List.map_snd_zip (Ä _)] at this
 have N:c.size=↑d:=by rw [I.size_eq,pairsOf_size]
 have:=h (c.toList.map (·.2)) k ?_
 .rwa [show(c.toList.map (·.2)).toArray=c.map (·.2) by rw [<- Array.toList_map]] at this
 have t:((c.toList.map (·.2)).map f).Nodup:=((k.map f).nodup_iff).mpr F;rw [Β];intro i j G H q;have o:i<c.size:=by simpa using G
 have r:j<c.size:=by simpa using H
 have x:=u i j (ñ q) ();have J:gt c i=c[i]:=by unfold gt;rw [getElem?_pos _ i o];rfl
 have K:gt c j=c[j]:=by unfold gt;rw [getElem?_pos _ j r];rfl
 rw [J,K] at x;have y:((c.toList.map (·.2)).map f)[i]=f (c[i]).1:=by
  rw [g _ (by simp)];simp
 have z:((c.toList.map (·.2)).map f)[j]=f (c[j]).1:=by
  rw [g _ (by simp)];simp
 rw [y,z];have O:f (c[i]).1≠f (c[j]).1:=by
  intro e;have:=(ţ (h₀:=G) (h₁:=H) t).mp (by rw [y,z,e]);rfl'
 unfold Bf at x
 cases e:strKind.blt (f (c[i]).1).cps.toList (f (c[j]).1).cps.toList with
 | true=>show ô e
 | false=>
  have:=strKind.total _ _ e x;show absurd (by
   have C:(f (c[i]).1).cps=(f (c[j]).1).cps:=Array.toList_inj.mp this
   cases h4:f (c[i]).1;cases h5:f (c[j]).1;rw [h4,h5] at C;simpa using C) O
end
end Sx
namespace L2
open PySem PySem.Spec PyProof.Rows
def Inv.laidN{X:Cx}{t':Nat}(I:Inv X pins j H s)(k: ∀b u,s.heap.get? b=!u->g.get? b=!u)(a: ∀b,b<s.heap.objs.size->d b=H b)
  (h: ∀b o,s.heap.objs.size<=b->d b=!o->ObjOk X.prog X.w d g b o):Inv X pins j d { s with heap:=g,toks:=t' }:=by
 have f: ∀b o,H b=!o->d b=!o:=λ b o e=>by rw [a b (I.hok.lt e)];show e
 show I.un #[λ b u q _ _ _=>k b u q,λ b u q _ _ _=>#[u.slots,k b u q],λ b u q n _=>by rw [a b (Ì q)];show n,λ b u q _=>#[u,k b u q],λ b i q=>f _ _ q,λ b u i q=>f _ _ q,λ b l q=>#[([].toArray),by rw [f _ _ q];simp]] λ b u e=> ?_
 rcases Đ b s.heap.objs.size with lt | ge
 .rw [a b lt] at e;show(I.hok b u e).stay (λ c v _ q=>k c v q) (λ c q=>f _ _ q) λ c i q=>f _ _ q
 .show h b u ge e
def qN(H:Hp)(r:ό)(zs:ϊ (ό×ϐ×V)):Hp:=λ b=>if b=r then !(.lst (zs.map λ z=>V.ref z.1)) else match zs.find? (λ z=>decide (z.1=b)) with
 | some z=>!(.tup [.str z.2.1,z.2.2])
 | none=>H b
def FQ(a:(zs.map (·.1)).Nodup)(c: ∀z∈zs,z.1≠r)(b:z∈zs):qN H r zs z.1=!(.tup [.str z.2.1,z.2.2]):=by
 unfold qN;rw [if_neg (c z b)];have:zs.find? (λ y=>decide (y.1=z.1))=!z:=by
  clear c;induction zs with
  | nil=>cases b
  | cons y r ih=>
   rw [Ç,û] at a;rw [ē];rcases È.mp b with e | m
   .subst e;simp
   .have d:y.1≠z.1:=λ e=>a.1 (by rw [e];show Zs.mpr #[z,m,rfl])
    rw [Ú d];show ih a.2 m
 rw [this]
def FT(a:b≠r)(c: ∀z∈zs,z.1≠b):qN H r zs b=H b:=by
 unfold qN;rw [if_neg a];have:zs.find? (λ y=>decide (y.1=b))=none:=Ķ.mpr λ z d=>by simpa using c z d
 rw [this]
def FW(a:b≠r)(c:H b=none)(e:qN H r zs b=!o): ∃z∈zs,z.1=b/\o= .tup [.str z.2.1,z.2.2]:=by
 unfold qN at e;rw [if_neg a] at e
 cases q:zs.find? (λ z=>decide (z.1=b)) with
 | none=>rw [q] at e;rw [c] at e;cases e
 | some z=>
  rw [q] at e
  cases e;have d:decide (z.1=b)=true:=by have:=Ű q;simpa using this
  show#[z,Ĉ q,ô d,rfl]
def ym{c d:Type}{F:c->d->Prop}{a:ϊ c}{b:ϊ d}(r:Paired F a b): ∀{i:Nat}{p:c}{q:d},a[i]? =!p->b[i]? =!q->F p q:=by
 induction r with
 | nil=>intro i p q h;simp at h
 | cons h t ih=>
  intro i p q e f
  cases i with
  | zero=>cases e;cases f;show h
  | succ i=>show ih e f
def rR{X:Cx}(U:X.calm=true)(hg:Gl X "sorted")(hm:X.mg "sorted"=none)(ho:PE X o td)
  (T:attributeBase o "items" X.env (eval o X.env)=eval o X.env:=by rfl) (W:(d.endLine==l.line)=true:=by rfl)
  (he:starEach [.Call (.Attribute o "items" d) [] [] l] X.env=(false,eval (.Call (.Attribute o "items" d) [] [] l) X.env)::starEach [] X.env:=by rfl)
  (ax:backTo al (starEach [.Call (.Attribute o "items" d) [] [] l] X.env)=[(false,eval (.Call (.Attribute o "items" d) [] [] l) X.env)]:=by rfl):
  PE X (.Call (.Name "sorted" p) [.Call (.Attribute o "items" d) [] [] l] [] al) (ue td):=by
 intro N s σ H Q I h;show Λ (gM I hg hm (by ac_nf:bootBuiltins "sorted"=!(.builtin "sorted")) ?_ (by decide) (by decide));show PyProof.Rows.callWith_builtin1 ?_ he rfl;rw [ax];show ō (Υ T W (bF (ho N s σ H _ I h) λ v w ob=> ?_));let#[x,H1,J,r1,q1]:=ob;let#[a,c,rfl,e,am,q]:=q1
 cases (show v=Value.ref a from r1);let#[M,af,us,kv,hD]:=mX J.hok (.inl e);let#[t1,t2,_]:=ye J (.inl #[_, .inl e]);show#["dict","dict.items",Ľ,Φ,PySem.F.type_dict_items,t1,t2,ĕ rfl (PySem.evalArgs_none ?_)];show call_meetsIn Φ hD.typeIs PySem.F.entry_dict_items (PySem.F.args_dict_items_1 _) (meets_dict_items (bB X.prog X.w) a af) #[#[us,hD],?_];show Ŵ ?_;let#[ep,ab]:=hD.dictAt;have ad:↑c=↑us:=by have:=↑kv;rw [Qb] at this;show this
 have ar:us.map (·.1)=c.map λ p=>(Sum.inr p.1:Key):=by rw [<- kv.keys,Å];rfl
 have I2:Inv X N σ H1 { w with heap:=w.heap.push { cls:= .type "dict_items",data:= .fields ([.ref a].toArray) } }:=J.kept (t':=w.toks) λ b ob q=>Ã _ q
 show pG (C:=λ vs s3=> ∃m tk u,s3={ w with heap:=m,toks:=tk }/\(∀b o,w.heap.get? b=!o->m.get? b=!o)/\w.heap.objs.size<=m.objs.size/\↑u=↑us/\PySem.W.KdxG (bB X.prog X.w) us w.heap.objs.size m u/\vs=u.map Value.ref)
  (Z:=λ vs s3 ai=> ∃n:ϊ ϋ,ai=n.toArray/\n.Perm vs/\(n.map (rP s3.heap)).Pairwise (λ a b=>a.cps.toList<b.cps.toList)) (λ E' R hR=> ?_) λ vs s3 hC=> ?_
 .show PySem.W.kdx_collect (A:=X.A.in1) (knd:=bB X.prog X.w) (kvs:=us) (ep:=ep) (J.ok.hd U) #[_,Ê _ rfl,rfl,rfl] (ab.push _) (by rw [<- ad,Ā];rfl') λ m tk u hk hl hG=>hR _ _ #[m,tk,u,rfl,λ b o q=>hk b o (Ã _ q),?_,hl,hG.low ?_,rfl]
  .show ñ (Ì (hk w.heap.objs.size _ (Ê _ rfl)))
  .show w.heap.objs.size<=(w.heap.push _).objs.size;rw [size_push'];rfl'
 .obtain ⟨m,tk,u,rfl,hk,ag,a5,hG,rfl⟩:=hC;have a4: ∀(j:Nat)(b:ό) p,u[j]? =!b->c[j]? =!p-> ∃t B,m.get? b=!{ cls:= .type "tuple",data:= .seq ([.str p.1 t,B].toArray) }/\RelV p.2 B:=by
   intro j b p K hp;let#[a7,k,x,O,S,e3]:=hG.pairs j b K;have e4:(us.map (·.1))[j]? =!k:=by rw [Wp,O];rfl
   rw [ar,Wp,hp] at e4
   cases e4;rw [kj] at S;rcases bC S with ⟨i,t,e,_⟩ | ⟨y,t,e,ev⟩
   .show nomatch e
   .cases e;have hv:RelV p.2 x:=by
     have:=ym kv (i:=j) (p:=(Sum.inr p.1,p.2)) (q:=(Sum.inr p.1,x)) (by rw [Wp,hp];rfl) O;show this.2
    show#[t,x,by rw [<- ev];show e3,hv]
  have a6:↑c=↑u:=()
  have O:((u.zip c).map λ q=>(q.1,q.2.1,q.2.2):ϊ (ό×ϐ×V)).map (·.1)=u:=by rw [Å];show List.map_fst_zip ()
  have S:((u.zip c).map λ q=>(q.1,q.2.1,q.2.2):ϊ (ό×ϐ×V)).map (·.2)=c:=by rw [Å];show List.map_snd_zip ()
  have G: ∀z∈((u.zip c).map λ q=>(q.1,q.2.1,q.2.2):ϊ (ό×ϐ×V)),∃t B,m.get? z.1=!{ cls:= .type "tuple",data:= .seq ([.str z.2.1 t,B].toArray) }/\RelV z.2.2 B:=by
   intro z M;let#[q,mq,rfl]:=Zs.mp M;let#[j,hj,ej]:=ā.mp mq;have hl:j<↑u/\j<↑c:=by rw [List.length_zip] at hj;rfl'
   rw [List.getElem_zip] at ej;have:=a4 j u[j] c[j] (Qr hl.1) (Qr hl.2);rw [<- ej];show this
  generalize ((u.zip c).map λ q=>(q.1,q.2.1,q.2.2):ϊ (ό×ϐ×V))=zs0 at O S G;have ay:u.map Value.ref=zs0.map λ z=>Value.ref z.1:=by rw [<- O,Å];rfl
  have ah:↑zs0<64:=by rw [<- Qb (f:=(·.2)),S];show am
  have D: ∀z∈zs0,rP m (.ref z.1)=z.2.1:=λ z M=>by
   let#[t,B,g,_]:=G z M;unfold rP;dsimp only;rw [g];rfl
  have ef:(zs0.map λ z=>Value.ref z.1).map (rP m)=zs0.map (·.2.1):=by
   rw [Å];show ÿ λ z M=>D z M
  have av:(zs0.map (·.2.1)).Nodup:=by
   have:zs0.map (·.2.1)=c.map (·.1):=by rw [<- S,Å];rfl
   rw [this];show rQ kv ab.nodup
  have r: ∀z∈zs0,w.heap.objs.size<z.1/\z.1<m.objs.size:=λ z M=>by
   have:z.1∈u:=by rw [<- O];show Zs.mpr #[z,M,rfl]
   show#[hG.above _ this,hG.there this]
  have aw:(zs0.map (·.1)).Nodup:=by
   rw [O];show Ŝ (λ {a b} h e=>by rw [e] at h;show ć _ h) hG.rise
  rw [ay];show#[by rw [Qb];show ah,λ A' E' P hP=> ?_,λ ai ae=> ?_]
  .show Sx.mC (f:=rP m) (Ê _ rfl) (by rw [Qb];show ah) (λ v hv=> ?_) (by rw [ef];show av) λ n hp hs=>hP _ #[n,rfl,hp,hs]
   let#[z,E,rfl]:=Zs.mp hv;let#[t,B,g,_]:=G z E;show#[z.1,{ cls:= .type "tuple",data:= .seq ([.str z.2.1 t,B].toArray) },([.str z.2.1 t,B].toArray),t,_,[B],rfl,?_,rfl,rfl,by rw [D z E]];unfold Sx.mid;show Ã _ (Ã _ ?_);rw [Heap.get?_update_ne _ _ _ _ (ã (r z E).2)];show Ã _ g
  .obtain ⟨n,rfl,hp,hs⟩:=ae;let#[F,Y,rfl]:=Ou hp.symm rfl;have es:(F.map λ z=>Value.ref z.1).map (rP m)=F.map (·.2.1):=by
    rw [Å];show ÿ λ z a3=>D z (Y.mem_iff.mp a3)
   rw [es] at hs;let#[ee,ap]:=QX m (zs0.map λ z=>Value.ref z.1) (F.map λ z=>Value.ref z.1).toArray;have hr:H1 m.objs.size=none:=J.hok.fresh ag;have a2: ∀z∈F,z.1≠m.objs.size:=λ z E=>ã (r z (Y.mem_iff.mp E)).2
   have a1:(F.map (·.1)).Nodup:=((Y.map _).nodup_iff).mpr aw;have L: ∀b,b<w.heap.objs.size->qN H1 m.objs.size F b=H1 b:=λ b K=>FT (ã (Ô K ag)) λ z E=>Ģ (ž K (r z (Y.mem_iff.mp E)).1)
   show#[.ref _,qN H1 m.objs.size F,J.laidN (t':=tk) (λ b o K=>yj (hk b o K)) L λ b o K eo=> ?_,rfl,q _ F _ (by rw [<- S];show Y.map _) hs hr (λ b o eb=>by rw [L b (J.hok.lt eb)];show eb) (by unfold qN;rw [if_pos rfl]) λ z E=>FQ a1 a2 E];by_cases ac:b=m.objs.size
   .subst ac;have:o= .lst (F.map λ z=>V.ref z.1):=by unfold qN at eo;rw [if_pos rfl] at eo;cases eo;rfl
    subst this;show#[by rw [Qb,Y.length_eq,Ā];rfl',_,ee,mj (g:=λ z=>z.1) F,ap]
   .obtain ⟨z,E,ez,rfl⟩:=FW ac (J.hok.fresh K) eo;let#[t,B,g,rv]:=G z (Y.mem_iff.mp E);rw [<- ez];show#[by change 2<=_;rw [Ā];decide,[.str z.2.1 t,B], .cons #[t,rfl] (.cons rv .nil),_,yj g,rfl,_,rfl]
end L2
end
section
namespace Sy
open PySem PyProof.Rows
variable{n:Nat}{a:ό}{h₀:ϒ}{v:ϋ}{T:String}{R:Result->ώ->Prop}{Q:ύ ϋ->ώ->Prop}
theorem rT:entryFor table "dict.update.loop"=some Builtin.«dict.update.loop»:=entryFor_of_tree (by kernel_rfl)
theorem jL:plainId "dict.update.loop"=true:=by ac_nf
theorem FZ:typeLookup (.type "tuple") "keys"=pure none:=am_miss_of_fast (by ac_nf)
theorem U0:typeLookup (.type "tuple") "__getattr__"=pure none:=by rw [typeLookup_type,builtinLookup_eq_fast];kernel_rfl
theorem G3:typeLookup (.type "list") "keys"=pure none:=am_miss_of_fast (by ac_nf)
theorem U3:typeLookup (.type "list") "__getattr__"=pure none:=by rw [typeLookup_type,builtinLookup_eq_fast];kernel_rfl
theorem stored_new{K:Type}[DecidableEq K]{a:ϊ (K×ϋ)}{k:K}(h:k∉a.map (·.1)):stored a k v=a++[(k,v)]:=by
 unfold stored;rw [if_neg];intro z;let#[p,m,e]:=List.any_eq_true.mp z;show h (Zs.mpr #[p,m,ô e])
section
variable{prog:ϓ}{w:ϕ}{A:ϖ}{E:϶}{s:ώ}
theorem Ov(q:T="tuple"\/T="list")(a:ό)(o:Obj)(f:ϔ ϋ)(n:Nat)(k:o.cls= .type T)(l:o.dict=none)(b:o.data= .seq f n)(u:Tok):Meets (Builtin.«object.__getattribute__» #[[.ref a, .str "keys" u],[]]) (λ A R s=>s.heap.get? a=!o/\raisesAttr (.ref a) "keys" A R s):=
 Meets.of_wp λ m w A R s c=>by
  let#[t,g,d,x,v]:=s;let#[e,c]:=c;dsimp only at e;let#[p,j,i,h]:=o;simp only at k l b;subst k l b;have r:(⟨t,g,d,x,v⟩:ώ).TypeIs (.ref a) T:=#[_,e,rfl];have y:=FZ;have z:=G3;unfold Builtin.«object.__getattribute__»;rcases q with rfl | rfl<;>repeat (any_goals (first | assumption | wp_step | (show PySem.AutoSeq1.wpAny_loadPart' e ?_)))
  all_goals show wpAny_raiseAttrError c.1 c.2 (attrMsg_fits (by ac_nf) (by rw [Ā];decide+kernel))
theorem Ab(t:A.handled=none)(r:T="tuple"\/T="list")(c:s.heap.get? a=!o)(j:o.cls= .type T)(k:o.dict=none)(h:o.data= .seq its n)
  (x: ∀h' i,(∀b ob,s.heap.get? b=!ob->h'.get? b=!ob)->Q none { s with heap:=h',toks:=i }):wpAny (model prog w) A (getAttr? (.ref a) "keys") Q E s:=by
 let#[y,g,d,i,z]:=s;dsimp only at c;have M:=λ u=>Ov r a o its n j k h u
 let#[v,q,p,l]:=o;simp only at j k h;subst j k h;have f: ∀i,(⟨y,g,d,i,z⟩:ώ).TypeIs (.ref a) T:=λ _=>#[_,c,rfl]
 have B:=sub_AttributeError;have C:=F.slot_tuple_getattribute.lookup;have D:=F.slot_tuple_getattribute.bind (.ref a);have G:=U0;have H:=F.slot_list_getattribute.lookup;have I:=F.slot_list_getattribute.bind (.ref a);have J:=U3;unfold getAttr? getAttrBy? getAttrBy;rcases r with rfl | rfl<;>repeat (any_goals (first | assumption | show f _ | ((with_reducible change wpAny _ _ (call (Value.builtin "list.__getattribute__") _ _) _ _ _);show Š F.slot_list_getattribute (f _) F.entry_list_ga (F.args_list_getattribute_2 _ _) (M _) ⟨c,t,λ h' m e c=> ?_⟩) | ((with_reducible change wpAny _ _ (call (Value.builtin "tuple.__getattribute__") _ _) _ _ _);show Š F.slot_tuple_getattribute (f _) F.entry_tuple_ga (F.args_tuple_getattribute_2 _ _) (M _) ⟨c,t,λ h' m e c=> ?_⟩) | wp_step))
 all_goals
  let#[L,N,K]:=c.there;change wpAny _ _ (getattributeRaised _ _ _ _ _ _ _) _ _ _;unfold getattributeRaised;repeat (any_goals (first | assumption | wp_step))
  show x _ _ c.keeps
theorem G4{K:Type}[DecidableEq K]{knd:PySem.KeyKind prog w K}{I D:ό}{fp B:ϊ ό}{c:ϊ (ό×ϋ×K×ϋ)}{St:Nat->ϒ->Prop}
  (W:Walks prog w A.in1 I fp B ↑c (λ i v=> ∃z,c[i]? =!z/\v= .ref z.1) St) (E:D∉fp)
  (hz: ∀z∈c,z.1∉D::B/\knd.is z.2.2.1 z.2.1=true/\ ∃o n,h₀.get? z.1=!o/\o.cls= .type "tuple"/\o.data= .seq ([z.2.1,z.2.2.2].toArray) n) (X:(c.map (·.2.2.1)).Nodup) (ab:↑c<=sizeLine) (L:ϋ)
  (hR: ∀h' f,h'.DictOf knd D (c.map λ z=>(z.2.2.1,z.2.2.2))->(∀b o,b∉D::B->h₀.get? b=!o->h'.get? b=!o)->R (.ok (.ret L)) { s with heap:=h',toks:=f }):
  ∀(k i:Nat)(h:ϒ)(M:Nat)(j:Int),↑c-i=k->i<=↑c->St i h->h.DictOf knd D ((c.take i).map λ z=>(z.2.2.1,z.2.2.2))->(∀b o,b∉D::B->h₀.get? b=!o->h.get? b=!o)->
   codeAny (model prog w) A (.builtin "dict.update.loop" #[[.ref D, .ref I, .int j 0,L],[]]) R { s with heap:=h,toks:=M }:=by
 have F:D∉B:=λ m=>E (W.sub _ m)
 have x: ∀ {b},b∉D::B->b∉B:=λ {b} n m=>n (É _ m)
 intro k;induction k with
 | zero=>
  intro i h M j hk hi u N a;have U:i=↑c:=()
  subst U;rw [Õ] at N;show ř rT ?_;rw [Ħ jL _];change wpAny _ A.in1 (pyNext (.ref I) >>= _) _ _ _;show Zl (W.done { s with heap:=h,toks:=M } _ _ u λ h' f d=> ?_);change wpAny _ A.in1 (Builtin.Dict.addKeywords D [] >>= _) _ _ _;show Zl (Á (Á (hR h' f ?_ λ b o g e=>d b o (x g) (a b o g e))));let#[o,P,O,Y,r]:=N;show#[o,P,O,d D o F Y,r]
 | succ k ih=>
  intro i h M j hk hi u N a;have G:i<↑c:=()
  show ř rT ?_;rw [Ħ jL _];change wpAny _ A.in1 (pyNext (.ref I) >>= _) _ _ _;show Zl (W.item i { s with heap:=h,toks:=M } _ _ G u λ v h' f hP J d=> ?_);let#[z,ez,rfl]:=hP;have hm:=Xs ez;let#[n1,n2,o,n,g1,g2,g3]:=hz z hm;have C:h'.get? z.1=!o:=d _ _ (x n1) (a _ _ n1 g1);have S:h'.DictOf knd D ((c.take i).map λ z=>(z.2.2.1,z.2.2.2)):=by
   let#[o,P,O,Y,r]:=N;show#[o,P,O,d D o F Y,r]
  show Zl (þ ?_);show Zl (ν ?_);unfold Builtin.Dict.pairItems;show Zl (wpAny_typeOf (T:="tuple") #[o,C,g2] ?_);rw [if_pos (by decide)];show Zl ?_;unfold seqItems?;show Zl (wpAny_load C ?_);rw [g3];show Á (Á ?_);change wpAny _ _ (holding [z.2.1,z.2.2.2] (dictSet D z.2.1 z.2.2.2)) _ _ _;show þ (wpAny_dictSet_pairs n2 S (λ Q l t=> ?_) (by rw [Qb,Ð];rfl'));have Z:c.take (i+1)=c.take i++[z]:=by rw [Í,ez];rfl
  have H:z.2.2.1∉((c.take i).map λ z=>(z.2.2.1,z.2.2.2)).map (·.1):=by
   intro m;rw [Å] at m;let#[y,my,ey]:=Zs.mp m;have p:((c.take (i+1)).map (·.2.2.1)).Nodup:=Ă ((Ď _ _).map _) X;rw [Z,Jn,à] at p;show p.2.2 _ (Zs.mpr #[y,my,rfl]) z.2.2.1 (by simp) ey
  rw [stored_new H] at l;show Á #[plainId_quiet jL _,ih (i+1) Q _ (j+1) () G (W.frame _ _ _ J λ b g o e=> ?_) (by rw [Z,Jn];show l) λ b o g e=> ?_]
  .rw [t.2 b (λ q=>E (by rw [<- q];show g))];show e
  .rw [t.2 b (λ q=>g (by rw [q];show Ë))];show d b o (x g) (a b o g e)
theorem nM{K:Type}[DecidableEq K]{knd:PySem.KeyKind prog w K}(O:T="tuple"\/T="list"){d:ϊ (ό×ϋ×K×ϋ)}{Q:϶}(G:A.handled=none)(hx:s.heap.get? a=!o)(p:o.cls= .type T)(hd:o.dict=none)(f:o.data= .seq (d.map λ z=>Value.ref z.1).toArray n)
  (hz: ∀z∈d,knd.is z.2.2.1 z.2.1=true/\ ∃o n,s.heap.get? z.1=!o/\o.cls= .type "tuple"/\o.data= .seq ([z.2.1,z.2.2.2].toArray) n) (P:(d.map (·.2.2.1)).Nodup) (R:↑d<=sizeLine)
  (B: ∀h' M,h'.DictOf knd s.heap.objs.size (d.map λ z=>(z.2.2.1,z.2.2.2))->(∀b o,s.heap.get? b=!o->h'.get? b=!o)->Q (.ref s.heap.objs.size) { s with heap:=h',toks:=M }):
  wpAny (model prog w) A (call (.type "dict") [.ref a]) Q E s:=by
 show callType_codes (Q₁:=λ L l=>L= .ref s.heap.objs.size/\l={ s with heap:=s.heap.push { cls:= .type "dict",data:= .dict ([].toArray) } }) F.kt_called_dict (F.kt_typeCall_dict_1 _) F.entry_dict_init (kt_code_dict_new _ ⟨rfl,rfl⟩) ?_;rintro L l ⟨rfl,rfl⟩;have C:a<s.heap.objs.size:=Ì hx;have h:(s.heap.push { cls:= .type "dict",data:= .dict ([].toArray) }).DictOf knd s.heap.objs.size []:=Heap.DictOf.new s.heap;have u:(s.heap.push { cls:= .type "dict",data:= .dict ([].toArray) }).get? a=!o:=Ã _ hx;show#[h.typeIs,F.args_dict_init_2 _ _,?_];unfold Builtin.«dict.__init__»;show Zl ?_;unfold Builtin.Dict.selfAndRest;show Zl (Ĳ h.typeIs ?_);change wpAny _ _ (pure (s.heap.objs.size,[Value.ref a])) _ _ _;show Á ?_;change wpAny _ _ (Builtin.Dict.updateFrom "dict.__init__" s.heap.objs.size (.ref a) [] .none) _ _ _;unfold Builtin.Dict.updateFrom;show Zl (wpAny_typeOf (T:=T) #[o,u,p] ?_);rw [if_pos (by rcases O with rfl | rfl<;>decide)];have nk: ∀{A:ϖ}{E:϶}{s:ώ}{Q:ύ ϋ->ώ->Prop},A.handled=none->s.heap.get? a=!o->(∀h' M,(∀b ob,s.heap.get? b=!ob->h'.get? b=!ob)->Q none { s with heap:=h',toks:=M })->wpAny (model prog w) A (getAttr? (.ref a) "keys") Q E s:=by
  rcases O with rfl | rfl
  .show λ c N=>Ab c (.inl rfl) N p hd f
  .show λ c N=>Ab c (.inr rfl) N p hd f
 show Zl (nk G u λ c ab j=> ?_);rw [if_pos (show(none:ύ ϋ).isNone=true from rfl)];show Zl (Ő ?_);have q:s.heap.objs.size<c.objs.size:=Ì (j s.heap.objs.size _ (Ê _ rfl));have I:a≠c.objs.size:=ã (ž C q);have y:(d.map λ z=>Value.ref z.1).toArray.size=↑d:=by simp
 have it: ∀{Z:ϖ}{E:϶}{s:ώ}{Q:϶},s.heap=c->A.handled=none->(∀(ob:Obj) St,Walks prog w A.in1.in1 c.objs.size [c.objs.size,a] [c.objs.size] (d.map λ z=>Value.ref z.1).toArray.size (λ i v=>(d.map λ z=>Value.ref z.1).toArray[i]? =!v) St->St 0 (c.push ob)->Q (.ref c.objs.size) { s with heap:=c.push ob })->wpAny (model prog w) Z (pyIter (.ref a)) Q E s:=by
  have g:=j _ _ u;rintro Z E s Q rfl G k;rcases O with rfl | rfl
  .have t:s.heap.IsTuple a (d.map λ z=>Value.ref z.1).toArray:=#[o,g,p,n,f];show ĳ t (k _ _ (Walks.tuple (A:=A.in1.in1) G _ a I _) #[#[_,Ê _ rfl,rfl,rfl],#[o,Ã _ g,p,n,f]])
  .have t:s.heap.IsList a (d.map λ z=>Value.ref z.1).toArray:=#[o,g,p,n,f];show δ t (k _ _ (Walks.list (A:=A.in1.in1) G _ a I _) #[#[_,Ê _ rfl,rfl,rfl],#[o,Ã _ g,p,n,f]])
 show Zl (it rfl G λ io St x X=> ?_);have W : Walks prog w A.in1.in1 c.objs.size [c.objs.size, a] [c.objs.size] ↑d (λ i v => ∃ z, d[i]? = !z /\ v = .ref z.1) St :=
  { sub:=x.sub,frame:=x.frame,self:=x.self
    item:=λ i s Q E hi U B=>x.item i s Q E (by rw [y];show hi) U λ v h' M hP=>B v h' M (by
      rw [ω,Wp] at hP;let#[z,e1,e2]:=Î.mp hP;show#[z,e1,e2.symm])
    done:=λ s Q E U B=>x.done s Q E (by rw [y];show U) B }
 have H: ∀b ob,s.heap.get? b=!ob->(c.push io).get? b=!ob:=λ b ob e=>Ã _ (j b ob (Ã _ e))
 have J: ∀b ob,s.heap.get? b=!ob->b∉[s.heap.objs.size,c.objs.size]:=λ b ob e m=>by
  have:=Ì e;simp only [È,å,ĥ] at m;rcases m with rfl | rfl
  .show ć _ this
  .show ć _ (ž this q)
 show Á #[plainId_quiet jL _,G4 (s:=s) (A:=A.in1) (knd:=knd) (D:=s.heap.objs.size) (h₀:=c.push io) W ?_ (λ z m=> ?_) P R .none (λ h' Y hD hk=>#[rfl,B h' Y hD λ b ob e=>hk b ob (J b ob e) (H b ob e)]) ↑d 0 _ _ 0 rfl (æ _) X ?_ λ _ _ _ e=>e]
 .simp only [È,å,ĥ,not_or];show#[Nat.ne_of_lt q,Ģ C]
 .obtain ⟨n1,S,n',g1,g2,g3⟩:=hz z m;show#[J _ _ g1,n1,S,n',H _ _ g1,g2,g3]
 .obtain ⟨S,es,ep,ho,r⟩:=h;show#[S,es,ep,Ã _ (j _ _ ho),r]
end
end Sy
namespace L2
open PySem PySem.Spec PyProof.Rows
variable{σ:St}{v:ϋ}{w:ϕ}{a i:ό}{s1:ώ}{prog:ϓ}{R:Obj->Hp->Prop}{pins:Ϸ}{E:϶}{Q:ύ ϋ->ώ->Prop}
def Ac(K:Ϗ):ϊ V->Hp->VK->Prop:=λ xs H Q=> ∃p ys,xs=[.ref p]/\SqL K H p ys/\ ∀l (ob:Obj),ob.dict=none->H l=none->Q (.ref l) (upd H l (.frz ob (.tup ys)))
theorem Cv{X:Cx}:cB X (.type "tuple") (Ac X.K):=by
 intro a s k H y x Q I r h;let#[p,j,rfl,m,q]:=h;let#[u,rfl,w]:=vals1 r
 cases w;let#[c,i,v,n]:=I.list m;have g:=↑i;show call_tuple_list v.isList (λ d t=> ?_) (by simp only [Ù]<;>rfl');have f:Inv X a k H { s with heap:=d }:=I.kept (t':=s.toks) t;have l:Inv X a k (upd H d.objs.size (.frz { cls:= .type "tuple",data:= .seq c.toArray } (.tup j))) { s with heap:=d.push { cls:= .type "tuple",data:= .seq c.toArray } }:=
  f.laid (t':=s.toks) (λ b o e=>Ã _ e) (Ä _) (show ObjOk X.prog X.w _ _ _ (.frz _ (.tup j)) from #[Heap.get?_push_size _ rfl,n,c,i,IsTup.new _ _])
 show#[.ref d.objs.size,_,l,rfl,q _ _ rfl (f.hok.fresh (Ä _))]
def yo{X:Cx}(K:Ϗ)(a:X.K=K):cB X (.type "tuple") (Ac K):=a▸Cv
def j7(K:Ϗ):ϊ V->Hp->VK->Prop:=λ xs H Q=> ∃(a:ό)(zs:ϊ (ό×ϐ×V)),xs=[.ref a]/\((∃ob:Obj,ob.dict=none/\H a=!(.frz ob (.tup (zs.map λ z=>V.ref z.1))))\/H a=!(.lst (zs.map λ z=>V.ref z.1)))/\(∀z∈zs,SqT K H z.1 [.str z.2.1,z.2.2])/\(zs.map (·.2.1)).Nodup/\↑zs<=1000/\ ∀r,H r=none->Q (.ref r) (upd H r (.dK (zs.map λ z=>(Sum.inr z.2.1,z.2.2))))
theorem vZ{X:Cx}(C:X.calm=true):cB X (.type "dict") (j7 X.K):=by
 intro M s σ H xs us Q I r h;let#[a,d,rfl,ha,L,k,Y,q]:=h;let#[u,rfl,rx]:=vals1 r
 cases rx;let#[T,S,o,n,i,g,j,c]: ∃T,(T="tuple"\/T="list")/\ ∃(o:Obj)(n:Nat),s.heap.get? a=!o/\o.cls= .type T/\o.dict=none/\o.data= .seq (d.map λ z=>Value.ref z.1).toArray n:=by
  rcases ha with ⟨ob,j,ha⟩ | ha
  .obtain ⟨i,_,F,J,o',l,g,n,c⟩:=I.hok a _ ha;rw [i] at l
   cases l;rw [pF J] at c;show#[_, .inl rfl,_,n,i,g,j,c]
  .obtain ⟨_,F,n,J,i⟩:=(show ObjOk X.prog X.w H s.heap a (.lst (d.map λ z=>V.ref z.1)) from I.hok a _ ha);rw [pF J] at i;show#[_, .inr rfl,_,n,i,rfl,rfl,rfl]
 have K: ∀z∈d,∃t v,RelV z.2.2 v/\ ∃o n,s.heap.get? z.1=!o/\o.cls= .type "tuple"/\o.data= .seq ([.str z.2.1 t,v].toArray) n:=λ z m=>by
  let#[is,G,p1,_]:=I.tuple (L z m);let#[o,Z,C,n,U]:=p1
  cases G with
  | cons r2 rr=>
   let#[t,rfl]:=r2
   cases rr with
   | cons r3 r4=>
    cases r4;show#[t,_,r3,o,n,Z,C,U]
 have D: ∃f:ϊ (ό×ϋ×Key×ϋ),f.map (λ w=>Value.ref w.1)=d.map (λ z=>Value.ref z.1)/\f.map (·.2.2.1)=d.map (λ z=>(Sum.inr z.2.1:Key))/\KV (d.map λ z=>((Sum.inr z.2.1:Key),z.2.2)) (f.map λ w=>(w.2.2.1,w.2.2.2))/\ ∀w∈f,gZ w.2.2.1 w.2.1=true/\ ∃o n,s.heap.get? w.1=!o/\o.cls= .type "tuple"/\o.data= .seq ([w.2.1,w.2.2.2].toArray) n:=by
  clear ha k Y q c L;induction d with
  | nil=>show#[[],rfl,rfl, .nil,by simp]
  | cons z d ih=>
   let#[f,p,x,A,B]:=ih λ y my=>K y (É _ my)
   let#[t,v,G,o,n,N,O,P]:=K z Ë;show#[(z.1, .str z.2.1 t,Sum.inr z.2.1,v)::f,by rw [Ç,Ç,p],by rw [Ç,Ç,x], .cons #[rfl,G] A,λ w mw=> ?_];rcases È.mp mw with rfl | mw
   .show #[qU _ _,o,n,N,O,P]
   .show B w mw
 let#[f,p,x,A,B]:=D;rw [<- p] at c;have E:↑f=↑d:=by have:=Ö List.length p;rw [Qb,Qb] at this;show this
 show Sy.nM (knd:=bB X.prog X.w) S (I.ok.hd C) i g j c B (by rw [x,show(d.map λ z=>(Sum.inr z.2.1:Key))=(d.map (·.2.1)).map Sum.inr by rw [Å];rfl];show ļ.mpr (Ŝ (λ {a b} h e=>h (Ň e)) k)) (by rw [E,Ā];rfl') λ h' tk R W=> ?_
 show#[.ref _,_,I.laid (t':=tk) (o:= .dK (d.map λ z=>((Sum.inr z.2.1:Key),z.2.2))) W (Ä _) (show ObjOk X.prog X.w _ _ _ (.dK _) from #[by rw [Qb,Ā];rfl',?_,_,A,R]),rfl,q _ (I.hok.fresh (Ä _))];show ń.mpr (Ģ I.big)
def j8{X:Cx}(K:Ϗ)(a:X.K=K)(b:X.calm=true):cB X (.type "dict") (j7 K):=a▸vZ b
structure Drw(prog:ϓ)(w:ϕ)(i l:ό)(xs:ϔ ϋ)(St:Nat->ϒ->Prop):Prop where
 keep: ∀k h h',St k h->(∀c,c=i\/c=l-> ∀o,h.get? c=!o->h'.get? c=!o)->St k h'
 item: ∀(A:ϖ)(s:ώ) k x (Q:϶) (E:϶),St k s.heap->xs[k]? =!x->(∀h',St (k+1) h'->Heap.SameBut i s.heap h'->Q x { s with heap:=h' })->
  wpAny (model prog w) A (Builtin.SmallTypes.nextOf (.ref i)) Q E s
 stop: ∀(A:ϖ)(s:ώ) k (Q:϶) (E:϶),A.handled=none->St k s.heap->xs[k]? =none->(∀h' e,Heap.ExtBut i s.heap h'->(∃o,h'.get? e=!o/\o.cls= .type "StopIteration")->E (.ref e) { s with heap:=h' })->
  wpAny (model prog w) A (Builtin.SmallTypes.nextOf (.ref i)) Q E s
theorem Drw.but{l b:ό}{m:ϔ ϋ}{St:Nat->ϒ->Prop}(D:Drw prog w i l m St){k:Nat}{h a:ϒ}(j:St k h)(e:Heap.ExtBut b h a)(f:i≠b)(g:l≠b):St k a:=
 D.keep k h a j λ c d o q=>e c o (by rcases d with rfl | rfl;show f;show g) q
theorem G5(d:l≠i):Drw prog w i l m λ k h=>h.IsListIter i l k/\h.IsList l m where
 keep:=λ k h g c j=>#[c.1.at λ o e=>j i (.inl rfl) o e,c.2.at λ o e=>j l (.inr rfl) o e]
 item:=λ A s k x Q E c f p=>wpAny_nextOf_list_item c.1 c.2 f λ g a b=>p g #[a,c.2.extBut b.extBut d] b
 stop:=λ A s k Q E q c f n=>wpAny_nextOf_list_end q c.1 c.2 f n
theorem Ow(p:l≠i):Drw prog w i l y λ k h=>h.IsTupleIter i l k/\h.IsTuple l y where
 keep:=λ k h H j v=>#[j.1.at λ o e=>v i (.inl rfl) o e,by let#[o,e,q]:=j.2;show#[o,v l (.inr rfl) o e,q]]
 item:=λ A s k x Q E j r C=>by
  let#[b,n]:=j;let#[o,d,t,c]:=id b;let#[G,g,_,D,f]:=id n;unfold Builtin.SmallTypes.nextOf;show Zl (wpAny_callSpecial?_slot (name:=Str.ofString "__next__") b.typeIs ő (ð ő b.typeIs F.entry_tuple_iterator_next ?_ (F.args_tuple_iterator_next_1 _)));show Zl (m:=field (.ref i) 0) (ě d c (x:= .ref l) rfl ?_);change wpAny _ _ (if (Value.ref l==Value.none)=true then _ else _) _ _ s;rw [if_neg (by intro z;cases z)];show Zl (m:=field (.ref i) 1) (ě d c (x:= .int k 0) rfl ?_);show Zl (m:=seqItems? (.ref l)) (Ġ g f ?_);simp only [Ó,r];show Zl (η d c (by simp) (Á #[x,rfl,Á (C _ #[?_,n.extBut (Ą ..).extBut p] (Ą ..))]));show#[_,ĝ _ d (Obj.isFreed_of_fields (Ν c _)),(Obj.cls_mapFields ..).trans t,by rw [Ν c];simp [rawInt]]
 stop:=λ A s k Q E u j r B=>by
  let#[b,n]:=j;let#[o,d,t,c]:=id b;let#[G,g,_,D,f]:=id n;unfold Builtin.SmallTypes.nextOf;show Zl (wpAny_callSpecial?_slot (name:=Str.ofString "__next__") b.typeIs ő (ð ő b.typeIs F.entry_tuple_iterator_next ?_ (F.args_tuple_iterator_next_1 _)));show Zl (m:=field (.ref i) 0) (ě d c (x:= .ref l) rfl ?_);change wpAny _ _ (if (Value.ref l==Value.none)=true then _ else _) _ _ s;rw [if_neg (by intro z;cases z)];show Zl (m:=field (.ref i) 1) (ě d c (x:= .int k 0) rfl ?_);show Zl (m:=seqItems? (.ref l)) (Ġ g f ?_);simp only [Ó,r];show Zl (Ő (Zl (η d c (by simp) ?_)));show Zl (m:=newExc (.type "StopIteration") []) ?_;simp only [newExc,newTuple];show Zl (õ ?_ (by size_fits));show Zl (m:=firstArgMember _ _) (wpAny_of_eq (a:=Value.none) (by first | rfl | (simp only [firstArgMember];rfl)) ?_);show õ ?_ (by size_fits);simp only [raiseNew];show Zl (wpAny_handled ?_)
  first | rw [show A.in1.handled=none from u] | rw [u]
  show Zl (Á (wpAny_throw (B _ _ (((Ą ..).extBut.push _).push _) #[_,Ê _ rfl,rfl])))
section
variable{prog:ϓ}{w:ϕ}{A:ϖ}{E:϶}{s:ώ}{z TI TO i1 i2 l1 l2:ό}{k:Nat}{xs ys:ϔ ϋ}{S1 S2:Nat->ϒ->Prop}
theorem rY{a b:ϋ}(hh:A.handled=none)(D:ZipApart z TI TO i1 i2 l1 l2)(t:Drw prog w i1 l1 xs S1)(l:Drw prog w i2 l2 ys S2)
  (C:IsZip s.heap z TI TO .none) (W:IsPair s.heap TI (.ref i1) (.ref i2)) (X:IsPair s.heap TO a b) (h1:S1 k s.heap) (h2:S2 k s.heap)
  (hQ: ∀x y,xs[k]? =!x->ys[k]? =!y-> ∀h',IsZip h' z TI TO (rawInt s.heap.objs.size)->IsPair h' TO x y->S1 (k+1) h'->S2 (k+1) h'->IsPair h' s.heap.objs.size x y->
   (∀c o,c≠z->c≠TO->c≠i1->c≠i2->s.heap.get? c=!o->h'.get? c=!o)->Q (!(.ref s.heap.objs.size)) { s with heap:=h' })
  (h0:xs[k]? =none\/ys[k]? =none-> ∀h',(∀c o,c≠z->c≠TO->c≠i1->c≠i2->s.heap.get? c=!o->h'.get? c=!o)->Q none { s with heap:=h' }):
  wpAny (model prog w) A (pyNext (.ref z)) Q E s:=by
 have hT:s.TypeIs (.ref z) "zip":=#[_,C,rfl];have fin: ∀h' e,(∀c o,c≠z->c≠TO->c≠i1->c≠i2->s.heap.get? c=!o->h'.get? c=!o)->(xs[k]? =none\/ys[k]? =none)->(∃o,h'.get? e=!o/\o.cls= .type "StopIteration")->
   wpAny (model prog w) A (do if <- isInstance (.ref e) (.type "StopIteration") then pure none else throw (.ref e):Sem (ύ ϋ)) Q E { s with heap:=h' }:=λ h' e kk hn I=>by
  let#[o,ho,H]:=I;show Zl (ť (T:="StopIteration") (b:=true) #[o,ho,H] isSubtype_stop (Á (h0 hn _ kk)))
 unfold pyNext;show Zl (wpAny_attempt (wpAny_callSpecial?_slot (name:=Str.ofString "__next__") hT F.slot_zip_next (ð F.slot_zip_next hT F.entry_zip_next ?_ (F.args_zip_next_1 _))));show Zl (m:=field (.ref z) 2) (ě C rfl (x:= .bool false) rfl ?_);show Zl (m:=field (.ref z) 3) (ě C rfl (x:= .ref TI) rfl ?_);show Zl (Ġ W rfl ?_);show Zl (m:=Builtin.SmallTypes.ownedTupleIsFree (.ref z)) ?_;unfold Builtin.SmallTypes.ownedTupleIsFree;show Zl (ě C rfl (x:= .none) rfl (Á ?_));simp-iota only [ĺ];show Zl (Ő ?_);show Zl (ě C rfl (x:= .ref TO) rfl ?_);show Zl (ĉ C (by simp) λ g1 L B=> ?_);show Zl ?_;simp-iota only [List.zipIdx_cons,List.zipIdx_nil,ü,Ŧ];show Zl (Zl (wpAny_onRaise ?_));replace L:IsZip g1 z TI TO .ellipsis:=L;have r1:S1 k g1:=t.but h1 B.extBut D.i1z D.l1z
 cases hx:xs[k]? with
 | none=>
  show Zl (m:=Builtin.SmallTypes.nextOf (.ref i1)) (t.stop _ _ k _ _ hh r1 hx λ M e j I=> ?_);let#[Z,f,g]:=I;have y2:IsZip M z TI TO .ellipsis:=j _ _ D.i1z.symm L;have u:e≠z:=λ q=>by subst q;rw [y2] at f;cases f;simp at g
  show ĉ y2 (by simp) λ S _ h=>fin S e (λ c o i _ v _ q=>h.extBut _ _ i (j _ _ v (B.extBut _ _ i q))) (.inl hx) #[Z,h.extBut _ _ u f,g]
 | some x=>
  show Zl (m:=Builtin.SmallTypes.nextOf (.ref i1)) (t.item _ _ k x _ _ r1 hx λ M r2 j=>Á ?_);have o2:IsPair M TO a b:=j.extBut _ _ D.TOi1 (B.extBut _ _ D.TOz X);have q2:S2 k M:=l.but (l.but h2 B.extBut D.i2z D.l2z) j.extBut D.i12.symm D.l2i1;show Zl (Ġ o2 rfl ?_);show Zl (wpAny_updateSeq_pair o2 λ S Y h=> ?_);replace Y:IsPair S TO x b:=Y;show Zl (Ũ (Á ?_));show Zl (Zl (wpAny_onRaise ?_))
  cases hy:ys[k]? with
  | none=>
   show Zl (m:=Builtin.SmallTypes.nextOf (.ref i2)) (l.stop _ _ k _ _ hh (l.but q2 h.extBut D.TOi2.symm D.l2TO) hy λ U e p I=> ?_);let#[Z,f,g]:=I;have y4:IsZip U z TI TO .ellipsis:=p _ _ D.i2z.symm (h.extBut _ _ D.TOz.symm (j.extBut _ _ D.i1z.symm L));have u:e≠z:=λ q=>by subst q;rw [y4] at f;cases f;simp at g
   show ĉ y4 (by simp) λ d _ r=>fin d e (λ c o i G v K q=>r.extBut _ _ i (p _ _ K (h.extBut _ _ G (j.extBut _ _ v (B.extBut _ _ i q))))) (.inr hy) #[Z,r.extBut _ _ u f,g]
  | some y=>
   show Zl (m:=Builtin.SmallTypes.nextOf (.ref i2)) (l.item _ _ k y _ _ (l.but q2 h.extBut D.TOi2.symm D.l2TO) hy λ U r4 p=>Á ?_);have o4:IsPair U TO x b:=p.extBut _ _ D.TOi2 Y;show Zl (Ġ o4 rfl ?_);show Zl (wpAny_updateSeq_pair o4 λ d O r=> ?_);replace O:IsPair d TO x y:=O;show Zl (Ũ (Á (Á ?_)));show Zl (Ġ O rfl ?_);show Zl (wpAny_newTuple ?_);have sz:d.objs.size=s.heap.objs.size:=by rw [r.1,p.1,h.1,j.1,B.1]
   have y5:IsZip d z TI TO .ellipsis:=r.extBut _ _ D.TOz.symm (p.extBut _ _ D.i2z.symm (h.extBut _ _ D.TOz.symm (j.extBut _ _ D.i1z.symm L)));have c5: ∀c o,c≠z->c≠TO->c≠i1->c≠i2->s.heap.get? c=!o->d.get? c=!o:=λ c o i G v K e=>
    r.extBut _ _ G (p.extBut _ _ K (h.extBut _ _ G (j.extBut _ _ v (B.extBut _ _ i e))))
   have r5:S1 (k+1) d:=t.but (t.but (t.but r2 h.extBut D.TOi1.symm D.l1TO) p.extBut D.i12 D.l1i2) r.extBut D.TOi1.symm D.l1TO;have p5:S2 (k+1) d:=l.but r4 r.extBut D.TOi2.symm D.l2TO;have J:z<d.objs.size:=Ì y5;show Zl (m:=Builtin.SmallTypes.ownedTupleHandOut (.ref z) (.ref d.objs.size)) ?_;unfold Builtin.SmallTypes.ownedTupleHandOut;show Zl (ĉ (show IsZip (d.push { cls:= .type "tuple",data:= .seq ([x,y].toArray) }) z TI TO .ellipsis from Ã _ y5) (by simp) λ g7 y7 t7=> ?_);replace y7:IsZip g7 z TI TO (rawInt d.objs.size):=y7;show ĉ y7 (by simp) λ N R t8=> ?_
   replace R:IsZip N z TI TO (rawInt d.objs.size):=R;have P: ∀c o,c≠z->d.get? c=!o->N.get? c=!o:=λ c o n e=>t8.extBut _ _ n (t7.extBut _ _ n (Ã _ e))
   have w8:IsPair N d.objs.size x y:=t8.extBut _ _ (Ģ J) (t7.extBut _ _ (Ģ J) (Ê _ rfl));rw [sz] at R w8;show Á #[_,rfl,Á ?_];change Q (!(.ref d.objs.size)) _;rw [sz];show hQ x y hx hy N R (P _ _ D.TOz O) (t.keep _ _ _ r5 λ c H o e=>P c o (by rcases H with rfl | rfl;show D.i1z;show D.l1z) e) (l.keep _ _ _ p5 λ c H o e=>P c o (by rcases H with rfl | rfl;show D.i2z;show D.l2z) e) w8 λ c o i G v K e=>P c o i (c5 c o i G v K e)
end
abbrev zo1(h:ϒ)(j1:Obj):ϒ:=h.push j1
abbrev zo2(h:ϒ)(j1 j2:Obj):ϒ:=(zo1 h j1).push j2
abbrev zo3(h:ϒ)(j1 j2:Obj):ϒ:=(zo2 h j1 j2).push { cls:= .type "tuple",data:= .seq ([.ref h.objs.size, .ref (zo1 h j1).objs.size].toArray) }
abbrev zo4(h:ϒ)(j1 j2:Obj):ϒ:=(zo3 h j1 j2).push { cls:= .type "tuple",data:= .seq ([.none, .none].toArray) }
abbrev X8(h:ϒ)(j1 j2:Obj):ϒ:=(zo4 h j1 j2).push { cls:= .type "zip",data:= .fields ([.none, .bool false, .bool false, .ref (zo2 h j1 j2).objs.size, .ref (zo3 h j1 j2).objs.size].toArray) }
abbrev w5(l:ό):Obj:={ cls:= .type "tuple_iterator",data:= .fields ([.ref l, .int 0 0].toArray) }
theorem mD{h:ϒ}{c:ό}{o d:Obj}(e:h.get? a=!o)(b:h.get? c=!d)(n:o.cls≠d.cls):a≠c:=λ q=>by
 subst q;rw [e] at b;cases b;show n rfl
def Ox(lo:Int)(n:Nat):It:=#[λ i _=>i<n,λ i H x H'=>H'=H/\x= .int (lo-i),λ i _=>n<=i]
theorem w6{P:ϓ}{K:Ϗ}(c:ό)(lo:Int)(n:Nat):Turn P w K tg (Ox lo n) [c] c (λ i h=>IsRangeIter h c (lo+(i:Nat)*(-1)) ((n:Int)-(i:Nat)) (-1)) where
 mem:=by simp
 obj:=λ i h a b f=>by
  have e:b=c:=by simpa using f
  subst e;show⟨_,a,λ v z=>by
   have O:Data.fields _=Data.cell v:=z
   cases O⟩
 keep:=λ i h j a k=>k c (by simp) _ a
 item:=by
  intro X y C x A i d s F H E I l a B;subst y C x;let#[m,p,L,q,r,u]:=l c (by simp);have W:=Walks.range (prog:=X.prog) (w:=X.w) (I.ok.hd A) c lo (-1) n;show W.item i s _ _ B a λ v j D M g N=> ?_
  let#[t,rfl]:=M;have G:Inv X d F H { s with heap:=j,toks:=D }:=I.turned (λ b o f e=>N b o (by simpa using f) e) m p q r u;show⟨_,rfl,oG (s:={ s with heap:=j,toks:=D }) (n:="range_iterator") g rfl rfl (by decide) ⟨.int (lo-i),H,G,⟨t,?_⟩,⟨rfl,rfl⟩,g,λ b f=>(l b f).1⟩⟩;rw [show lo+(i:Int)*(-1)=lo-(i:Int) by rfl']
 done:=by
  intro X y C x A i d s F H E I l a B;subst y C x;let#[m,p,L,q,r,u]:=l c (by simp);show Ψ (I.ok.hd A) a (by have:n<=i:=B;rfl') λ j J=>#[rfl,I.turned (t':=s.toks) (λ b o f e=>J b o f e) m p q r u]
 self:=λ _ _ _ _ _ a h=>Ω a h
theorem lJ(a b:Int):Builtin.Range.rangeSize a b (-1)=if a>b then a-b else 0:=by
 unfold Builtin.Range.rangeSize;simp-iota only [show ¬ ((-1:Int)>0) by decide,ą,Int.neg_neg,Int.ediv_one];split<;>rfl'
theorem G6{a b:Int}(e: -(2^62)<=a)(c:a<2^62)(f: -(2^62)<=b)(d:b<2^62):Builtin.Range.small a b (-1)=true:=by
 unfold Builtin.Range.small;rw [lJ];simp-iota only [Builtin.Range.rangeFitsLong,Ć,Bool.or_eq_true,decide_eq_true_eq,beq_iff_eq,show ¬ ((-1:Int)>0) by decide,ą];split<;>rfl'
abbrev QZ(ta:TA):TI:=λ σ H R=>ta σ H λ vs H1=> ∃i j:Int,vs=[.int i, .int j, .int (-1)]/\(-(2^62)<=i/\i<2^62/\ -(2^62)<=j/\j<2^62)/\R (Ox i (i-j).toNat) H1
theorem Cw{X:Cx}{R:It->Hp->Prop}{lo a:Int}{v:Tok}{d:Nat}(I:Inv X pins σ H s)(h: -(2^62)<=lo)(i:lo<2^62)(j: -(2^62)<=a)(k:a<2^62)
  (q:R (Ox lo (lo-a).toNat) H):wpAny (model X.prog X.w) X.A (pyIter (.ref s.heap.objs.size)) (PIE X pins σ tg R) E { s with heap:=s.heap.push { cls:= .type "range",data:= .fields ([.int lo t, .int a u, .int (-1) v].toArray) },toks:=d }:=by
 show wpAny_pyIter_range (IsRange.new ..) (G6 h i j k) ?_;have c:Inv X pins σ H { s with heap:=s.heap.push { cls:= .type "range",data:= .fields ([.int lo t, .int a u, .int (-1) v].toArray) },toks:=d }:=I.kept λ b o e=>Ã _ e
 show⟨(s.heap.push { cls:= .type "range",data:= .fields ([.int lo t, .int a u, .int (-1) v].toArray) }).objs.size,[(s.heap.push { cls:= .type "range",data:= .fields ([.int lo t, .int a u, .int (-1) v].toArray) }).objs.size],_,_,H,rfl,
  c.kept (t':=d) λ b o e=>Ã _ e,w6 _ lo (lo-a).toNat,?_,λ b l=> ?_,q⟩
 .have f:lo+((0:Nat):Int)*(-1)=lo:=by simp
  have g:(((lo-a).toNat:Nat):Int)-((0:Nat):Int)=Builtin.Range.rangeSize lo a (-1):=by rw [lJ];split<;>rfl'
  change IsRangeIter _ _ (lo+((0:Nat):Int)*(-1)) ((((lo-a).toNat:Nat):Int)-((0:Nat):Int)) (-1);rw [f,g];show Ê _ rfl
 .have e:b=(s.heap.push { cls:= .type "range",data:= .fields ([.int lo t, .int a u, .int (-1) v].toArray) }).objs.size:=by simpa using l
  subst e;show c.fpOk (Ä _) (c.hok.fresh (Ä _))
theorem Cy{X:Cx}{a b c:Expr}(o:Gl X "range")(u:X.mg "range"=none)(n:PA X [a,b,c] l)(v:starEach [a,b,c] X.env=[(false,eval a X.env),(false,eval b X.env),(false,eval c X.env)]:=by rfl)(d:starEach [b,c] X.env=[(false,eval b X.env),(false,eval c X.env)]:=by rfl):
  PI X tg (.Call (.Name "range" p) [a,b,c] [] g) (QZ l):=by
 intro f s B H R I h;show Call_ (gM I o u boot_range (ă (bF (n g f s B H _ I h) λ F D ⟨G,C,m,z,k⟩=> ?_) (by rw [v,d]) (by rw [d];rfl)));let#[i,j,e,#[k,w,x,y],q]:=k;subst e
 cases z with
 | cons r rr=>
  cases rr with
  | cons r' rr=>
   cases rr with
   | cons r'' rr=>
    cases rr;let#[t,rfl]:=r;let#[E,rfl]:=r';let#[A,rfl]:=r'';show call_range_3 (by decide) (Cw m k w x y q) (.inl (PyProof.noPylong_small (by decide)))
def ug:V->ϊ V->Hp->VK->Prop:=λ x vs H Q=> ∃s y:ϐ,x= .str s/\vs=[.str y]/\(↑y==0)=false/\↑s+2<=sizeLine/\ ∀p,H p=none->Q (.ref p) (upd H p (.lst ((Txt.split s y).map V.str)))
theorem rZ: ∀(l:ϊ (ϐ×Tok)),Vals ((l.map (·.1)).map V.str) (strValues l)
 | []=> .nil
 | a::l=> .cons #[a.2,rfl] (rZ l)
section
variable{X:Cx}
open Builtin Builtin.Str in
theorem wg:NB X "str.split" ug:=by
 intro a s n H x w v r Q I m j h;let#[z,y,rfl,rfl,f,p,q]:=h;let#[t,rfl]:=m;let#[u,rfl,i]:=j.one;let#[u,rfl]:=i;have d:↑(partsBetween z (occurrences z y 0 ↑z (↑z+1)) ↑y)<=sizeLine:=by
  have:=StrLaws.occ_length_le z y 0 ↑z (↑z+1);rw [length_partsBetween];rfl'
 have g:↑(Txt.split z y)<=sizeLine:=by
  unfold Txt.split;split
  .show (by decide:1<=sizeLine)
  .split
   .show (by decide:1<=sizeLine)
   .show d
 have fin: ∀(l:ϊ (ϐ×Tok))(k:Nat),l.map (·.1)=Txt.split z y->EP X a n Q (.ref s.heap.objs.size) { s with heap:=s.heap.push { cls:= .type "list",data:= .seq (strValues l).toArray },toks:=k }:=by
  intro l k e;show#[.ref s.heap.objs.size,_,I.laid (t':=k) (o:= .lst ((Txt.split z y).map V.str)) (λ b ob q=>Ã _ q) (Ä _) ?_,rfl,q _ (I.hok.fresh (Ä _))];show#[by rw [Qb];show g,_,0,e▸rZ l,Ê _ rfl]
 cases c1:(decide (↑z<↑y)||decide (strKind z<strKind y)) with
 | true=>
  show Š F.slot_str_split (Ŷ _ _ _) F.entry_str_split (F.args_str_split_2 _ _) (meets_str_split_cannot_occur z y t u c1) ?_;show fin [(z,t)] s.toks (if_pos c1).symm
 | false=>
  cases c2:(occurrences z y 0 ↑z (↑z+1)).isEmpty with
  | true=>
   show Š F.slot_str_split (Ŷ _ _ _) F.entry_str_split (F.args_str_split_2 _ _) (meets_str_split_not_found z y t u c1 f c2) ?_;show fin [(z,t)] s.toks ((if_neg (ne_true_of_eq_false c1)).trans (if_pos c2)).symm
  | false=>
   show Š F.slot_str_split (Ŷ _ _ _) F.entry_str_split (F.args_str_split_2 _ _) (meets_str_split_sep z y t u c1 f c2 () d) ?_;have c:=fin (numbered s.toks (partsBetween z (occurrences z y 0 ↑z (↑z+1)) ↑y));rw [<- strsFrom_eq] at c;show c _ ((numbered_texts _ _).trans ((if_neg (ne_true_of_eq_false c1)).trans (if_neg (ne_true_of_eq_false c2))).symm)
end
section
theorem pairs_at{a:PySem.KeyKind P w Key}(i:Nat)(e:DictEntry)(p:Pairs a b us)(h:b[i]? =!e): ∃u,us[i]? =!u/\a.is u.1 e.key=true:=by
 induction p generalizing i with
 | nil=>cases h
 | cons r _ _ ih=>
  cases i with
  | zero=>cases h;show#[_,rfl,r]
  | succ i=>show ih i h
theorem pairs_len{a:PySem.KeyKind P w Key}(p:Pairs a b us):↑b=↑us:=by
 induction p with
 | nil=>rfl
 | cons _ _ _ ih=>show Ö (· +1) ih
end
theorem Oz(h:gZ k v=true):RelV (kV k) v:=by
 rcases bC h with ⟨i,t,rfl,rfl⟩ | ⟨x,t,rfl,rfl⟩
 .show #[t,rfl]
 .show #[t,rfl]
def yp{α:Type}(c:α->V)(od:Obj)(D:HO)(a:ό)(zs:ϊ α):It where
 go:=λ i H=>H a=!(.frz od D)/\i<↑zs
 yld:=λ i H v H'=>H'=H/\ ∃p,zs[i]? =!p/\v=c p
 stop:=λ i H=>H a=!(.frz od D)/\↑zs<=i
abbrev iKG{α:Type}(c:α->V)(O:ό->ϊ α->HO)(tl:TE):TI:=λ σ H R=>tl σ H λ x H1=> ∃a zs,x= .ref a/\((H1 a=!(O a zs)/\ ∀od,R (yp c od (O a zs) a zs) (upd H1 a (.frz od (O a zs))))\/ ∃od,H1 a=!(.frz od (O a zs))/\R (yp c od (O a zs) a zs) H1)
def XS(P:ϓ)(w:ϕ){α:Type}(c:α->V)(O:ό->ϊ α->HO):Prop:= ∀H h a zs,ObjOk P w H h a (O a zs)->Fz (O a zs)/\ ∃o es ep,h.get? a=!o/\o.ExactDict/\(a==sysModules)=false/\o.data= .dict es ep/\es.size=↑zs/\ ∀(i:Nat) p,zs[i]? =!p-> ∃e,es[i]? =!e/\RelV (c p) e.key
theorem yq{P:ϓ}{K:Ϗ}{α:Type}{c:α->V}{O:ό->ϊ α->HO}(ky:XS P w c O)(m a:ό){B:Obj}{C:ϊ α}{es:ϔ DictEntry}{ep:Nat}(f:B.data= .dict es ep):Turn P w K tg (yp c B (O a C) a C) [m] m (λ i h=>h.IsKeyIter m a i es.size ep) where
 mem:=by simp
 obj:=λ i h l b j=>by
  let#[o,e,c,d]:=l;rw [Zp.mp j];show#[o,e,λ v z=>by rw [d] at z;cases z]
 keep:=λ i h x ⟨o,e,r⟩ k=>#[o,k m (by simp) o e,r]
 item:=by
  intro X S hw R T i g s σ H E I y l Y;subst S hw R;let#[D,A]:=Y;let#[t,ok]:=(show ObjOk X.prog X.w H s.heap a (.frz B (O a C)) from I.hok a _ D);let#[_,o,G,F,p,_,_,q,Z,hv]:=ky _ _ _ _ ok;rw [t] at p
  cases p;rw [f] at q
  cases q;let#[J,L,f2,M,N,Q]:=y m (by simp);show lH (I.ok.hd T) l t f (λ hs x u hs=> ?_) λ n=>absurd A ()
  have I1:Inv X g σ H { s with heap:=x,toks:=s.toks }:=I.turned (λ b o j e=>hs.extBut b o j e) J L M N Q;let#[o,e,U,d]:=id u;let#[e',h1,h2]:=hv i _ (Qr A);rw [ò ()] at h1
  cases h1;show⟨_,rfl,oG (s:={ s with heap:=x }) e U d (by decide) ⟨_,H,I1,h2,⟨rfl,_,Qr A,rfl⟩,u,λ b j=>(y b j).1⟩⟩
 done:=by
  intro X S hw R T i g s σ H E I y l Y;subst S hw R;let#[D,A]:=Y;let#[t,ok]:=(show ObjOk X.prog X.w H s.heap a (.frz B (O a C)) from I.hok a _ D);let#[_,o,G,F,p,_,_,q,Z,hv]:=ky _ _ _ _ ok;rw [t] at p
  cases p;rw [f] at q
  cases q;let#[J,L,f2,M,N,Q]:=y m (by simp);show lH (I.ok.hd T) l t f (λ n=>absurd n ()) λ _ x kk=>#[rfl,I.turned (t':=s.toks) (λ b o j e=>kk b o j e) J L M N Q]
 self:=λ _ _ _ _ _ l h=>wpAny_pyIter_keyiter l h
theorem G7{X:Cx}{b:Hp}{j:Type}{c:j->V}{O:ό->ϊ j->HO}{e:ϊ j}(l:XS X.prog X.w c O)(f:Inv X pins σ b s1)
  (q:(b a=!(O a e)/\ ∀od,R od (upd b a (.frz od (O a e))))\/ ∃od,b a=!(.frz od (O a e))/\R od b):
  ∃od H2 es ep,Inv X pins σ H2 s1/\H2 a=!(.frz od (O a e))/\R od H2/\s1.heap.get? a=!od/\od.ExactDict/\(a==sysModules)=false/\od.data= .dict es ep:=by
 rcases q with ⟨ea,q⟩ | ⟨od,ea,q⟩
 .obtain ⟨m,o,es,ep,d,h,i,g,_⟩:=l _ _ _ _ (f.hok a _ ea);show#[o,_,es,ep,f.freeze ea d m,aa,q o,d,h,i,g]
 .obtain ⟨k,n⟩:=(show ObjOk X.prog X.w b s1.heap a (.frz od (O a e)) from f.hok a _ ea);let#[_,o,es,ep,d,h,i,g,_]:=l _ _ _ _ n;rw [k] at d
  cases d;show#[_,_,es,ep,f,ea,q,k,h,i,g]
theorem wj{X:Cx}{t:Type}{c:t->V}{O:ό->ϊ t->HO}(p:XS X.prog X.w c O)(z:PE X l tl):PI X tg l (iKG c O tl):=by
 intro d s C H R I h;show bF (z d s C H _ I h) λ v j ob=> ?_
 let#[x,D,u,B,A]:=ob;let#[a,r,rfl,q]:=A
 cases B;let#[i,k,G,F,f,E,q,n,w,g,m]:=G7 (R:=λ i k=>R (yp c i (O a r) a r) k) p u q;show pD g #[i,n,w.1] n m ?_;show#[j.heap.objs.size,[j.heap.objs.size],_,_,_,rfl,f.kept (t':=j.toks) λ b o e=>Ã _ e,yq p _ a m,#[_,Ê _ rfl,rfl,rfl],λ b y=> ?_,q];rw [Zp.mp y];show f.fpOk (Ä _) (f.hok.fresh (Ä _))
abbrev G8:=iKG (λ p:Key×V=>kV p.1) λ _ kvs=> .dK kvs
theorem U4:XS P w (λ p:Key×V=>kV p.1) λ _ kvs=> .dK kvs:=by
 rintro H h a kvs ⟨_,e,l,b,o,c,q,m,r,n,_,f,_⟩;have v:c.size=↑l:=by rw [<- Ċ];show pairs_len f
 have C:↑kvs=↑l:=Ğ b;show#[trivial,o,c,q,m,r,e,n,(),λ i p d=> ?_];have s:i<↑kvs:=(À.mp d).1;let#[#[k,x],#[A,y],t,z,B,_]:=iy i b s;rw [t] at d
 cases d;let#[u,g,j]:=pairs_at i (c[i]'(by rfl')) f (by rw [ø,ò]);rw [z] at g
 cases g;rw [kj] at j;show#[_,ò (),by rw [show k=A from B];show Oz j]
def G9{X:Cx}(a:PE X l tl):PI X tg l (G8 tl):=wj U4 a
end L2
end
section
namespace HT
open PySem PySem.Spec PyProof.Rows
def jR{s:ώ}{t e:ό}{g i:ϋ}{lo:ύ Int}(a:IsTup s.heap t items)(f:s.heap.IsSliceOf e g i .none)(o:IsPart g lo)(p:IsPart i hi)
  (j:eF items.size 0 lo=0) (k:eF items.size items.size hi=items.size) (h:Q (.ref t) s):wpAny (model prog w) A (getItem (.ref t) (.ref e)) Q E s:=by
 let#[n,d,c,m]:=id f;have b:s.TypeIs (.ref e) "slice":=#[n,d,c];unfold getItem;try with_reducible show þ ?_
 first | show Zl (Á ?_) | skip
 show Zl (wpAny_sequenceKey a.typeIs (by decide) ?_);show Zl (wpAny_callSpecial?_slot (name:=Str.ofString "__getitem__") a.typeIs į (ð į a.typeIs entry_tuple_getitem ?_ (args_tuple_getitem _ _)));change wpAny _ _ (Builtin.Tuple.tupleItemsOf (.ref t) >>= _) _ _ s;show Zl (tupleItemsOf_ a (Zl (wpAny_typeOf b ?_)));rw [if_pos (by decide)];show Zl (ik f o p ?_);change wpAny _ _ (if (((eF items.size 0 lo:Nat):Int)==0&&(1:Int)==1&&(eF items.size items.size hi-eF items.size 0 lo)==items.size)=true then _ else _) _ _ s;rw [if_pos (by rw [j,k];simp)];have l:s.TypeIs (.ref t) "tuple":=a.typeIs;show Zl ?_;unfold Builtin.Tuple.tupleIsExact;show Zl (wpAny_typeOf l (Á ?_));rw [if_pos (by decide)];show Zl (Ő (Á #[_,rfl,Á h]))
end HT
namespace L2
open PySem PySem.Spec PyProof.Rows
def wk(K:Ϗ):V->ύ Int->ύ Int->Hp->VK->Prop:=λ x lo hi H Q=> ∃a xs,x= .ref a/\SqT K H a xs/\ ∀p H',(p=a/\H'=H/\il xs lo hi=xs\/H p=none/\H'=upd H p (.tup (il xs lo hi)))->SqT K H' p (il xs lo hi)->Q (.ref p) H'
def OD{X:Cx}:Te X (wk X.K):=by
 intro f s z H x v w y lo g u Q I o k m n h;let#[a,d,rfl,i,q]:=h;by_cases c:HT.eF ↑d 0 lo=0/\HT.eF ↑d ↑d g=↑d
 .cases o;let#[j,r,l,A]:=I.tuple i;have b:j.toArray.size=↑d:=by rw [Ù];show r.length.symm
  show#["tuple",_,PyProof.Rows.slot_tuple_getitem.lookup,l.typeIs,?_];have e:il d lo g=d:=by
   unfold il;rw [c.1,c.2,Ź,Nat.sub_zero,Õ]
  show HT.jR l k m n (by rw [b];show c.1) (by rw [b];show c.2) #[.ref a,H,I,rfl,q a H (.inl #[rfl,rfl,e]) ?_];rw [e];show i
 .show Tf f s z H (.ref a) v w y lo g u Q I o k m n #[a,d,rfl,i,c,λ p t=>q p _ (.inr #[t,rfl]) (SqT.of aa)]
def lK{X:Cx}(K:Ϗ)(a:X.K=K):Te X (wk K):=a▸OD
def nU:V->ϊ V->Hp->VK->Prop:=λ x vs H Q=> ∃s y:ϐ,x= .str s/\vs=[.str y]/\↑s<=sizeLine/\Q (.str (Txt.rstripChars s y)) H
section
variable{X:Cx}
theorem su:NB X "str.rstrip" nU:=by
 intro a s j H x i v g Q I e d h;let#[z,y,rfl,rfl,b,q]:=h;let#[t,rfl]:=e;let#[u,rfl,c]:=d.one;let#[f,rfl]:=c;show SC.rstripChars (λ f k=>#[.str _,H,I.tok _,#[_,rfl],q]) b
end
abbrev Ga(tk tv:TE):TE:=λ σ H Q=> ∀p,H p=none->tk σ (upd H p (.dT [])) λ x H1=>tv σ H1 λ v H2=>H2 p=!(.dT [])/\ ∃k b,x= .ref b/\H2 b=!(.tup (k.map kV))/\Q (.ref p) (upd H2 p (.dT [(k,v)]))
def Gb{X:Cx}(Z:X.A.units+1<cLine)(P:PE X w A)(T:PE X C B):PE X (.Dict [!w] [C] f) (Ga A B):=by
 intro i s W H Q I q;have R:=I.hok.fresh (Ä s.heap.objs.size);have D:=I.laid (a:=s.heap.objs.size) (o:= .dT []) (h':=s.heap.push { cls:= .type "dict",data:= .dict ([].toArray) }) (t':=s.toks) (λ _ _ q=>Ã _ q) (Ä _) (vH s.heap I.big);show wpAny_Dict_any rfl rfl (by simp) (by simp) (bF (vJ (pos:=f) P T zQ i _ W _ (λ y g=>match y with | [(x,v)]=>g s.heap.objs.size=!(.dT [])/\ ∃k b,x= .ref b/\g b=!(.tup (k.map kV))/\Q (.ref s.heap.objs.size) (upd g s.heap.objs.size (.dT [(k,v)])) | _=>False) D (q _ R)) λ ws s2 ⟨y,g,j,d,m⟩=> ?_)
 cases d with
 | nil=>show m.elim
 | @cons a c as cs h t=>
  cases t with
  | cons=>show m.elim
  | nil=>
  let#[x,v]:=a;let#[E,Y]:=c;let#[e,k,b,r,n,U]:=m;dsimp only at h r;subst r
  cases (show E=Value.ref b from h.1);let#[z,O,xs,d,F]:=oY j.hok e;unfold storeAll;rw [ü];show Zl (Zl (wpAny_dictSet_heap (hsz:=by rw [<- Ğ d];show z) (by change X.A.units<cLine;rfl') (jw j.hok n) F λ h' l S=>Á ?_));change wpAny _ _ (forIn [] PUnit.unit _) _ _ _;rw [Ŧ];let#[q,J,G,u,K,L,M,_,N]:=l;show Á #[.ref s.heap.objs.size,upd g s.heap.objs.size (.dT [(k,v)]),iZ j (by rw [e];show True.intro) S ⟨q,u⟩ ⟨(by change(1:Nat)<=sizeLine;rw [Ā];rfl'),O,_,(d.put k n h.2).keeps λ c ys p=> ?_,q,J,G,u,K,L,M,N⟩,rfl,U];rw [au (fj p e (λ z=>nomatch z))];show p
end L2
end
section
namespace Nk
open PySem PySem.Spec PyProof.Rows
variable{a b:ό}{ks:ϊ Int}{Q:ϑ->ώ->Prop}
abbrev pH:=Int×Int×ϊ Int
variable{k x y:pH}
section
variable{prog:ϓ}{w:ϕ}{s:ώ}
def IsSt(prog:ϓ)(w:ϕ)(h:ϒ)(k:pH)(a:ό):Prop:= ∃o n v1 v2 b,h.get? a=!o/\o.cls= .type "tuple"/\o.data= .seq ([v1,v2, .ref b].toArray) n/\(intKind prog w).is k.1 v1=true/\(intKind prog w).is k.2.1 v2=true/\IsTupleKey (intKind prog w) h k.2.2 b
theorem IsSt.typeIs(x:IsSt prog w s.heap k a):s.TypeIs (.ref a) "tuple":=by
 let#[o,_,_,_,_,c,b,_]:=x;show#[o,c,b]
theorem IsSt.inj(r:IsSt prog w h x a)(s:IsSt prog w h y a):x=y:=by
 let#[o,n,v1,v2,b,q,_,p,f,g,i]:=r;let#[t,B,C,D,A,d,_,c,j,k,l]:=s;obtain rfl:o=t:=Þ (q.symm.trans d);rw [p] at c;injection c with e1 _
 have e:=Ö Array.toList e1;simp-iota only [List.cons.injEq,and_true] at e;let#[rfl,rfl,m]:=e
 cases m;have z:=i.inj l;have u:=(intKind prog w).inj _ _ _ f j;have v:=(intKind prog w).inj _ _ _ g k;show Prod.ext u (Prod.ext v z)
theorem IsSt.keeps{es ep}(x:IsSt prog w h k a)(j:h.get? d=!o)(i:o.data= .dict es ep)(l:Heap.SameBut d h g):IsSt prog w g k a:=by
 let#[m,n,v1,v2,b,e,s,c,p,q,r]:=x;have f:a≠d:=by
  rintro rfl;obtain rfl:m=o:=Þ (e.symm.trans j);rw [i] at c;show nomatch c
 show#[m,n,v1,v2,b,(l.2 a f).trans e,s,c,p,q,r.keeps j i l]
def sy(cs:ϊ Int):Int:=reduceHash (Builtin.Tuple.tupleHashOf (cs.map hashInt))
def wu(k:pH):Int:=reduceHash (Builtin.Tuple.tupleHashOf [hashInt k.1,hashInt k.2.1,sy k.2.2])
theorem OJ{Q:Int->ώ->Prop}(r:A.units+1<cLine)(i:IsSt prog w s.heap k a)(h:Q (wu k) { s with toks:=s.toks+(↑k.2.2+4) }):wpAny (model prog w) A (pyHash (.ref a)) Q E s:=by
 have d:=i.typeIs;let#[o,n,v1,v2,b,q,_,p,j,l,m]:=i;unfold pyHash
 first | unfold pyHashByItsType | skip
 first | show Zl (wpAny_cRoomFor_or (.inr ()) ?_) | skip
 show Zl (Θ d F.slot_tuple_hash.lookup ?_);change wpAny _ _ (if (some (Value.builtin "tuple.__hash__")==!Value.none)=true then _ else _) Q E s;rw [if_neg (by rw [beq_builtin_none];show Ñ)];show Zl (Θ d F.slot_tuple_hash.lookup ?_);change wpAny _ _ (callSpecialIfBoundUnlessNone? (.ref a) "__hash__" _ >>= _) Q E s;show Zl (wpAny_callSpecialIfBoundUnlessNone?_slot d F.slot_tuple_hash (ð F.slot_tuple_hash d F.entry_tuple_hash ?_ (F.args_tuple_hash_1 _)));change wpAny _ _ (Builtin.Tuple.tupleItemsOf (.ref a) >>= _) _ _ s;show Zl (Ū q p ?_);show Zl ?_;rw [<- Array.forIn_toList];change wpAny _ _ (forIn [v1,v2,Value.ref b] _ _) _ _ s;have g:A.in1.units<cLine:=by change A.units+1<cLine;show r
 rw [ü];show Zl (Zl ((intKind prog w).pyHash j (Á ?_)));change wpAny _ _ (forIn [v2,Value.ref b] _ _) _ _ _;rw [ü];show Zl (Zl ((intKind prog w).pyHash l (Á ?_)));change wpAny _ _ (forIn [Value.ref b] _ _) _ _ _;rw [ü];show Zl (Zl (wpAny_pyHash_tuple (knd:=intKind prog w) g m (Á ?_)));change wpAny _ _ (forIn [] _ _) _ _ _;rw [Ŧ];show Á ?_;change wpAny _ _ (retInt (Builtin.Tuple.tupleHashOf [hashInt k.1,hashInt k.2.1,sy k.2.2])) _ _ _;show wpAny_ret_mkInt ?_;change wpAny _ _ (if (decide (-(2:Int)^63<=Builtin.Tuple.tupleHashOf [hashInt k.1,hashInt k.2.1,sy k.2.2])&&decide (Builtin.Tuple.tupleHashOf [hashInt k.1,hashInt k.2.1,sy k.2.2]<2^63))=true then _ else _) Q E _;have c: ∀x:Nat,x=s.toks+(↑k.2.2+4)->Q (wu k) { s with toks:=x }:=λ x e=>by rw [e];show h
 unfold wu at c;unfold reduceHash at c;by_cases f:(decide (-(2:Int)^63<=Builtin.Tuple.tupleHashOf [hashInt k.1,hashInt k.2.1,sy k.2.2])&&decide (Builtin.Tuple.tupleHashOf [hashInt k.1,hashInt k.2.1,sy k.2.2]<2^63))=true
 .rw [if_pos f];rw [if_pos f] at c;show Á (c _ (by dsimp only;rfl'))
 .rw [if_neg f];rw [if_neg f] at c;show Zl (Ő (Á (c _ (by dsimp only;rfl'))))
theorem yr(J:A.units<cLine)(K:IsSt prog w s.heap x a)(C:IsSt prog w s.heap y b)(h:P (.done (.ret (.bool (decide (x=y))))) s):
  wpAny (model prog w) A (Builtin.«tuple.__eq__» #[[.ref a, .ref b],[]]) P E s:=by
 have j:=C.typeIs;let#[R,O,v1,v2,c,m,_,k,p,r,t]:=K;let#[ob,Q,L,D,d,n,_,l,u,v,B]:=C;change wpAny _ _ (isInstance (.ref b) (.type "tuple") >>= _) _ _ s;show Zl (ť j ų ?_);simp-iota only [Ĕ,á,ą];show Zl (Ū m k ?_);show Zl (Ū n l ?_);show Zl ?_;change wpAny _ _ (forIn [(v1,L),(v2,D),(Value.ref c,Value.ref d)] _ _) _ _ s;let#[F,G,M]:=x;let#[H,I,N]:=y;dsimp only at p r t u v B;have o: ∀{q:ϑ},q=false->P (.done (.ret (.bool q))) s->P (.done (.ret (.bool false))) s:=λ e h=>e▸h
 rw [ü];show Zl (Zl ((intKind prog w).eqBool (a:=F) (b:=H) p u ?_));by_cases f:F=H
 .subst f;rw [Ø rfl];simp-iota only [Ĕ,á,ą];show Á ?_;change wpAny _ _ (forIn [(v2,D),(Value.ref c,Value.ref d)] _ _) _ _ s;rw [ü];show Zl (Zl ((intKind prog w).eqBool (a:=G) (b:=I) r v ?_));by_cases g:G=I
  .subst g;rw [Ø rfl];simp-iota only [Ĕ,á,ą];show Á ?_;change wpAny _ _ (forIn [(Value.ref c,Value.ref d)] _ _) _ _ s;rw [ü];show Zl (Zl (wpAny_eqBool_tuple (knd:=intKind prog w) J t B ?_));by_cases i:M=N
   .subst i;rw [Ø rfl];simp-iota only [Ĕ,á,ą];show Á ?_;change wpAny _ _ (forIn [] _ _) _ _ s;rw [Ŧ];show Á ?_;rw [Ø rfl] at h;show Á h
   .rw [Ú i];simp-iota only [Bool.not_false,ĺ];show Zl (Á (Á (Á (Á (o (Ú λ z=>i (by cases z;rfl)) h)))))
  .rw [Ú g];simp-iota only [Bool.not_false,ĺ];show Zl (Á (Á (Á (Á (o (Ú λ z=>g (by cases z;rfl)) h)))))
 .rw [Ú f];simp-iota only [Bool.not_false,ĺ];show Zl (Á (Á (Á (Á (o (Ú λ z=>f (by cases z;rfl)) h)))))
theorem XX(g:A.units+1<cLine)(d:IsSt prog w s.heap x a)(f:IsSt prog w s.heap y b)(h:Q (decide (x=y)) s):wpAny (model prog w) A (eqBool (.ref a) (.ref b)) Q E s:=by
 unfold eqBool;try with_reducible show þ ?_
 change wpAny _ _ (if (Value.ref a==Value.ref b)=true then _ else _) Q E s;by_cases c:(Value.ref a==Value.ref b)=true
 .rw [if_pos c];have e:a=b:=by have:=Τ c;injection this
  subst e;obtain rfl:=d.inj f;show Zl (Ő (Á (by simpa using h)))
 .rw [if_neg c];show Zl (wpAny_richCompare_same_room (op:= .Eq) d.typeIs f.typeIs F.slot_tuple_eq
   (ð F.slot_tuple_eq d.typeIs F.entry_tuple_eq (yr (by change A.units+1<cLine;show g) d f #[_,rfl,(λ e=>nomatch e),č h]) (F.args_tuple_eq_2 _ _)) ())
theorem yt(g:IsTupleKey (intKind prog w) s.heap ks a)(h:Q true s):wpAny (model prog w) A (eqIsQuiet 7 (.ref a)) Q E s:=by
 have f:=g.typeIs;let#[o,d,n,k,_,i,j]:=g;unfold eqIsQuiet;show Zl (Θ f F.slot_tuple_eq.lookup ?_);change wpAny _ _ (isInstance (.ref a) (.type "tuple") >>= _) _ _ s;show Zl (ť f ų ?_);simp-iota only [Ĕ,á,ą];show Zl (Ġ k i ?_);show Zl ?_;change wpAny _ _ (forIn d _ _) _ _ s;rw [<- Array.forIn_toList];show wpAny_forIn_list _ (λ rest r e=>r.1=none/\e=s/\ ∀v∈rest,carriedByValue v=true) _ ?_ ?_ _ _ #[rfl,rfl,j.byValue]
 .rintro v rest r e ⟨c,rfl,b⟩;rw [eqIsQuiet_byValue _ (b v Ë)];show Zl (Á ?_);simp-iota only [Ĕ,á,ą];show Á #[rfl,rfl,λ u m=>b u (É _ m)]
 .rintro ⟨l,p⟩ e ⟨c,rfl,_⟩;simp only at c;subst c;show Á h
theorem Gd(d:IsSt prog w s.heap k a)(h:Q true s):wpAny (model prog w) A (eqIsQuiet 8 (.ref a)) Q E s:=by
 have c:=d.typeIs;let#[o,n,v1,v2,b,j,_,i,e,f,g]:=d;unfold eqIsQuiet;show Zl (Θ c F.slot_tuple_eq.lookup ?_);change wpAny _ _ (isInstance (.ref a) (.type "tuple") >>= _) _ _ s;show Zl (ť c ų ?_);simp-iota only [Ĕ,á,ą];show Zl (Ġ j i ?_);show Zl ?_;change wpAny _ _ (forIn ([v1,v2,Value.ref b].toArray) _ _) _ _ s;rw [<- Array.forIn_toList];change wpAny _ _ (forIn [v1,v2,Value.ref b] _ _) _ _ s;rw [ü,eqIsQuiet_byValue _ ((intKind prog w).byValue _ _ e)];show Zl (Zl (Á ?_));simp-iota only [Ĕ,á,ą];show Á ?_;change wpAny _ _ (forIn [v2,Value.ref b] _ _) _ _ s;rw [ü,eqIsQuiet_byValue _ ((intKind prog w).byValue _ _ f)];show Zl (Zl (Á ?_));simp-iota only [Ĕ,á,ą];show Á ?_;change wpAny _ _ (forIn [Value.ref b] _ _) _ _ s;rw [ü];show Zl (Zl (yt g ?_));simp-iota only [Ĕ,á,ą];show Á ?_;change wpAny _ _ (forIn [] _ _) _ _ s;rw [Ŧ];show Á (Á h)
end
def jD(prog:ϓ)(w:ϕ):HeapKind prog w pH where
 is:=IsSt prog w
 hash:=wu
 draws:=λ k=>↑k.2.2+4
 room:=λ A=>A.units+1<cLine
 inj:=λ hx hy=>hx.inj hy
 keeps:=λ x ho hd hs=>x.keeps ho hd hs
 pyHash:=λ hu hk h=>OJ hu hk h
 eqBool:=λ hu hx hy h=>XX hu hx hy h
 quiet:=λ hk h=>Gd hk h
end Nk
namespace L2
open PySem PySem.Spec PyProof.Rows Nk
abbrev Sk:=Int×Int×ϊ Int
def Cz(x:Sk×ό×ϋ):DictEntry:=#[wu x.1, .ref x.2.1,x.2.2]
def SdP(a:ό)(kvs:ϊ (ό×Sk×V))(h:ϒ):Prop:=↑kvs<=sizeLine/\(a==sysModules)=false/\ ∃xs:ϊ (Sk×ό×ϋ),Paired (λ (p:ό×Sk×V) (q:Sk×ό×ϋ)=>p.2.1=q.1/\p.1=q.2.1/\RelV p.2.2 q.2.2) kvs xs/\
 ∃o es ep,h.get? a=!o/\o.ExactDict/\o.data= .dict es ep/\es.toList=xs.map Cz/\(xs.map (·.1)).Nodup
abbrev cD(a:ό)(kvs:ϊ (ό×Sk×V)):HO:= .ext (SdP a kvs)
def uY(H:Hp)(b:ό)(k:Sk):Prop:= ∃c,H b=!(.tup [.int k.1, .int k.2.1, .ref c])/\H c=!(.tup (k.2.2.map V.int))
def dC(kvs:ϊ (ό×Sk×V))(k:Sk):ύ V:=(kvs.find? λ p=>decide (p.2.1=k)).map (·.2.2)
def uh(kvs:ϊ (ό×Sk×V))(b:ό)(k:Sk)(v:V):ϊ (ό×Sk×V):=if (dC kvs k).isSome then kvs.map λ p=>if p.2.1=k then (p.1,p.2.1,v) else p else kvs++[(b,k,v)]
def SGet(H:Hp)(a:ό)(y:V)(r:ύ V):Prop:= ∃kvs k b,Rd H a (cD a kvs)/\(∀p∈kvs,uY H p.1 p.2.1)/\y= .ref b/\uY H b k/\r=dC kvs k
def SPut(H:Hp)(a:ό)(y v:V)(H':Hp):Prop:= ∃kvs k b,H a=!(cD a kvs)/\(∀p∈kvs,uY H p.1 p.2.1)/\y= .ref b/\uY H b k/\↑kvs<sizeLine/\H'=upd H a (cD a (uh kvs b k v))
section
theorem ww{P:ϓ}{w:ϕ}: ∀{ks:ϊ Int}{us:ϊ ϋ},Vals (ks.map V.int) us->ItemsAre (intKind P w) ks us
 | [],_,r=>by rw [ď] at r;cases r;show .nil
 | k::ks,_,r=>by
  rw [Ç] at r
  cases r with
  | cons h t=>
   let#[a,rfl]:=(show ∃t,_=Value.int k t from h);show .cons (intKind_is _ _ _ _) (ww t)
def sE(d:HOk P w H h)(e:uY H a k):(jD P w).is h k a:=by
 let#[c,f,g]:=e;let#[_,s,r,o,m,p,n,q]:=(show ObjOk P w H h a (.tup [.int k.1, .int k.2.1, .ref c]) from d a _ f);let#[_,b,x,v,i,j,u,l]:=(show ObjOk P w H h c (.tup (k.2.2.map V.int)) from d c _ g)
 cases r with
 | cons h1 t1=>
  cases t1 with
  | cons h2 t2=>
   cases t2 with
   | cons h3 t3=>
    cases t3;let#[y,rfl]:=(show ∃t,_=Value.int k.1 t from h1);let#[z,rfl]:=(show ∃t,_=Value.int k.2.1 t from h2)
    cases (show _=Value.ref c from h3);show#[o,n,_,_,c,m,p,q,intKind_is _ _ _ _,intKind_is _ _ _ _,#[v,b.toArray,u,i,j,l,by simpa using ww x]]
abbrev KS:ϊ (ό×Sk×V)->ϊ (Sk×ό×ϋ)->Prop:=Paired λ p q=>p.2.1=q.1/\p.1=q.2.1/\RelV p.2.2 q.2.2
def KS.val(r:KS kvs c)(k:Sk):RelO (dC kvs k) ((atKey c k).map (·.2)):=by
 induction r with
 | nil=>show True.intro
 | @cons p q ps qs h t ih=>
  let#[b,_,d]:=h;by_cases e:p.2.1=k
  .have a:q.1=k:=b.symm.trans e;have z:atKey (q::qs) k=!q.2:=by simp [atKey,ē,a]
   have y:dC (p::ps) k=!p.2.2:=by simp [dC,ē,e]
   rw [y,z];show d
  .have a: ¬q.1=k:=λ z=>e (b.trans z)
   have z:atKey (q::qs) k=atKey qs k:=by simp [atKey,ē,a]
   have y:dC (p::ps) k=dC ps k:=by simp [dC,ē,e]
   rw [y,z];show ih
def KS.repl(r:KS kvs c)(k:Sk)(f:RelV y u):KS (kvs.map λ p=>if p.2.1=k then (p.1,p.2.1,y) else p) (c.map (putAt k u)):=by
 induction r with
 | nil=>show .nil
 | @cons p q ps qs h t ih=>
  rw [Ç,Ç];show .cons ?_ ih;let#[a,b,d]:=h;unfold putAt;by_cases e:p.2.1=k
  .rw [if_pos e,if_pos (a.symm.trans e)];show#[a,b,f]
  .rw [if_neg e,if_neg (λ z=>e (a.trans z))];show#[a,b,d]
def KS.put{a:ϊ (Sk×ό×ϋ)}(r:KS kvs a)(k:Sk){b:ό}(c:RelV y u):KS (uh kvs b k y) (storedH a k b u):=by
 have e:(dC kvs k).isSome=(atKey a k).isSome:=by rw [(r.val k).isSome_eq,ś]
 unfold uh storedH;rw [e];by_cases q:(atKey a k).isSome=true
 .rw [if_pos q,if_pos q];show r.repl k c
 .rw [if_neg q,if_neg q];show Paired.snoc r #[rfl,rfl,c]
def Ge(a:ϊ (ό×Sk×V))(b:ό)(k:Sk)(v:V):↑(uh a b k v)<=↑a+1:=by
 unfold uh;split
 .rw [Qb];rfl'
 .rw [Â,â];rfl'
def R3(b:HOk P w H h)(e:Rd H a (cD a kvs)):ObjOk P w H h a (cD a kvs):=by
 rcases e with e | ⟨o,e⟩
 .show b a _ e
 .show (show ObjOk P w H h a (.frz o (cD a kvs)) from b a _ e).2
def sG(d:HOk P w H h)(e:Rd H a (cD a kvs))(u: ∀p∈kvs,uY H p.1 p.2.1):↑kvs<=sizeLine/\(a==sysModules)=false/\ ∃xs,KS kvs xs/\h.DictOfH (jD P w) a xs:=by
 let#[#[z,y,xs,r,o,g,f,i,j,k,n,s],_]:=R3 d e;show#[z,y,xs,r,o,g,f,i,j,k,n,λ x hx=> ?_,s];have b: ∀{l:ϊ (ό×Sk×V)}{m:ϊ (Sk×ό×ϋ)},KS l m->(∀p∈l,uY H p.1 p.2.1)-> ∀x∈m,(jD P w).is h x.1 x.2.1:=by
  intro l m q;induction q with
  | nil=>intro _ x hx;show nomatch hx
  | @cons p q ps qs hq t ih=>
   intro c x hx;rcases È.mp hx with e | hx
   .subst e;have:=sE d (c p Ë);rw [<- hq.1,<- hq.2.1];show this
   .show ih (λ p m=>c p (É _ m)) x hx
 show b r u x hx
def Gf{P:ϓ}{h:ϒ}{b:ϊ (Sk×ό×ϋ)}(z:↑kvs<=sizeLine)(q:(a==sysModules)=false)(e:KS kvs b)(p: ∃o es ep,h.get? a=!o/\o.ExactDict/\o.data= .dict es ep/\es.toList=b.map Cz/\(b.map (·.1)).Nodup):ObjOk P w H' h a (cD a kvs):=by
 let#[o,es,ep,g,j,l,m,n]:=p;show#[#[z,q,b,e,o,es,ep,g,j,l,m,n],#[o,g],λ x y ob k=> ?_];let#[v,u,f,t,i,d,c,r,s]:=ob;show#[v,u,f,t,i,d,c,k i r,s]
end
section
variable{X:Cx}
theorem yu(D:A.units+2<cLine)(I:Inv X pins σ H s)(g:SGet H a y !v)(x:RelV y u)(h: ∀c s',Inv X pins σ H s'->RelV v c->Q c s'):wpAny (model X.prog X.w) A (getItem (.ref a) u) Q E s:=by
 let#[w,k,b,e,q,n,m,l]:=g;subst n
 cases (show u=Value.ref b from x);let#[z,C,B,f,j]:=sG I.hok e q;let#[c,t,i]:=RelO.some_of (v:=v) (o:=(atKey B k).map (·.2)) (by rw [l];show f.val k);let#[p,r,d]:=Î.mp t;show wpAny_getItem_heap (knd:=jD X.prog X.w) (show A.units+1+1<cLine by rfl') (sE I.hok m) j r ?_;rw [d];show h c _ (I.tok _) i
theorem Y0(r:A.units+2<cLine)(I:Inv X pins σ H s)(g:SGet H a y o)(p:RelV y u)(h: ∀s',Inv X pins σ H s'->Q (.bool o.isSome) s'):wpAny (model X.prog X.w) A (compareOp .In u (.ref a)) Q E s:=by
 let#[n,k,b,e,m,i,f,l]:=g;subst i
 cases (show u=Value.ref b from p);let#[z,j,t,c,d]:=sG I.hok e m;show wpAny_in_heap (knd:=jD X.prog X.w) (show A.units+1+1<cLine by rfl') (sE I.hok f) j d ?_;have q:=(c.val k).isSome_eq;rw [ś] at q;rw [<- q,<- l];show h _ (I.tok _)
theorem Gg(r:A.units+2<cLine)(I:Inv X pins σ H s)(g:SGet H a y o)(p:RelV y u)(h: ∀s',Inv X pins σ H s'->Q (.bool (not o.isSome)) s'):wpAny (model X.prog X.w) A (compareOp .NotIn u (.ref a)) Q E s:=by
 let#[n,k,b,e,m,i,f,l]:=g;subst i
 cases (show u=Value.ref b from p);let#[z,j,t,c,d]:=sG I.hok e m;show wpAny_notIn_heap (knd:=jD X.prog X.w) (show A.units+1+1<cLine by rfl') (sE I.hok f) j d ?_;have q:=(c.val k).isSome_eq;rw [ś] at q;rw [<- q,<- l];show h _ (I.tok _)
theorem yw{Q:Unit->ώ->Prop}(P:A.units+2<cLine)(I:Inv X pins σ H s)(g:SPut H a y v H')(M:RelV y u)(L:RelV v r)(h: ∀s',Inv X pins σ H' s'->Q Unit.unit s'):wpAny (model X.prog X.w) A (setItem (.ref a) u r) Q E s:=by
 let#[c,k,b,e,F,t,n,l,m]:=g;subst t m
 cases (show u=Value.ref b from M);let#[z,D,N,d,j]:=sG I.hok (.inl e) F;have K:↑N<=sizeLine:=by rw [<- Ğ d];show z
 have G:↑(uh c b k v)<=sizeLine:=by have:=Ge c b k v;rfl'
 show wpAny_setItem_heap (hsz:=K) (knd:=jD X.prog X.w) (show A.units+1+1<cLine by rfl') (sE I.hok n) j λ O f J=>h _ ?_
 let#[q,p,o,i,w,x,B,_,C]:=f;show iZ I (by rw [e];show True.intro) J ⟨q,i⟩ (Gf G D (d.put k L) ⟨q,p,o,i,w,x,B,C⟩)
end
end L2
end
section
namespace Nk
open PySem PySem.Spec PyProof.Rows Sx
section
theorem ul: ∀a:ϊ Int,HT.lexLt a a=false
 | []=>rfl
 | x::a=>by rw [HT.iW,if_pos rfl];show ul a
theorem wy: ∀{a b:ϊ Int},HT.lexLt a b=true->HT.lexLt b a=false
 | [],[],h=>by cases h
 | [],_::_,_=>rfl
 | _::_,[],h=>by cases h
 | x::a,y::b,h=>by
  rw [HT.iW] at h ⊢;by_cases e:x=y
  .rw [if_pos e] at h;rw [if_pos e.symm];show wy h
  .rw [if_neg e] at h;rw [if_neg (Ne.symm e)];have:=ô h;show Ú ()
theorem Gh: ∀{a b c:ϊ Int},HT.lexLt b a=false->HT.lexLt c b=false->HT.lexLt c a=false
 | [],[],c,_,h=>h
 | [],_::_,[],_,_=>rfl
 | [],_::_,_::_,_,_=>rfl
 | _::_,[],c,h,_=>by cases h
 | _::_,_::_,[],_,h=>by cases h
 | x::a,y::b,z::c,h1,h2=>by
  rw [HT.iW] at h1 h2 ⊢;by_cases e:y=x
  .rw [if_pos e] at h1;by_cases d:z=y
   .rw [if_pos d] at h2;rw [if_pos (d.trans e)];show Gh h1 h2
   .rw [if_neg d] at h2;have:=Œ h2;rw [if_neg ()];show Ú ()
  .rw [if_neg e] at h1;have:=Œ h1;by_cases d:z=y
   .rw [if_neg ()];show Ú ()
   .rw [if_neg d] at h2;have:=Œ h2;rw [if_neg ()];show Ú ()
end
end Nk
namespace L2
open PySem PySem.Spec PyProof.Rows Sx Nk
section
variable{ep:Nat}
theorem P0(lo:(d==sysModules)=false)(f:od.ExactDict)(c:od.data= .dict es ep):PySem.W.KdlSrc prog w "dict" d d es.size (λ i v=> ∃e,es[i]? =!e/\v=e.key) (λ h=>h.get? d=!od) where
 type:=λ s h=>#[od,h,f.1]
 there:=λ h e=>#[Heap.lt_size e,Ì e]
 keep:=λ h j e k=>k d (.inl rfl) od e
 notList:=by decide
 notTuple:=by decide
 hint:=λ A E s Q h l=>PySem.W.kdl_hint_dict #[od,h,f.1] l
 iter:=λ A s q h=>⟨{ cls:= .type "dict_keyiterator",data:= .fields ([.ref d, .int 0 0, .int es.size 0, .int ep 0].toArray) },λ i h=>h.IsKeyIter s.heap.objs.size d i es.size ep/\h.get? d=!od,λ E Q l=>pD lo ⟨od,h,f.1⟩ h c l,{
   sub:=λ b g=>by simp-iota only [È,å,ĥ] at g ⊢;show .inl g
   frame:=λ i h j a k=>#[a.1.at λ o e=>k _ (by simp) o e,k d (by simp) od a.2]
   item:=λ i m Q E r a n=>by
    have x:d≠s.heap.objs.size:=ã (Ì h);show vU q a.1 a.2 c r λ j t p=>n _ j m.toks #[es[i],ò r,rfl] #[t,(p.2 d x).trans a.2] λ b o g e=>(p.2 b (λ z=>g (by rw [z];simp))).trans e
   done:=λ m Q E a n=>zZ q a.1 a.2 c (Ä _) λ j u=>n j m.toks λ b o g e=>u b o (λ z=>g (by rw [z];simp)) e
   self:=λ i m Q E a l=>wpAny_pyIter_keyiter a.1 l },⟨⟨_,Ê _ rfl,rfl,rfl⟩,Ã _ h⟩⟩
theorem lM: ∀{ns:ϊ Int}{us:ϊ ϋ},Vals (ns.map V.int) us->IntsAre us ns
 | [],_,r=>by rw [ď] at r;cases r;show .nil
 | k::ks,_,r=>by
  rw [Ç] at r
  cases r with
  | cons h t=>
   let#[a,rfl]:=(show ∃t,_=Value.int k t from h);show .cons _ _ (lM t)
end
end L2
namespace L2
open PySem PySem.Spec PyProof.Rows Nk
abbrev Ad:TE:=λ _ H Q=> ∀p,H p=none->Q (.ref p) (upd H p (cD p []))
abbrev mZ(td ty:TE):TE:=λ σ H Q=>td σ H λ x H1=>ty σ H1 λ y H2=> ∃a v,x= .ref a/\SGet H2 a y !v/\Q v H2
abbrev Y4(ty td:TE):TE:=λ σ H Q=>ty σ H λ y H1=>td σ H1 λ x H2=> ∃a o,x= .ref a/\SGet H2 a y o/\Q (.bl o.isSome) H2
abbrev uo(ty td:TE):TE:=λ σ H Q=>ty σ H λ y H1=>td σ H1 λ x H2=> ∃a o,x= .ref a/\SGet H2 a y o/\Q (.bl (not o.isSome)) H2
abbrev Ae(td ty tv:TE):TS:=λ D σ H=>tv σ H λ v H1=>td σ H1 λ x H2=>ty σ H2 λ y H3=> ∃a H4,x= .ref a/\SPut H3 a y v H4/\D.nx σ H4
section
variable{X:Cx}
def uq:PE X (.Dict [] [] pos) Ad:=λ b s c H Q I h=>
 wpAny_Dict_empty ⟨.ref s.heap.objs.size,_,I.laid (a:=s.heap.objs.size) (o:=cD s.heap.objs.size []) (t':=s.toks) (λ _ _ q=>Ã _ q) (Ä _)
  (Gf (æ _) (ń.mpr (Ne.symm (ã I.big))) .nil ⟨_,([].toArray),0,Ê _ rfl,⟨rfl,rfl,rfl⟩,rfl,rfl,List.nodup_nil⟩),rfl,h _ (I.hok.fresh (Ä _))⟩
theorem Pa(I:Inv X pins h H s)(g:SGet H a y r):s.TypeIs (.ref a) "dict":=by
 let#[f,k,b,e,d,_]:=g;let#[_,_,i,_,c]:=sG I.hok e d;show c.typeIs
theorem j9(r:X.A.units+2<cLine)(p:PE X o td)(n:PE X i ty)(q:Tt i):PE X (.Subscript o i pos) (mZ td ty):=by
 intro b s e H Q I h;show zP PySem.F.slot_dict_getitem.lookup q (bF (p b s e H _ I h) λ u B ob=> ?_);let#[x,f,k,z,t]:=ob;show bF (n b B e f _ k t) λ C D ob=> ?_
 let#[y,j,d,A,a,v,m,g,w]:=ob;subst m;obtain rfl:u=Value.ref a:=z;show#[Pa d g,yu r d g A λ F E l c=>#[v,j,l,c,w]]
theorem U5(p:X.A.units+2<cLine)(m:PE X i ty)(n:PE X o td):PC X .In i o (Y4 ty td):=by
 intro b s c H Q I h;show bF (m b s c H _ I h) λ z w ob=> ?_
 let#[y,d,f,v,q]:=ob;show bF (n b w c d _ f q) λ u A ob=> ?_
 let#[x,e,j,t,a,ov,l,g,r]:=ob;subst l;obtain rfl:u=Value.ref a:=t;show Y0 p j g v λ B k=>#[.bl ov.isSome,e,k,rfl,r]
theorem sI(p:X.A.units+2<cLine)(m:PE X i ty)(n:PE X o td):PC X .NotIn i o (uo ty td):=by
 intro b s c H Q I h;show bF (m b s c H _ I h) λ z w ob=> ?_
 let#[y,d,f,v,q]:=ob;show bF (n b w c d _ f q) λ u A ob=> ?_
 let#[x,e,j,t,a,ov,l,g,r]:=ob;subst l;obtain rfl:u=Value.ref a:=t;show Gg p j g v λ B k=>#[.bl (not ov.isSome),e,k,rfl,r]
theorem ur(w:X.A.units+2<cLine)(q:PE X o td)(p:PE X i ty)(z:PE X value tv)(t:swapsWith value (!(.Subscript o i pos')) pos.line X.env=pure false):
  PS X (.Assign [.Subscript o i pos'] value pos) (Ae td ty tv):=by
 intro b s c H D I h;show wpAny_Assign_Subscript (bF (z b s c H _ I h) λ r J ⟨v,d,j,E,A⟩=>bF (q b J c d _ j A) λ u K ⟨x,e,k,F,B⟩=>bF (p b K c e _ k B) λ M N ⟨y,L,l,G,a,f,n,g,C⟩=> ?_) t;subst n;obtain rfl:u=Value.ref a:=F;show yw w l g G E λ O m=>#[c,f,m,C]
theorem dR{k:Nat}(a:Room k A):A.units+2<cLine:=Û (Nat.add_le_add_left (by decide:2<=64) _) a.units
end
end L2
end
section
namespace Nk
open PySem PySem.Spec PyProof.Rows
section
def Pb{d:ό}{b:Obj}{a:ϔ DictEntry}{i:Nat}(lo:(d==sysModules)=false)(e:b.ExactDict)(g:s.heap.get? d=!b)(c:b.data= .dict a i)(f:(a.size:Int)<2^63)
  (h: ∀t k,Q (.int a.size t) { s with toks:=k }):wpAny (model prog w) A (call (.builtin "len") [.ref d]) Q E s:=by
 have T:s.TypeIs (.ref d) "dict":=#[b,g,e.1];show Calls.call_function_entry kind_len plain_len entry_len (args_len1 _) ?_;unfold Builtin.«len»;show Zl (m:=oneArg "len" _) (Á ?_);show Zl (m:=callSpecial? (.ref d) (Str.ofString "__len__")) (wpAny_callSpecial?_slot (name:=Str.ofString "__len__") T PySem.F.slot_dict_len (ð PySem.F.slot_dict_len T PySem.F.entry_dict_len ?_ (PySem.F.args_dict_len_1 _)));unfold Builtin.«dict.__len__» Builtin.Dict.dictSlotNone;show Zl (Zl (Ĳ T ?_));change wpAny _ _ (pure (Value.ref d)) _ _ _;show Á ?_;change wpAny _ _ (dictSize d >>= _) _ _ _;have j: ¬ ((d==sysModules)=true):=by rw [lo];show Ñ
 unfold dictSize;show Zl (Zl (ī g c (Á ?_)));change wpAny _ _ (Builtin.Dict.pendingCount d >>= _) _ _ _;unfold Builtin.Dict.pendingCount;show Zl ?_;rw [if_neg j];show Á ?_;change wpAny _ _ (retInt (((a.size:Nat):Int)+((0:Nat):Int))) _ _ _;rw [show((a.size:Nat):Int)+((0:Nat):Int)=(a.size:Int) by rfl'];show wpAny_ret_mkInt ?_;show Zl (þ (Á ?_));show Zl (Ũ ?_);change wpAny _ _ (if ((a.size:Nat):Int)<0 then _ else _) _ _ _;rw [if_neg ()];change wpAny _ _ (if ((a.size:Nat):Int)>=2^63 then _ else _) _ _ _;rw [if_neg ()];show Zl (wpAny_mkInt (Á #[_,rfl,h _ _]))
end
end Nk
end
section
namespace Sy
open PySem PyProof.Rows
def sJ{K:Type}[DecidableEq K]{a:ϊ (K×ό×ϋ)}{k:K}(h:k∉a.map (·.1)):atKey a k=none:=by
 unfold atKey;rw [ū,Ķ];intro x b e;show h (Zs.mpr #[x,b,ô e])
end Sy
end
section
namespace L2
open PySem PySem.Spec PyProof.Rows
def ut:ϊ V->Hp->VK->Prop:=λ xs H Q=> ∃(a:ό)(kvs:ϊ (ϊ Key×V)),xs=[.ref a]/\H a=!(.dT kvs)/\↑kvs<=1000000/\ ∀r (zs:ϊ (ό×ϊ Key)),H r=none->zs.map (·.2)=kvs.map (·.1)->(∀z∈zs,H z.1=!(.tup (z.2.map kV)))->Q (.ref r) (upd H r (.lst (zs.map λ z=>V.ref z.1)))
def Ph: ∀{l:ϊ (ϊ Key×V)}{m:ϊ (ϊ Key×ό×ϋ)},KT H l m-> ∃zs:ϊ (ό×ϊ Key),zs.map (·.2)=l.map (·.1)/\(∀z∈zs,H z.1=!(.tup (z.2.map kV)))/\zs.map (·.1)=m.map λ x=>x.2.1:=by
 intro l m q;induction q with
 | nil=>show#[[],rfl,λ z h=>absurd h å,rfl]
 | @cons p q ps qs hq t ih=>
  let#[zs,a,b,c]:=ih;show#[(q.2.1,p.1)::zs,by rw [Ç,Ç,a],λ z mz=> ?_,by rw [Ç,Ç,c]];rcases È.mp mz with rfl | mz
  .show hq.2.1
  .show b z mz
def wA{X:Cx}(f:X.calm=true):cB X (.type "list") ut:=by
 intro B s σ H xs us Q I W h;let#[a,i,rfl,e,hn,q]:=h;let#[u,rfl,U]:=W.one
 cases (show u=Value.ref a from U);let#[hz,m,Z,T,o,n,ep,N,O,P,A,_]:=oY I.hok e;let#[k,C,z2,D]:=Ph T;have l:↑k=↑i:=by have:=Ö List.length C;rwa [Qb,Qb] at this
 have r:↑Z=↑i:=by have:=Ö List.length D;rw [Qb,Qb] at this;rfl'
 have p:n.size=↑i:=by rw [<- Ċ,A,Qb,r]
 show PySem.W.kdl_call (P0 (prog:=X.prog) (w:=X.w) m O P) (I.ok.hd f) N (by rw [p,Ā];rfl') λ h' Y d c S R b=> ?_
 have K:d.toList=k.map λ z=>Value.ref z.1:=by
  apply ŝ;intro j;rw [ø];by_cases E:j<n.size
  .have t:j<d.size:=by rw [b.1];show E
   let#[e,F,G]:=b.2 j d[j] (ò t);rw [ò t,G];have v:n.toList[j]? =!e:=by rw [ø];show F
   rw [A,Wp] at v;let#[x,L,rfl]:=Î.mp v;have y:(k.map (·.1))[j]? =!x.2.1:=by rw [D,Wp,L];rfl
   rw [Wp] at y ⊢;let#[z,M,J]:=Î.mp y;rw [M];change some (Value.ref x.2.1)=!(Value.ref z.1);rw [J]
  .rw [θ (by rw [b.1];rfl'),ß (by rw [Qb,l];rfl')]
 show#[.ref s.heap.objs.size,_,I.laid (t':=Y) (o:= .lst (k.map λ z=>V.ref z.1)) S (Ä _) #[by rw [Qb,l,Ā];rfl',d.toList,c,by rw [K];show mj (g:=λ z=>z.1) k,by simpa using R],rfl,q _ k (I.hok.fresh (Ä _)) C z2]
def wB:ϊ V->Hp->VK->Prop:=λ xs H Q=> ∃(a:ό)(kvs:ϊ (ϊ Key×V)),xs=[.ref a]/\H a=!(.dT kvs)/\Q (.int ↑kvs) H
def mF{X:Cx}:cB X (.builtin "len") wB:=by
 intro e s x H p w Q I n h;let#[a,c,rfl,f,q]:=h;let#[u,rfl,m]:=n.one
 cases (show u=Value.ref a from m);let#[z,lo,p,d,o,g,r,i,j,k,l,_]:=oY I.hok f;have b:g.size=↑c:=by rw [<- Ċ,l,Qb,Ğ d]
 show Nk.Pb lo j i k (by rw [b];rw [Ā] at z;rfl') λ t v=> ?_
 rw [b];show#[.int ↑c,H,I.tok _,#[t,rfl],q]
end L2
end
section
namespace L2
open PySem PySem.Spec PyProof.Rows Sx Nk
section
variable{X:Cx}
theorem Pj{k:Nat}(a:Room k A):A.units+12<cLine:=Û (Nat.add_le_add_left (by decide:12<=64) _) a.units
end
end L2
end
section
namespace L2
open PySem PySem.Spec PyProof.Rows Nk
abbrev yx:=iKG (λ p:ό×Sk×V=> .ref p.1) cD
def pI(f:ObjOk P w H h a (cD a kvs)):
  ∃od es ep xs,h.get? a=!od/\od.ExactDict/\(a==sysModules)=false/\od.data= .dict es ep/\KS kvs xs/\es.toList=xs.map Cz/\es.size=↑kvs:=by
 let#[#[_,y,xs,r,o,es,ep,c,d,e,b,_],_]:=f;show#[o,es,ep,xs,c,d,y,e,r,b,by rw [<- Ċ,b,Qb];show(Ğ r).symm]
def Gi:XS P w (λ p:ό×Sk×V=> .ref p.1) cD:=by
 intro H h a r t;let#[s,l,k,v,j,m,c,f,e,g,d]:=pI t;show#[trivial,s,l,k,j,m,c,f,d,λ i p b=> ?_];let#[_,q,n,o,_,u,_]:=iy i e (À.mp b).1;rw [n] at b
 cases b;show#[Cz q,by rw [<- ø,g,Wp,o];rfl,by change RelV (.ref p.1) _;rw [u];rfl]
def wC{X:Cx}(b:PE X l a):PI X c l (yx a):=wj Gi b
end L2
end
section
namespace Nk
open PySem
section
variable{i ep:Nat}
theorem Pk(lo:(d==sysModules)=false)(a:od.ExactDict)(b:s.heap.get? d=!od)
  (h:Q (.ref s.heap.objs.size) { s with heap:=s.heap.push { cls:= .type "dict_items",data:= .fields ([.ref d].toArray) } }):wpAny (model prog w) A (call (.builtin "dict.items") [.ref d]) Q E s:=by
 have T:s.TypeIs (.ref d) "dict":=#[od,b,a.1];show ð F.slot_dict_items T F.entry_dict_items ?_ (F.args_dict_items_1 _);unfold Builtin.«dict.items» Builtin.Dict.noArgs;show Zl (Zl (Ĳ T (Á (show wpAny _ _ (Builtin.Dict.showsAll d >>= _) _ _ s from ?_))));unfold Builtin.Dict.showsAll;rw [lo];show Zl (Á (Zl (õ (Á #[_,rfl,h]))))
theorem Pn(b:s.heap.IsItemsView v d)(c:s.heap.get? d=!od)(a:od.data= .dict es ep)
  (h:Q (.ref s.heap.objs.size) { s with heap:=s.heap.push { cls:= .type "dict_itemiterator",data:= .fields ([.none, .bool false, .ref d, .int 0 0, .int es.size 0, .int ep 0, .none, .none].toArray) } }):
  wpAny (model prog w) A (pyIter (.ref v)) Q E s:=by
 let#[o,e,_,f]:=id b;show wpAny_pyIter_slot b.typeIs F.slot_dict_items_iter (ð F.slot_dict_items_iter b.typeIs F.entry_dict_items_iter ?_ (F.args_dict_items_iter_1 _));unfold Builtin.«dict_items.__iter__» Builtin.Dict_items.dictOf Builtin.Dict_items.newIterator;show Zl (Á (Zl (Zl (ě e f (x:= .ref d) rfl (Á (Zl (Zl (ī c a (Zl (wpAny_dictEpoch c a ?_))))))))));simp only [show Builtin.Dict_items.ownsTuple "dict_itemiterator"=true by decide,ĺ];show õ (Á #[_,rfl,"dict_itemiterator",_,#[_,Ê _ rfl,rfl],F.slot_dict_itemiterator_next.lookup,?_]) (by simp [sizeOk,Builtin.Dict_items.ownedTupleFields,Ā]);simpa [rawInt,Builtin.Dict_items.ownedTupleFields] using h
theorem Af{Q:ύ ϋ->ώ->Prop}(Y:A.handled=none)(c:IsItemIter s.heap it d i es.size ep ok ov)(l:s.heap.get? d=!od)(k:od.data= .dict es ep)
  (X: ∀(hi:i<es.size) h',IsItemIterOut h' it d (i+1) es.size ep es[i].key es[i].val s.heap.objs.size->h'.get? s.heap.objs.size=!{ cls:= .type "tuple",data:= .seq ([es[i].key,es[i].val].toArray) }->h'.objs.size=s.heap.objs.size+1->
   (∀b o,b≠it->s.heap.get? b=!o->h'.get? b=!o)->Q (!(.ref s.heap.objs.size)) { s with heap:=h' })
  (W:es.size<=i-> ∀h',Heap.ExtBut it s.heap h'->Q none { s with heap:=h' }):wpAny (model prog w) A (pyNext (.ref it)) Q E s:=by
 have T:s.TypeIs (.ref it) "dict_itemiterator":=#[_,c,rfl];unfold pyNext;show Zl (wpAny_attempt (wpAny_callSpecial?_slot (name:=Str.ofString "__next__") T F.slot_dict_itemiterator_next (ð F.slot_dict_itemiterator_next T F.entry_dict_itemiterator_next ?_ (F.args_dict_itemiterator_next_1 _))));have N:Builtin.Dict_items.ownsTuple "dict_itemiterator"=true:=by decide
 have O: ¬ (Value.ref d==Value.none)=true:=Ñ;have f2: ¬ ((i:Int)<0):=()
 have D: ∀{C:ώ}{L:ϖ}{M:϶}{R:String->ώ->Prop},C.TypeIs (.ref it) "dict_itemiterator"->R "dict_itemiterator" C->wpAny (model prog w) L (typeNameOfWhole (.ref it)) R M C:=λ a b=>wpAny_typeNameOfWhole_itemiter a b
 repeat (first
  | (show D T ?_)
  | (show wpAny_fieldsOf c rfl ?_)
  | (show ī l k ?_)
  | (show wpAny_dictEpoch l k ?_)
  | (show Á ?_)
  | (show Zl ?_)
  | (simp only [N,ĺ])
  | (rw [if_neg O])
  | (rw [if_neg (by simp)]))
 rw [Ó];rcases Đ i es.size with hi | hi
 .rw [ò hi];dsimp only;show Zl (Zl (D T (Á (Zl (ξ T ?_)))));change wpAny (model prog w) A.in1 (do setField (.ref it) 3 (rawInt ((i:Int)+1));_) _ _ s;show Zl (ĉ c (by simp) λ h j m=> ?_);replace m:Heap.SameBut it s.heap h:=m;replace j:IsItemIter h it d (i+1) es.size ep ok ov:=by
   unfold IsItemIter;rw [show((i+1:Nat):Int)=(i:Int)+1 by rfl'];simpa [rawInt] using j
  have y:Shared.TypeIs { s with heap:=h } (.ref it) "dict_itemiterator":=⟨_,j,rfl⟩;show Zl (þ (Zl (ξ y (Zl (ξ y ?_)))));change wpAny (model prog w) _ (Builtin.Dict_items.pairFromOwner (.ref it) 6 es[i].key es[i].val) _ _ { s with heap:=h };unfold Builtin.Dict_items.pairFromOwner Builtin.Dict_items.ownedTupleIsFree;show Zl (wpAny_newTuple ?_);have v:h.objs.size=s.heap.objs.size:=m.1;have B:it<s.heap.objs.size:=Ì c;let#[g,n,t2,z2,Z,G]: ∃g,IsItemIter g it d (i+1) es.size ep ok ov/\g.get? s.heap.objs.size=!{ cls:= .type "tuple",data:= .seq ([es[i].key,es[i].val].toArray) }/\g.objs.size=s.heap.objs.size+1/\(∀b o,b≠it->s.heap.get? b=!o->g.get? b=!o)/\g=h.push { cls:= .type "tuple",data:= .seq ([es[i].key,es[i].val].toArray) }:=
   #[_,Ã _ j,by rw [<- v];show Ê _ rfl,by rw [Ī,v],λ b o f e=>Ã _ (m.extBut b o f e),rfl]
  rw [v];change wpAny (model prog w) _ _ _ _ { s with heap:=h.push { cls:= .type "tuple",data:= .seq ([es[i].key,es[i].val].toArray) } };rw [<- G];clear G j m y v;show Zl (Zl (ě n rfl (x:= .none) rfl (Á ?_)));simp only [ĺ];show Zl (ě n rfl (x:=ok) rfl (Zl (ě n rfl (x:=ov) rfl ?_)));show Zl (ĉ n (by simp) λ H P q=>Zl (ĉ P (by simp) λ I S r=>Zl (ĉ S (by simp) λ J U t=>Zl (ĉ U (by simp) λ p z u=> ?_))));replace z:IsItemIterOut p it d (i+1) es.size ep es[i].key es[i].val s.heap.objs.size:=z;replace q:Heap.SameBut it g H:=q;replace r:Heap.SameBut it H I:=r;replace t:Heap.SameBut it I J:=t;replace u:Heap.SameBut it J p:=u;have K: ∀b o,b≠it->g.get? b=!o->p.get? b=!o:=λ b o f e=>u.extBut b o f (t.extBut b o f (r.extBut b o f (q.extBut b o f e)))
  show Zl (Ũ (Á (Á #[_,rfl,Á (X hi p z (K _ _ (Ģ B) t2) (by rw [u.1,t.1,r.1,q.1,z2]) λ b o f e=>K b o f (Z b o f e))])))
 .rw [θ hi];dsimp only;show Zl (Zl (D T (Á ?_)));change wpAny (model prog w) A.in1 (do setField (.ref it) 2 .none;_) _ _ s;show Zl (η c rfl (by simp) (L2.Fx Y (Ą ..) (W hi)))
end
end Nk
namespace L2
open PySem PySem.Spec PyProof.Rows Nk
variable{k:Nat}
def yz(od:Obj)(a:ό)(kvs:ϊ (ό×Sk×V)):It where
 go:=λ i H=>H a=!(.frz od (cD a kvs))/\i<↑kvs
 yld:=λ i H v H'=> ∃p q,H p=none/\kvs[i]? =!q/\v= .ref p/\H'=upd H p (.tup [.ref q.1,q.2.2])
 stop:=λ i H=>H a=!(.frz od (cD a kvs))/\↑kvs<=i
theorem wD{P:ϓ}{K:Ϗ}(g a:ό){F:Obj}{C:ϔ DictEntry}{ep:Nat}(f:F.data= .dict C ep):
  Turn P w K (.Tuple elts k tpos) (yz F a kvs) [g] g (λ i h=> ∃ok ov,IsItemIter h g a i C.size ep ok ov) where
 mem:=by simp
 obj:=λ i h d b hb=>by
  let#[ok,ov,d]:=d;rw [Zp.mp hb];show#[_,d,λ v z=>by cases z]
 keep:=λ i h h' ⟨ok,ov,d⟩ y=>#[ok,ov,y g (by simp) _ d]
 item:=by
  intro X N Y M O i A s σ H E I D d R;subst N Y M;let#[ok,ov,d]:=d;let#[G,S]:=R;let#[m,ok]:=(show ObjOk X.prog X.w H s.heap a (.frz F (cD a kvs)) from I.hok a _ G);let#[o,L,J,xs,j,_,_,l,B,Z,U]:=pI ok;rw [m] at j
  cases j;rw [f] at l
  cases l;show Af (I.ok.hd O) d m f (λ T h' a1 a3 a4 a5=> ?_) λ n=>absurd S ()
  show#[_,rfl,wpAny_letOwnedTupleGo_items a1 λ r b1 T=> ?_];have hT:s.heap.objs.size≠g:=Ģ (Ì d);let#[p,q,hk,hx,_,r2,r3]:=iy i B S;have Q:C[i]'(by rfl')=Cz q:=by
   have:C.toList[i]? =!(Cz q):=by rw [Z,Wp,hx];rfl
   rw [ø,ò ()] at this;show Þ this
  have y: ∀c o,c∉[g]->s.heap.get? c=!o->r.get? c=!o:=λ c o e q=>by
   have t:c≠g:=λ z=>e (by rw [z];simp)
   show T.extBut _ _ t (a5 c o t q)
  have e5:r.get? s.heap.objs.size=!{ cls:= .type "tuple",data:= .seq ([.ref p.1,q.2.2].toArray) }:=by
   have:=T.extBut _ _ hT a3;rw [Q] at this;rw [r2];show this
  let#[u,I2]:=I.yields (t':=s.toks) y D (x:= .ref p.1) rfl r3 e5;show#[.ref s.heap.objs.size,_,I2,rfl,#[_,p,u,hk,rfl,rfl],#[_,_,b1],λ c e=> ?_];rw [Zp.mp e,au (ã (Ì d))];show(D g (by simp)).1
 done:=by
  intro X N Y M O i A s σ H E I D d R;subst N Y M;let#[ok,ov,d]:=d;let#[G,S]:=R;let#[m,ok]:=(show ObjOk X.prog X.w H s.heap a (.frz F (cD a kvs)) from I.hok a _ G);let#[o,L,J,xs,j,_,_,l,B,Z,U]:=pI ok;rw [m] at j
  cases j;rw [f] at l
  cases l;show Af (I.ok.hd O) d m f (λ n=>absurd n ()) λ _ h' y=>#[rfl,I.turnedAll (t':=s.toks) (λ c o e q=>y c o (λ z=>e (by rw [z];simp)) q) D]
 self:=λ _ _ _ _ _ ⟨_,_,d⟩ h=>PySem.W.kcp_self d h
abbrev Ag(tl:TE):TI:=λ σ H R=>tl σ H λ x H1=> ∃a kvs,x= .ref a/\((H1 a=!(cD a kvs)/\ ∀od,R (yz od a kvs) (upd H1 a (.frz od (cD a kvs))))\/ ∃od,H1 a=!(.frz od (cD a kvs))/\R (yz od a kvs) H1)
theorem CG{X:Cx}(E:PE X o y)(g:attributeBase o "items" X.env (eval o X.env)=eval o X.env:=by rfl)(i:(c.endLine==d.line)=true:=by rfl):
  PI X (.Tuple elts k tpos) (.Call (.Attribute o "items" c) [] [] d) (Ag y):=by
 intro f s z H R I h;show Υ g i (bF (E f s z H _ I h) λ v m ob=> ?_);let#[x,J,A,G,F]:=ob;let#[a,u,rfl,q]:=F
 cases (show v=Value.ref a from G);let#[l,n,N,M,B,L,q,j,r,t,w]:=G7 (R:=λ l n=>R (yz l a u) n) Gi A q;show#["dict","dict.items",Ľ,Φ,PySem.F.type_dict_items,#[l,j,r.1],λ K C=>by cases C;show#[l,j,r.2.1],ĕ rfl (PySem.evalArgs_none (Pk t r j ?_))];show Pn #[_,Ê _ rfl,rfl,rfl] (Ã _ j) w ?_;have p:Inv X f z n { m with heap:=m.heap.push { cls:= .type "dict_items",data:= .fields ([.ref a].toArray) } }:=B.kept (t':=m.toks) λ b ob q=>Ã _ q
 show#[_,[_],_,_,_,rfl,p.kept (t':=m.toks) λ b o e=>Ã _ e,wD _ a w,#[_,_,Ê _ rfl],λ b D=> ?_,q];rw [Zp.mp D];show p.fpOk (Ä _) (p.hok.fresh (Ä _))
end L2
end
section
namespace Nk
open PySem
theorem Gj{a b:Type}{f:a->b}: ∀(l:ϊ a)(i:Nat),(l.map f).eraseIdx i=(l.eraseIdx i).map f
 | [],_=>rfl
 | _::_,0=>rfl
 | x::l,i+1=>Ö (f x:: ·) (Gj l i)
section
variable{prog:ϓ}{w:ϕ}{K:Type}[DecidableEq K]{knd:HeapKind prog w K}{A:ϖ}{E:϶}{s:ώ}{d a:ό}{k:K}{xs:ϊ (K×ό×ϋ)}
theorem Gk(u:knd.room A)(b:knd.is s.heap k a)(F:s.heap.DictOfH knd d xs)(G:↑xs<=sizeLine)
  (n: ∀(j:Nat)(p:ό×ϋ),xs[j]? =!(k,p)->Q p.2 { s with toks:=s.toks+knd.draws k })
  (m:k∉xs.map (·.1)-> ∀h',h'.DictOfH knd d (xs++[(k,a,v)])->Heap.SameBut d s.heap h'->Q v { s with heap:=h',toks:=s.toks+knd.draws k }):wpAny (model prog w) A (dictSetDefault d (.ref a) v) Q E s:=by
 let#[o,H,C,g,D,c,h,f,t]:=F;unfold dictSetDefault;show þ (Zl (knd.pyHash u b (Zl (wpAny_dictFind_heap (s:={ s with toks:=s.toks+knd.draws k }) u b g c h f t (λ l=> ?_) λ j p r=> ?_))))
 .have B:k∉xs.map (·.1):=not_mem_keys_of_get l;show Zl (Ő (Zl (wpAny_updateDictKeys (hz:=by have e:=size_of_entries h;rfl') (s:={ s with toks:=s.toks+knd.draws k }) g c (Á (m B _ ⟨_,_,C+1,ĝ _ g (Obj.isFreed_of_dict (ź c _)),D.mapDictKeys _,ź c _,by simp [h,entryOfKey],λ x hx=> ?_,?_⟩ (Ą ..))))))
  .have i:knd.is s.heap x.1 x.2.1:=by
    rcases Æ.mp hx with hx | hx
    .show f x hx
    .rw [Zp.mp hx];show b
   show knd.keeps i g c (Ą ..)
  .rw [Jn,à];show#[t,by simp,λ x hx y z e=>B (by rw [Ç,ď,Zp] at z;have q:x=k:=e.trans z;rw [<- q];show hx)]
 .show Zl (ī (s:={ s with toks:=s.toks+knd.draws k }) g c ?_);rw [entry_at h j,r];show Zl (Ő (Á (n j p r)))
theorem Gm{j:Nat}(C:knd.room A.in1)(b:knd.is s.heap k a)(B:s.heap.DictOfH knd d xs)(g:xs[j]? =!(k,p))(L:↑xs<=sizeLine)
  (h: ∀h',h'.DictOfH knd d (xs.eraseIdx j)->Heap.SameBut d s.heap h'->Q p.2 { s with heap:=h',toks:=s.toks+knd.draws k }):wpAny (model prog w) A (call (.builtin "dict.pop") [.ref d, .ref a]) Q E s:=by
 have T:=B.typeIs;let#[o,y,I,e,J,c,l,f,t]:=B;show ð F.slot_dict_pop T F.entry_dict_pop ?_ (F.args_dict_pop_2 _ _);unfold Builtin.«dict.pop» Builtin.Dict.keyAndDefault;show Zl (Zl (Ĳ T (show wpAny _ _ (pure (d,Value.ref a,none)) _ _ s from Á ?_)));have v:y.size=↑xs:=size_of_entries l;have K:j<↑xs:=(À.mp g).1;have N:y.isEmpty=false:=by rw [Array.isEmpty_eq_false_iff];intro z;rw [z] at v;simp at v;rfl'
 dsimp only;rw [show(keyPart (Value.ref a)).isSome=false from rfl];simp-iota only [á,ą];show Zl (ī e c (Zl (Á ?_)));rw [N];simp-iota only [á,ą];unfold Builtin.Dict.takeOut;show Zl (þ (Zl (knd.pyHash C b (Zl (wpAny_dictFind_heap (s:={ s with toks:=s.toks+knd.draws k }) C b e c l f t (λ u=>absurd g (u j p)) λ i q m=> ?_)))));have n:i=j/\q=p:=by
  have r:i<↑xs:=(À.mp m).1;have D:(xs.map (·.1))[i]? =!k:=by rw [Wp,m];rfl
  have G:(xs.map (·.1))[j]? =!k:=by rw [Wp,g];rfl
  have H:i=j:=(List.getElem?_inj (by rw [Qb];show r) t).mp (D.trans G.symm);subst H;rw [m] at g
  cases g;show#[rfl,rfl]
 let#[rfl,rfl]:=n;show Zl (ī (s:={ s with toks:=s.toks+knd.draws k }) e c ?_);rw [entry_at l i,m];show Zl (wpAny_updateDictKeys (hz:=()) (s:={ s with toks:=s.toks+knd.draws k }) e c (Á ?_));dsimp only;simp-iota only [Option.isNone_some,á,ą];show Zl (Ũ (Á #[_,rfl,h _ #[_,_,I+1,ĝ _ e (Obj.isFreed_of_dict (ź c _)),J.mapDictKeys _,ź c _,?_,λ x M=>knd.keeps (f x (List.mem_of_mem_eraseIdx M)) e c (Ą ..),?_] (Ą ..)]))
 .rw [Array.eraseIdxIfInBounds,dif_pos (),Array.toList_eraseIdx,l];show Gj _ _
 .show Ă (List.Sublist.map _ (List.eraseIdx_sublist _ _)) t
end
end Nk
namespace L2
open PySem PySem.Spec PyProof.Rows Nk
def KT.drop(r:KT H kvs d): ∀{j:Nat},(d.map (·.1)).Nodup->d[j]? =!(k,p)->KT H (dN kvs k) (d.eraseIdx j):=by
 induction r with
 | nil=>intro j _ h;cases h
 | @cons p0 q0 ps qs h0 t ih=>
  intro j c f;rw [Ç,û] at c;have b: ∀{l:ϊ (ϊ Key×V)}{m:ϊ (ϊ Key×ό×ϋ)},KT H l m->m.map (·.1)=l.map (·.1):=λ r=>by
   induction r with
   | nil=>rfl
   | cons h _ ih=>rw [Ç,Ç,ih,h.1]
  cases j with
  | zero=>
   cases f;have g:p0.1=k:=h0.1;have e:dN (p0::ps) k=ps:=by
    unfold dN;rw [List.filter_cons,if_neg (by simp [g]),List.filter_eq_self];intro y i;have:y.1≠k:=λ z=>c.1 (by rw [b t];show Zs.mpr #[y,i,z])
    show Ø this
   rw [e];show t
  | succ j=>
   have a:qs[j]? =!(k,p):=f;have n:p0.1≠k:=λ z=>c.1 (Zs.mpr #[(k,p),Xs a,(h0.1.symm.trans z).symm])
   have e:dN (p0::ps) k=p0::dN ps k:=by
    unfold dN;rw [List.filter_cons,if_pos (Ø n)]
   rw [e];show .cons h0 (ih c.2 a)
def U6{b:ϊ (ϊ Key×ό×ϋ)}(h:atKey b k=!p): ∃j:Nat,b[j]? =!(k,p):=by
 let#[#[d,f],a,rfl]:=Î.mp h;let#[j,c]:=ó.mp (Ĉ a);have e:=Ű a;show#[j,by rw [c,show d=k from ô e]]
section
variable{X:Cx}
theorem U7(M:A.units+1<cLine)(I:Inv X pins σ H s)(e:H a=!(.dT kvs))(x:H b=!(.tup (k.map kV)))(l:bM kvs k=!v)
  (h: ∀m s',Inv X pins σ (upd H a (.dT (dN kvs k))) s'->RelV v m->Q m s'):wpAny (model X.prog X.w) A (call (.builtin "dict.pop") [.ref a, .ref b]) Q E s:=by
 let#[z,J,w,d,n]:=oY I.hok e;let#[m,N,i]:=RelO.some_of (v:=v) (o:=(atKey w k).map (·.2)) (by rw [<- l];show d.val k);let#[p,K,rfl]:=Î.mp N;let#[j,t]:=U6 K;have g:(w.map (·.1)).Nodup:=by let#[_,_,_,_,_,_,_,_,g]:=n;show g
 show Gm (Ŏ M) (jw I.hok x) n t (by rw [<- Ğ d];show z) λ O f L=>h _ _ ?_ i
 let#[q,B,y,u,C,D,F,_,G]:=f;show iZ I (by rw [e];show True.intro) L ⟨q,u⟩ ⟨Nat.le_trans (Fb kvs k) z,J,_,(d.drop g t).keeps λ c P r=> ?_,q,B,y,u,C,D,F,G⟩;rw [au (fj r e (λ z=>nomatch z))];show r
theorem U8{z:V}(O:A.units+1<cLine)(I:Inv X pins σ H s)(e:H a=!(.dT kvs))(o:H b=!(.tup (k.map kV)))(U:↑kvs<sizeLine)(P:RelV z r)
  (K: ∀v y s',bM kvs k=!v->Inv X pins σ H s'->RelV v y->Q y s') (L: ∀s',bM kvs k=none->Inv X pins σ (upd H a (.dT (kvs++[(k,z)]))) s'->Q r s'):wpAny (model X.prog X.w) A (call (.builtin "dict.setdefault") [.ref a, .ref b,r]) Q E s:=by
 let#[R,u,h,d,i]:=oY I.hok e;have T:=i.typeIs;show ð PySem.F.slot_dict_setdefault T PySem.F.entry_dict_setdefault ?_ (PySem.F.args_dict_setdefault_3 _ _ _);unfold Builtin.«dict.setdefault» Builtin.Dict.keyAndDefault;show Zl (Zl (Ĳ T (show wpAny _ _ (pure (a,Value.ref b,!r)) _ _ s from Á ?_)));dsimp only;rw [u];simp-iota only [á,ą];have n:(h.map (·.1)).Nodup:=by let#[_,_,_,_,_,_,_,_,n]:=id i;show n
 show Zl (Gk (A:=A.in1) (Ŏ O) (jw I.hok o) i (by rw [<- Ğ d];show R) (λ j p M=>Á #[_,rfl,?_]) λ x S l N=>Á #[_,rfl,?_])
 .have m:atKey h k=!p:=atKey_of_get n M;have:=d.val k;rw [m] at this
  cases f:bM kvs k with
  | none=>rw [f] at this;show absurd this (λ z=>nomatch z)
  | some v=>rw [f] at this;show K v _ _ f (I.tok _) this
 .have f:bM kvs k=none:=by
   have m:atKey h k=none:=Sy.sJ x;have:=d.val k;rw [m] at this
   cases f:bM kvs k with
   | none=>rfl
   | some v=>rw [f] at this;show absurd this (λ z=>nomatch z)
  show L _ f ?_;let#[q,C,B,w,D,F,G,_,J]:=l;have g:KT H (kvs++[(k,z)]) (h++[(k,b,r)]):=by
   have:=d.put k (b:=b) o P;rw [show putK kvs k z=kvs++[(k,z)] from dh _ f,storedH_new (Sy.sJ x)] at this;show this
  show iZ I (by rw [e];show True.intro) N ⟨q,w⟩ ⟨by rw [Â,â];rfl',u,_,g.keeps λ c W t=> ?_,q,C,B,w,D,F,G,J⟩;rw [au (fj t e (λ z=>nomatch z))];show t
end
abbrev R4(td ty:TE):TE:=λ σ H Q=>td σ H λ x H1=> ∃a,x= .ref a/\IsD H1 a/\ty σ H1 λ y H2=> ∃kvs k b v,H2 a=!(.dT kvs)/\y= .ref b/\H2 b=!(.tup (k.map kV))/\bM kvs k=!v/\Q v (upd H2 a (.dT (dN kvs k)))
def Gn(td ty tx:TE):TE:=λ σ H Q=>td σ H λ x H1=> ∃a,x= .ref a/\IsD H1 a/\ty σ H1 λ y H2=>tx σ H2 λ z H3=> ∃kvs k b,H3 a=!(.dT kvs)/\y= .ref b/\H3 b=!(.tup (k.map kV))/\↑kvs<sizeLine/\
 (∀v,bM kvs k=!v->Q v H3)/\(bM kvs k=none->Q z (upd H3 a (.dT (kvs++[(k,z)]))))
section
variable{X:Cx}
theorem Pq(B:X.A.units+1<cLine)(A:PE X o td)(z:PE X e ty)(m:M1 X o "pop" apos e cpos):PE X (.Call (.Attribute o "pop" apos) [e] [] cpos) (R4 td ty):=by
 intro c s i H Q I h;show wpAny_Call_method m.base m.few m.line Ľ PySem.F.slot_dict_pop PySem.F.type_dict_pop (bF (A c s i H _ I h) λ u K ob=> ?_);let#[x,j,g,G,a,t,d,E]:=ob;subst t;obtain rfl:u=Value.ref a:=G;let#[L,M,_]:=ye g d;show#[L,M,?_];rw [m.trees];show ĕ rfl (ŷ (ō (bF (z c K i j _ g E) λ C O ob=> ?_)));let#[y,N,n,J,D,k,b,v,q,w,r,l,F]:=ob;show Ŵ ?_;subst w
 cases (show C=Value.ref b from J);show U7 B n q r l λ R P p f=>#[v,_,p,f,F]
theorem Pr(L:X.A.units+1<cLine)(K:PE X o td)(F:PE X e ty)(G:PE X f tx)(m:M2 X o "setdefault" apos e f cpos):PE X (.Call (.Attribute o "setdefault" apos) [e,f] [] cpos) (Gn td ty tx):=by
 intro c s j H Q I h;show wpAny_Call_method m.base m.few m.line Ľ PySem.F.slot_dict_setdefault PySem.F.type_dict_setdefault (bF (K c s j H _ I h) λ u W ob=> ?_);let#[x,q,n,T,a,D,d,O]:=ob;subst D;obtain rfl:u=Value.ref a:=T;let#[t1,t2,_]:=ye n d;show#[t1,t2,?_];rw [m.trees];show ĕ rfl (ŷ (ō (bF (F c W j q _ n O) λ M Y ob=> ?_)));let#[y,r,w,U,P]:=ob;show ō (bF (G c Y j r _ w P) λ fv s3 ob=> ?_);let#[z,t,A,p,N,k,b,B,E,C,J,R,S]:=ob;show Ŵ ?_;subst E
 cases (show M=Value.ref b from U);show U8 L A B C J p (λ v w' Z l g i=>#[v,t,g,i,R v l]) λ Z l g=>#[z,_,g,p,S l]
end
end L2
end
section
namespace Nk
open PySem
section
variable{n:Nat}
def R5(prog:ϓ)(w:ϕ)(A:ϖ)(P:Nat->ϋ->Prop)(St:Nat->ϒ->Prop)(bt:Nat->Nat->ϑ):Prop:=
 ∀m i j x y (s:ώ) (Q:϶) (E:϶),St m s.heap->P i x->P j y->Q (.bool (bt i j)) s->wpAny (model prog w) A (richCompare .Lt x y) Q E s
theorem nW:(toString "min"++toString ".loop":String)="min.loop":=by decide
theorem Pu(W:Walks prog w A.in1 I fp wr n P St)(E:R5 prog w A.in1 P St bt)(r:S∉fp): ∀(k j:Nat)(s:ώ)(x:ϋ)(c:Nat),n=j+1+k->St (j+1) s.heap->P (argBest bt j) x->
  s.heap.get? S=!{ cls:= .type "list",dict:=none,data:= .seq ([x,x].toArray) c,slots:= ([].toArray) }->
  (∀v h' D,P (argBest bt (n-1)) v->(∀b o,b∉wr->b≠S->s.heap.get? b=!o->h'.get? b=!o)->R (.ok (.ret v)) { s with heap:=h',toks:=D })->
  codeAny (model prog w) A (.builtin "min.loop" #[[.ref I, .none, .ref S],[]]) R s:=by
 have t:S∉wr:=λ h=>r (W.sub _ h)
 intro k;induction k with
 | zero=>
  intro j s x c N L C q B;have M:j+1=n:=N.symm;show ř F.entry_min_loop ?_;rw [Ħ Ŋ _];show Zl (Ġ q rfl (Zl (ν (W.done s _ _ (M▸L) λ h' D p=> ?_))));have d:=p S _ t q;show Zl (wpAny_updateSeq d rfl (Zl (Ũ (Á (B x _ D (by rw [<- M];show C) λ b o m a e=> ?_)))));rw [ņ _ _ (Ne.symm a)];show p b o m e
 | succ k ih=>
  intro j s x c N L C q B;show ř F.entry_min_loop ?_;rw [Ħ Ŋ _];show Zl (Ġ q rfl (Zl (ν (W.item (j+1) s _ _ () L λ y h' D O i p=> ?_))));have d:=p S _ t q;have u: ∀{f:Obj->Obj}{b:ό}{o:Obj},b≠S->h'.get? b=!o->(h'.update S f).get? b=!o:=λ m e=>by rw [ņ _ _ (Ne.symm m)];show e
  change wpAny _ A.in1 (tryCatch (holding [y,y] (richCompare .Lt y x >>= _)) _ >>= _) _ _ _;show Zl (ν (þ (Zl (E _ (j+1) (argBest bt j) y x _ _ _ i O C (Zl (þ (č (Zl (Ũ (Á ?_))))))))))
  cases m:bt (j+1) (argBest bt j) with
  | true=>
   simp-iota only [ĺ];show Zl (wpAny_updateSeq d rfl (Zl (Ũ ?_)));rw [nW];show Á #[plainId_quiet Ŋ _,ih (j+1) _ y _ () (W.frame _ _ _ i λ b H o e=>u (λ z=>r (z▸H)) e) (by rw [argBest,if_pos m];show O) (ĝ _ d rfl) λ v G l J K=>B v G l J λ b o g a e=>K b o g a (u a (p b o g e))]
  | false=>
   simp-iota only [á,ą];show Zl (Ũ ?_);rw [nW];show Á #[plainId_quiet Ŋ _,ih (j+1) _ x c () i (by rw [argBest,if_neg (by rw [m];decide)];show C) d λ v G l J K=>B v G l J λ b o g a e=>K b o g a (p b o g e)]
theorem Gp
  (h:wpAny (model prog w) A.in1 (pyIter x) (λ it s₂=> ∃I fp wr n P St bt,it= .ref I/\Walks prog w A.in1 I fp wr n P St/\St 0 s₂.heap/\(∀b∈fp,b<s₂.heap.objs.size)/\0<n/\R5 prog w A.in1 P St bt/\
   ∀v h' C,P (argBest bt (n-1)) v->(∀b o,b∉wr->s₂.heap.get? b=!o->h'.get? b=!o)->Q v { s₂ with heap:=h',toks:=C }) E s):
  wpAny (model prog w) A (call (.builtin "min") [x]) Q E s:=by
 show call_function_tree F.kind_min F.plain_min F.entry_min (F.args_min1 _) ?_;change wpAny _ A.in1 (Builtin.Builtins.bindParams "min" ["key","default"] 0 #[[],[]] >>= _) _ _ s;show Zl (wpAny_of_eq (a:=[none,none]) rfl (Zl (Á (Zl (ċ h (λ it s₂ j=> ?_) λ _ _ e=>e)))));let#[I,fp,wr,n,P,St,bt,rfl,W,O,q,K,l,G]:=j;show Zl (õ ?_);have c:s₂.heap.objs.size∉fp:=λ J=>ć _ (q _ J)
 have m:s₂.heap.objs.size∉wr:=λ h=>c (W.sub _ h)
 rw [nW];show Á #[plainId_quiet Ŋ _,ř F.entry_min_loop ?_];rw [Ħ Ŋ _];have u:(s₂.heap.push { cls:= .type "list",data:= .seq ([].toArray) }).get? s₂.heap.objs.size=!{ cls:= .type "list",dict:=none,data:= .seq ([].toArray) 0,slots:= ([].toArray) }:=Ê _ rfl;show Zl (Ġ u rfl (Zl (ν (W.item 0 _ _ _ K (W.frame _ _ _ O λ b _ o e=>Ã _ e) λ y h' C M r B=> ?_))));have d:=B s₂.heap.objs.size _ m u;have k: ∀{f:Obj->Obj}{b:ό}{o:Obj},b≠s₂.heap.objs.size->h'.get? b=!o->(h'.update s₂.heap.objs.size f).get? b=!o:=λ H e=>by rw [ņ _ _ (Ne.symm H)];show e
 change wpAny _ A.in1 (updateSeq s₂.heap.objs.size (λ _=> ([y,y].toArray)) >>= _) _ _ _;show Zl (wpAny_updateSeq d rfl ?_);rw [nW];show Á #[plainId_quiet Ŋ _,Pu W l c (n-1) 0 _ y _ () (W.frame _ _ _ r λ b p o e=>k (λ z=>c (z▸p)) e) M (ĝ _ d rfl) λ v D t L N=>G v D t L λ b o i e=> ?_];have g:b≠s₂.heap.objs.size:=ã (Ì e);show N b o i g (k g (B b o i (Ã _ e)))
end
end Nk
namespace L2
open PySem PySem.Spec PyProof.Rows Nk
theorem wF(f:Nat->ϊ Int): ∀k,argBest (λ i j=>HT.lexLt (f i) (f j)) k<=k/\ ∀j,j<=k->HT.lexLt (f j) (f (argBest (λ i j=>HT.lexLt (f i) (f j)) k))=false
 | 0=>#[Nat.le_refl _,λ j a=>by rw [Nat.le_zero.mp a];show ul _]
 | k+1=>by
  let#[d,c]:=wF f k;rw [argBest];split
  .rename_i b;show#[Nat.le_refl _,λ j a=> ?_];rcases Ξ a with a | rfl
   .show Gh (wy b) (c j ())
   .show ul _
  .rename_i b;show#[(),λ j a=> ?_];rcases Ξ a with a | rfl
   .show c j ()
   .show ο.mpr b
def Gq:ϊ V->Hp->VK->Prop:=λ vs H Q=> ∃(a:ό)(kvs:ϊ (ϊ Int×V)),vs=[.ref a]/\H a=!(.dT (kvs.map λ p=>(p.1.map Sum.inl,p.2)))/\kvs≠[]/\
 ∀b k,H b=!(.tup (k.map V.int))->k∈kvs.map (·.1)->(∀k'∈kvs.map (·.1),HT.lexLt k' k=false)->Q (.ref b) H
def CJ{X:Cx}(hc:X.calm=true)(hu:X.A.units+1<cLine):cB X (.builtin "min") Gq:=by
 intro ad s σ H vs us Q I rv h;let#[a,c,rfl,ea,ac,q]:=h;let#[u,rfl,ru]:=rv.one
 cases (show u=Value.ref a from ru);let#[z,hd,w,T,dd]:=oY I.hok ea;let#[o,Y,ep,N,ab,L,he,_,hn]:=dd;have G:↑c=↑w:=by have:=Ğ T;rw [Qb] at this;show this
 have ae:Y.size=↑c:=by rw [<- Ċ,he,Qb,G]
 have R:0<↑c:=Γ.mpr ac;have d: ∀{i:Nat}{x},w[i]? =!x-> ∃p,c[i]? =!p/\H x.2.1=!(.tup (p.1.map V.int)):=λ {i x} f=>by
  have F:i<↑c:=by rw [G];show(À.mp f).1
  let#[p,y,h1,h2,h3,h4,_]:=iy i T (by rw [Qb];show F);rw [f] at h2
  cases h2;rw [Wp] at h1;let#[p',E,rfl]:=Î.mp h1;show#[p',E,?_];rw [h4,Å];rfl
 have n: ∀{i:Nat}{x p},w[i]? =!x->c[i]? =!p-> ∃g:ϊ ϋ,IsTup s.heap x.2.1 g.toArray/\IntsAre g p.1:=λ {i x p} f t=>by
  let#[p',E,e2]:=d f;rw [t] at E
  cases E;let#[g,r,ht,_]:=I.tuple (SqT.of (K:=X.K) e2);show#[g,ht,lM r]
 let#[S,B]: ∃S:Nat->ϊ Int,∀ {i p},c[i]? =!p->S i=p.1:=⟨λ i=>((c[i]?).map λ p=>p.1).getD [],λ {i p} t=>by dsimp only;rw [t];rfl⟩;show Gp (pD hd ⟨o,N,ab.1⟩ N L ⟨s.heap.objs.size,s.heap.objs.size::a::w.map (·.2.1),[s.heap.objs.size],↑c,(λ i v=> ∃x,w[i]? =!x/\v= .ref x.2.1),
  (λ i h=>h.IsKeyIter s.heap.objs.size a i Y.size ep/\h.get? a=!o/\ ∀x∈w,∀ob,s.heap.get? x.2.1=!ob->h.get? x.2.1=!ob),(λ i j=>HT.lexLt (S i) (S j)),rfl,?W,⟨⟨_,Ê _ rfl,rfl,rfl⟩,Ã _ N,λ x _ ob e=>Ã _ e⟩,?lt,R,?cmp,λ v M tk hv kp=> ?fin⟩)
 case lt=>
  intro b hb;rw [show(s.heap.push { cls:= .type "dict_keyiterator",data:= .fields ([.ref a, .int 0 0, .int Y.size 0, .int ep 0].toArray) }).objs.size=s.heap.objs.size+1 from Ī ..];rcases È.mp hb with rfl | hb
  .show ĵ _
  rcases È.mp hb with rfl | hb
  .show ĩ (Ì N)
  let#[x,D,rfl]:=Zs.mp hb;let#[i,F]:=ó.mp D;let#[p,t,_]:=d F;let#[g,#[ob,E,_],_]:=n F t;show ĩ (Ì E)
 case cmp=>
  rintro m i j x y U Q' Z ⟨_,_,hk⟩ ⟨x',f,rfl⟩ ⟨y',hy,rfl⟩ J;let#[p1,O,_]:=d f;let#[p2,P,_]:=d hy;let#[i1,#[o1,g1,r1],n1]:=n f O;let#[i2,#[o2,g2,r2],n2]:=n hy P;dsimp only at J;rw [B O,B P] at J;show HT.xQ (A:=X.A.in1) #[o1,hk x' (Xs f) _ g1,r1] #[o2,hk y' (Xs hy) _ g2,r2] n1 n2 (by change X.A.units+1<cLine;show hu) J
 case W=>
  have na:a≠s.heap.objs.size:=ã (Ì N);have nx: ∀x∈w,x.2.1≠s.heap.objs.size:=λ x D=>by
   let#[i,F]:=ó.mp D;let#[p,t,_]:=d F;let#[g,#[ob,E,_],_]:=n F t;show ã (Ì E)
  show#[λ b hb=>by rw [Zp.mp hb];show Ë,λ i h M l k=>#[l.1.at λ ob e=>k _ Ë ob e,k a (É _ Ë) _ l.2.1,λ x D ob e=>k _ (É _ (É _ (Zs.mpr #[x,D,rfl]))) _ (l.2.2 x D ob e)],λ i U Q' Z F l J=> ?_,λ U Q' Z l J=> ?_,λ i U Q' Z l hq=>wpAny_pyIter_keyiter l.1 hq]
  .show vU (I.ok.hd hc) l.1 l.2.1 L () λ M a1 a2=>J _ M U.toks ?_ #[a1,(a2.2 a na).trans l.2.1,λ x D ob e=>(a2.2 _ (nx x D)).trans (l.2.2 x D ob e)] λ b ob hb e=>(a2.2 b λ z=>hb (by rw [z];simp)).trans e
   have f:w[i]? =!(w[i]'(by rfl')):=Qr ();show#[_,f,?_];have:Y.toList[i]? =!(entryOfKey (tupleKind (bB X.prog X.w)) (w[i]'(by rfl'))):=by rw [he,Wp,f];rfl
   rw [ø,ò ()] at this;rw [Þ this];rfl
  .show zZ (I.ok.hd hc) l.1 l.2.1 L () λ M eb=>J M U.toks λ b ob hb e=>eb b ob (λ z=>hb (by rw [z];simp)) e
 case fin=>
  let#[x,f,rfl]:=hv;let#[p,t,e2]:=d f;let#[b1,b2]:=wF S (↑c-1);show#[.ref x.2.1,H,I.kept (t':=tk) λ b ob e=>kp b ob (λ z=> ?_) (Ã _ e),rfl,q _ _ e2 (Zs.mpr #[p,Xs t,rfl]) λ k' mk=> ?_]
  .show absurd (Zp.mp z) (ã (Ì e))
  .obtain ⟨p',C,rfl⟩:=Zs.mp mk;let#[j,hj]:=ó.mp C;have af:=(À.mp hj).1;have:=b2 j ();rw [B hj,B t] at this;show this
end L2
end
section
namespace Nk
open PySem PySem.Spec PyProof PyProof.Rows
mutual
def Ah:PyData->PyData->ϑ
 | .int a, .int b=>decide (a<b)
 | .str x, .str y=>decide (x.cps.toList<y.cps.toList)
 | .tuple xs, .tuple ys=>qO xs ys
 | _,_=>false
def qO:ϊ PyData->ϊ PyData->ϑ
 | [],[]=>false
 | [],_::_=>true
 | _::_,[]=>false
 | x::xs,y::ys=>if PyData.eqv x y=true then qO xs ys else Ah x y
end
mutual
inductive CmpD:PyData->PyData->Prop where
 | int (a b:Int):CmpD (.int a) (.int b)
 | str (x y:ϐ):CmpD (.str x) (.str y)
 | tup {xs ys:ϊ PyData}:CmpDs xs ys->CmpD (.tuple xs) (.tuple ys)
inductive CmpDs:ϊ PyData->ϊ PyData->Prop where
 | nil {ys:ϊ PyData}:CmpDs [] ys
 | over {xs:ϊ PyData}:CmpDs xs []
 | cons {x y:PyData} {xs ys:ϊ PyData}:CmpD x y->CmpDs xs ys->CmpDs (x::xs) (y::ys)
end
section
def Gr(r:ReadsAll h c ds d):↑c=↑ds:=by
 induction c generalizing ds d with
 | nil=>cases r;rfl
 | cons v c ih=>
  cases r with
  | cons a b=>show Ö (· +1) (ih b)
def U9{m:Nat}{h:Type}{f:ϋ×ϋ->h->Sem (ForInStep h)}{i:h}{g:ϑ->h}
  (r: ∀x y d e j k (Q:ForInStep h->ώ->Prop),d.depth<=m->Reads s.heap x d j->Reads s.heap y e k->CmpD d e->PyData.canLay0 d=true->PyData.canLay0 e=true->(if PyData.eqv d e=true then Q (.yield i) s else Q (.done (g (Ah d e))) s)->wpAny (model prog w) A (f (x,y) i) Q E s):
  ∀(xs ys:ϊ ϋ)(ds es:ϊ PyData)(j k:ϊ ό)(Q:h->ώ->Prop),PyData.depthAll ds<=m->ReadsAll s.heap xs ds j->ReadsAll s.heap ys es k->CmpDs ds es->PyData.canLayAll0 ds=true->PyData.canLayAll0 es=true->
   (qO ds es=decide (↑ds<↑es)->Q i s)->Q (g (qO ds es)) s->wpAny (model prog w) A (forIn (xs.zip ys) i f) Q E s:=by
 intro xs;induction xs with
 | nil=>
  intro ys ds es j k Q p o q c l n a b
  cases o;rw [List.zip_nil_left,Ŧ];show Á (a ?_)
  cases es<;>simp [qO]
 | cons x xs ih=>
  intro ys ds es j k Q p o q c l n a b
  cases o with
  | cons r1 r2=>
   cases q with
   | nil=>
    rw [List.zip_nil_right,Ŧ];show Á (a (by simp [qO]))
   | cons k1 k2=>
    cases c with
    | cons c1 c2=>
     simp only [PyData.canLayAll0,Ć] at l n;simp only [PyData.depthAll] at p;rw [Μ,ü];show Zl (r _ _ _ _ _ _ _ () r1 k1 c1 l.1 n.1 ?_);rw [qO] at a b;split
     .rename_i e;rw [if_pos e] at a b;show ih _ _ _ _ _ Q () r2 k2 c2 l.2 n.2 (λ z=>a (by rw [z];show Α.mpr (by simp))) b
     .rename_i e;rw [if_neg e] at b;show Á b
def Px: ∀(n:Nat)(d e:PyData)(A:ϖ)(a b:ϋ)(l o:ϊ ό)(Q:϶)(E:϶),d.depth<=n->CmpD d e->Reads s.heap a d l->Reads s.heap b e o->PyData.canLay0 d=true->PyData.canLay0 e=true->A.units+n+1<cLine->Q (.bool (Ah d e)) s->wpAny (model prog w) A (richCompare .Lt a b) Q E s:=by
 intro n;induction n with
 | zero=>
  intro d e A a b l o Q E q c h k t u H f
  cases c with
  | int i j=>
   cases h;cases k;show wpAny_lt_int (A:=A) (Q:=Q) f
  | str x y=>
   cases h;cases k;show lt_str (A:=A) (Q:=Q) f
  | tup c=>simp [PyData.depth] at q
 | succ n ih=>
  intro d e A a b l o Q E q c h k t u H f
  cases c with
  | int i j=>
   cases h;cases k;show wpAny_lt_int (A:=A) (Q:=Q) f
  | str x y=>
   cases h;cases k;show lt_str (A:=A) (Q:=Q) f
  | tup c=>
   cases h with
   | tuple e1 c1 d1 r1=>
    cases k with
    | tuple e2 c2 d2 r2=>
     change Q (.bool (qO _ _)) s at f;simp only [PyData.depth] at q;simp only [PyData.canLay0] at t u;show wpAny_richCompare_same_room (op:= .Lt) #[_,e1,c1] #[_,e2,c2] χ
      (ð χ #[_,e1,c1] PySem.F.entry_tuple_lt ?_ (PySem.F.args_tuple_lt_2 _ _)) ()
     change wpAny _ _ (isInstance (.ref _) (.type "tuple") >>= _) _ _ s;show Zl (ť #[_,e2,c2] ų ?_);simp only [Ĕ,á,ą];show Zl (Ū e1 d1 ?_);show Zl (Ū e2 d2 ?_);show Zl ?_;show U9 (m:=n) (g:=λ b=>#[!(.done (.ret (.bool b))),#[]]) ?_ _ _ _ _ _ _ _ () r1 r2 c t u ?_ ?_
     .intro x y d e l o I G C D F v B r;show Zl (SeqAt.eqBoolOverData _ _ _ _ _ _ _ _ _ _ _ _ C D v B (by change A.units+1+_<cLine;rfl') ?_);split at r
      .rename_i p;rw [p];simp only [Ĕ,á,ą];show Á r
      .rename_i p;rw [ο.mpr p];simp only [Bool.not_false,ĺ];show Zl (Ő (Zl ?_));show ih _ _ _ _ _ _ _ _ _ G F C D v B (by change A.units+1+n+1<cLine;rfl') ?_;show Zl (Á (Á r))
     .intro z;rw [z] at f;rw [<- Gr r1,<- Gr r2] at f;show Á #[_,rfl,(λ e=>nomatch e),f]
     .show Á #[_,rfl,(λ e=>nomatch e),f]
end
end Nk
namespace L2
open PySem PySem.Spec PyProof PyProof.Rows Nk
def uv(K:Ϗ):ϊ V->Hp->VK->Prop:=λ xs H Q=> ∃(a:ό)(us:ϊ (V×PyData))(f:PyData->Int),xs=[.ref a]/\SqL K H a (us.map (·.1))/\us≠[]/\
 (∀u∈us,Dp K H u.1 u.2/\u.2.canLay0=true/\u.2.depth<=8)/\(∀u∈us,∀v∈us,CmpD u.2 v.2/\(Ah u.2 v.2=true->f u.2<=f v.2)/\(Ah u.2 v.2=false->f v.2<=f u.2))/\
 ∀u∈us,(∀v∈us,f u.2<=f v.2)->Q u.1 H
theorem wG{bt:Nat->Nat->ϑ}{f:Nat->Int}{n:Nat}(h: ∀i j,i<n->j<n->(bt i j=true->f i<=f j)/\(bt i j=false->f j<=f i)): ∀k,k<n->argBest bt k<=k/\ ∀j,j<=k->f (argBest bt k)<=f j
 | 0,_=>#[Nat.le_refl _,λ j a=>by rw [Nat.le_zero.mp a];show Int.le_refl _]
 | k+1,hk=>by
  let#[g,c]:=wG h k ();let#[d,e]:=h (k+1) (argBest bt k) hk ();rw [argBest];split
  .rename_i b;show#[Nat.le_refl _,λ j a=> ?_];rcases Ξ a with a | rfl
   .show Int.le_trans (d b) (c j ())
   .show Int.le_refl _
  .rename_i b;show#[(),λ j a=> ?_];rcases Ξ a with a | rfl
   .show c j ()
   .show e (ο.mpr b)
def yC{X:Cx}(hc:X.calm=true)(hu:X.A.units+12<cLine):cB X (.builtin "min") (uv X.K):=by
 intro al s σ H xs ap Q I rv h;let#[a,D,f,rfl,hx,ac,U,C,q]:=h;let#[u,rfl,ru]:=rv.one
 cases (show u=Value.ref a from ru);let#[c,r,ht,hz]:=I.list hx;have P:↑D=↑c:=by have:=↑r;rw [Qb] at this;show this
 have ai:0<↑D:=Γ.mpr ac;have g: ∀{i:Nat}{v:ϋ},c[i]? =!v-> ∃u∈D,D[i]? =!u/\RelV u.1 v/\ ∃Z,Reads s.heap v u.2 Z:=λ {i v} M=>by
  have O:i<↑D:=by rw [P];show(À.mp M).1
  let#[u,F]: ∃u,D[i]? =!u:=#[_,Qr O];have hm:=Xs F;let#[v',e',t]:=r.get (i:=i) (x:=u.1) (by rw [Wp,F];rfl);rw [M] at e'
  cases e';show#[u,hm,F,t,(U u hm).1.reads I t]
 let#[J,d]: ∃J:Nat->PyData,∀ {i u},D[i]? =!u->J i=u.2:=#[λ i=>((D[i]?).map λ p=>p.2).getD .none,λ {i u} hp=>by dsimp only;rw [hp];rfl];have R:a<s.heap.objs.size:=by let#[_,e,_]:=ht.isList;show Ì e
 have ab:a≠s.heap.objs.size:=ã R;have S:c.toArray.size=↑c:=Ù;have W:=Walks.list (prog:=X.prog) (w:=X.w) (A:=X.A.in1) (I.ok.hd hc) s.heap.objs.size a ab c.toArray;show Gp (δ ht.isList #[s.heap.objs.size,List.range (s.heap.objs.size+1),[s.heap.objs.size],↑c,(λ i v=>c[i]? =!v),(λ i h=>(h.IsListIter s.heap.objs.size a i/\h.IsList a c.toArray)/\ ∀b o,s.heap.get? b=!o->h.get? b=!o),(λ i j=>Ah (J i) (J j)),rfl,?W,#[#[#[_,Ê _ rfl,rfl,rfl],ht.isList.push _],λ b o e=>Ã _ e],?lt,(),?cmp,?fin])
 case lt=>
  intro b hb;rw [show(s.heap.push { cls:= .type "list_iterator",data:= .fields ([.ref a, .int 0 0].toArray) }).objs.size=s.heap.objs.size+1 from Ī ..];show í.mp hb
 case cmp=>
  rintro m i j x y N L K ⟨_,hk⟩ hx hy l;let#[u,T,G,_,Z,ra]:=g hx;let#[v,mv,ad,_,bs,rb]:=g hy;dsimp only at l;rw [d G,d ad] at l;show Px 8 u.2 v.2 _ x y Z bs _ _ (U u T).2.2 (C u T v mv).1 (Reads.keeps hk ra) (Reads.keeps hk rb) (U u T).2.1 (U v mv).2.1 (by change X.A.units+1+8+1<cLine;rfl') l
 case W=>
  have ag: ∀{h E:ϒ},(∀b o,s.heap.get? b=!o->h.get? b=!o)->(∀b o,b∉[s.heap.objs.size]->h.get? b=!o->E.get? b=!o)-> ∀b o,s.heap.get? b=!o->E.get? b=!o:=λ h1 h2 b o e=>h2 b o (λ z=>by
   rw [Zp.mp z] at e;show ć _ (Ì e)) (h1 b o e)
  show#[λ b hb=>by rw [Zp.mp hb];show í.mpr (ĵ _),λ i h E B k=>#[W.frame i h E B.1 λ b hb o e=>k b (í.mpr ?_) o e,λ b o e=>k b (í.mpr (ĩ (Ì e))) o (B.2 b o e)],λ i N L K O B l=>W.item i N L K (by rw [S];show O) B.1 λ v E tk M ah k=>l v E tk (by rw [<- ω];show M) #[ah,ag B.2 k] k,λ N L K B l=>W.done N L K (by rw [S];show B.1) l,λ i N L K B l=>W.self i N L K B.1 l];rcases È.mp hb with rfl | hb
  .show ĵ _
  .rw [Zp.mp hb];show ĩ R
 case fin=>
  intro v E tk M kp;let#[u,T,G,t,_]:=g M;let#[b1,b2]:=wG (bt:=λ i j=>Ah (J i) (J j)) (f:=λ i=>f (J i)) (n:=↑c) (λ i j O Y=>by
   let#[x,mx,ae,_]:=g (Qr O);let#[y,my,af,_]:=g (Qr Y);rw [d ae,d af];show(C x mx y my).2) (↑c-1) ()
  show#[u.1,H,I.kept (t':=tk) λ b ob e=>kp b ob (λ z=> ?_) (Ã _ e),t,q u T λ x mx=> ?_]
  .rw [Zp.mp z] at e;show ć _ (Ì e)
  .obtain ⟨j,Y⟩:=ó.mp mx;have am:=(À.mp Y).1;have:=b2 j ();rw [d Y,d G] at this;show this
def wH{X:Cx}(K:Ϗ)(a:X.K=K)(b:X.calm=true)(c:X.A.units+12<cLine):cB X (.builtin "min") (uv K):=a▸yC b c
end L2
end
section
namespace L2
open PySem PySem.Spec PyProof.Rows Nk
variable{i k:Nat}{c v:ϋ}{a:ό}
section
variable{X:Cx}
theorem Py(t:A.units+2<cLine)(I:Inv X pins σ H s)(g:SGet H a y o)(q:RelV y u)(h: ∀f s',Inv X pins σ H s'->RelV (o.getD .non) f->Q f s'):wpAny (model X.prog X.w) A (call (.builtin "dict.get") [.ref a,u]) Q E s:=by
 let#[p,k,b,e,n,j,i,l]:=g;subst j
 cases (show u=Value.ref b from q);let#[z,m,r,c,d]:=sG I.hok e n;show call_meetsIn PySem.F.slot_dict_get d.typeIs PySem.F.entry_dict_get (PySem.F.args_dict_get_2 _ _) (meetsH_dict_get (jD X.prog X.w) a b m) #[(show A.units+1+1<cLine by rfl'),k,r,sE I.hok i,d,h _ _ (I.tok _) ?_];rw [l];show(c.val k).getD rfl
end
abbrev Gs(td ty:TE):TE:=λ σ H Q=>td σ H λ x H1=> ∃a kvs,x= .ref a/\Rd H1 a (cD a kvs)/\ty σ H1 λ y H2=> ∃o,SGet H2 a y o/\Q (o.getD .non) H2
theorem Gu{X:Cx}{c:Pos}{q:TE}(E:X.A.units+2<cLine)(D:PE X o p)(C:PE X e q)(m:M1 X o "get" b e c):PE X (.Call (.Attribute o "get" b) [e] [] c) (Gs p q):=by
 intro f s r H Q I h;show wpAny_Call_method m.base m.few m.line Ľ PySem.F.slot_dict_get PySem.F.type_dict_get (bF (D f s r H _ I h) λ u M ob=> ?_);let#[x,t,j,K,a,F,B,d,G]:=ob;subst B;obtain rfl:u=Value.ref a:=K;let#[#[_,lo,_,_,n,P,O,k,l,R,_],_]:=R3 j.hok d;show#[#[n,k,l.1],λ N A=>by cases A;show#[n,k,l.2.1],?_];rw [m.trees];show ĕ rfl (ŷ (ō (bF (C f M r t _ j G) λ S T ob=> ?_)));let#[y,v,w,L,ov,g,J]:=ob;show Ŵ ?_;show Py E w g L λ W U z i=>#[_,v,z,i,J]
def pJ(K:Ϗ):ϊ V->Hp->VK->Prop:=λ xs H Q=> ∃(a:ό)(ss:ϊ ϐ),xs=[.ref a]/\SqT K H a (ss.map V.str)/\ss≠[]/\ ∀s∈ss,Q (.str s) H
section
variable{X:Cx}{s:ώ}{a:ό}{ss:ϊ ϐ}{its:ϊ ϋ}
theorem jM(r:Vals (ss.map V.str) its)(h:its[i]? =!v): ∃x t,ss[i]? =!x/\v= .str x t:=by
 have d:i<↑ss:=by
  have:=↑r;rw [Qb] at this;rw [this];show(À.mp h).1
 let#[x,c]: ∃x,ss[i]? =!x:=#[_,Qr d];let#[e,b,a]:=r.get (i:=i) (x:= .str x) (by rw [Wp,c];rfl);rw [h] at b
 cases b;let#[t,rfl]:=a;show#[x,t,c,rfl]
theorem Ai{a:ϒ}{d:Data}(f: ∀b o,b∉[s.heap.objs.size]->(s.heap.push { cls:=c,data:=d }).get? b=!o->a.get? b=!o): ∀b o,s.heap.get? b=!o->a.get? b=!o:=λ b o e=>by
 show f b o (λ g=> ?_) (Ã _ e);rw [Zp.mp g] at e;show ć _ (Ì e)
end
theorem CK{X:Cx}(C:X.calm=true):cB X (.builtin "min") (pJ X.K):=by
 intro w s Y H W S Q I L h;let#[a,g,rfl,J,k,q]:=h;let#[u,rfl,K]:=L.one
 cases (show u=Value.ref a from K);let#[b,r,p,R]:=I.tuple J;have n:↑g=↑b:=by have:=↑r;rw [Qb] at this;show this
 have o:0<↑g:=Γ.mpr k;have m:s.heap.IsTuple a b.toArray:=p;have f:a<s.heap.objs.size:=by let#[_,e,_]:=p;show Ì e
 show call_min_walk (ĳ m ⟨_,[_,a],[_],_,_,_,λ i j=>decide (((g[i]?).getD default).cps.toList<((g[j]?).getD default).cps.toList),rfl,Walks.tuple (A:=X.A.in1) (I.ok.hd C) _ a (ã f) b.toArray,
  ⟨⟨_,Ê _ rfl,rfl,rfl⟩,m.push _⟩,λ c hcc=> ?_,by simpa using (show 0<↑b by rfl'),λ i j T U z O N D E h=> ?_,λ v P M B G=> ?_⟩)
 .show c<(s.heap.push _).objs.size;rw [Ī];rcases È.mp hcc with rfl | hcc
  .show ĵ _
  .rw [Zp.mp hcc];show ĩ f
 .obtain ⟨x,t,d,rfl⟩:=jM r (by simpa using D);let#[y,t',l,rfl]:=jM r (by simpa using E);dsimp only at h;rw [d,l] at h;show richCompare_gives (op:= .Lt) (Ŷ z x t) (Ŷ z y t') F.slot_str_lt F.entry_str_lt (F.args_str_lt_2 _ _) (gives_str_lt x y t t') (λ x=>nomatch x) h
 .obtain ⟨x,t,d,rfl⟩:=jM r (by simpa using B);show#[.str x,H,I.kept (t':=M) (Ai G),#[t,rfl],q x (Xs d)]
theorem CN{X:Cx}(C:X.calm=true):cB X (.builtin "max") (pJ X.K):=by
 intro w s Y H W S Q I L h;let#[a,g,rfl,J,k,q]:=h;let#[u,rfl,K]:=L.one
 cases (show u=Value.ref a from K);let#[b,r,p,R]:=I.tuple J;have n:↑g=↑b:=by have:=↑r;rw [Qb] at this;show this
 have o:0<↑g:=Γ.mpr k;have m:s.heap.IsTuple a b.toArray:=p;have f:a<s.heap.objs.size:=by let#[_,e,_]:=p;show Ì e
 show call_max_walk (ĳ m ⟨_,[_,a],[_],_,_,_,λ i j=>decide (((g[j]?).getD default).cps.toList<((g[i]?).getD default).cps.toList),rfl,Walks.tuple (A:=X.A.in1) (I.ok.hd C) _ a (ã f) b.toArray,
  ⟨⟨_,Ê _ rfl,rfl,rfl⟩,m.push _⟩,λ c hcc=> ?_,by simpa using (show 0<↑b by rfl'),λ i j T U z O N D E h=> ?_,λ v P M B G=> ?_⟩)
 .show c<(s.heap.push _).objs.size;rw [Ī];rcases È.mp hcc with rfl | hcc
  .show ĵ _
  .rw [Zp.mp hcc];show ĩ f
 .obtain ⟨x,t,d,rfl⟩:=jM r (by simpa using D);let#[y,t',l,rfl]:=jM r (by simpa using E);dsimp only at h;rw [d,l] at h;show richCompare_gives (op:= .Gt) (Ŷ z x t) (Ŷ z y t') F.slot_str_gt F.entry_str_gt (F.args_str_gt_2 _ _) (gives_str_gt x y t t') (λ x=>nomatch x) h
 .obtain ⟨x,t,d,rfl⟩:=jM r (by simpa using B);show#[.str x,H,I.kept (t':=M) (Ai G),#[t,rfl],q x (Xs d)]
def yD{X:Cx}(K:Ϗ)(a:X.K=K)(b:X.calm=true):cB X (.builtin "min") (pJ K):=a▸CK b
def yE{X:Cx}(K:Ϗ)(a:X.K=K)(b:X.calm=true):cB X (.builtin "max") (pJ K):=a▸CN b
def DG(K:Ϗ)(H:Hp)(a:ό)(xs:ϊ V):ϑ->Prop
 | true=>SqL K H a xs
 | false=>SqT K H a xs
def Xa(h:ϒ)(a:ό)(xs:ϔ ϋ):ϑ->Prop
 | true=>h.IsList a xs
 | false=>h.IsTuple a xs
def Y5:ϑ->String
 | true=>"list_iterator"
 | false=>"tuple_iterator"
abbrev itO(q:ϑ)(l:ό):Obj:={ cls:= .type (Y5 q),data:= .fields ([.ref l, .int 0 0].toArray) }
def Y6(h:ϒ)(i l:ό)(k:Nat)(q:ϑ):Prop:= ∃o,h.get? i=!o/\o.cls= .type (Y5 q)/\o.data= .fields ([.ref l, .int k 0].toArray)
theorem yF{X:Cx}(I:Inv X pins σ H s): ∀{q:ϑ},DG X.K H a b q-> ∃its,Vals b its/\Xa s.heap a its.toArray q
 | true,h=>by let#[its,r,p,_]:=I.list h;show#[its,r,p.isList]
 | false,h=>by let#[its,r,p,_]:=I.tuple h;show#[its,r,p]
theorem Aj{i:ό}(a:l≠i): ∀{q:ϑ},Drw prog w i l b λ k h=>Y6 h i l k q/\Xa h l b q
 | true=>G5 a
 | false=>Ow a
theorem Gv: ∀{q:ϑ},Xa h a b q-> ∃o,h.get? a=!o/\(o.cls= .type "list"\/o.cls= .type "tuple")/\(q=true->o.cls= .type "list")
 | true,⟨o,e,c,_⟩=>#[o,e, .inl c,λ _=>c]
 | false,⟨o,e,c,_⟩=>#[o,e, .inr c,λ z=>by cases z]
def Ua(K:Ϗ)(a b:ό)(q:ϑ):It:=
 ⟨λ i H=> ∃xs ys x y,SqT K H a xs/\DG K H b ys q/\xs[i]? =!x/\ys[i]? =!y,
  λ i H v H'=> ∃p x y,H p=none/\v= .ref p/\H'=upd H p (.tup [x,y])/\(∀xs,SqT K H a xs->xs[i]? =!x)/\ ∀ys,DG K H b ys q->ys[i]? =!y,
  λ i H=> ∃xs ys,SqT K H a xs/\DG K H b ys q/\(↑xs<=i\/↑ys<=i)⟩
structure ZipStG(z TI TO i1 i2 a b:ό)(q:ϑ)(i:Nat)(h:ϒ):Prop where
 hz:IsZip h z TI TO .none
 hTI:IsPair h TI (.ref i1) (.ref i2)
 hTO: ∃u v,IsPair h TO u v
 h1:Y6 h i1 a i false
 h2:Y6 h i2 b i q
 aTO:a≠TO
 bTO:b≠TO
theorem PB{X:Cx}{c:ϊ V}(I:Inv X pins σ H s): ∀{q:ϑ},DG X.K H a b q->DG X.K H a c q->b=c
 | true,h,h'=>I.list_inj h h'
 | false,h,h'=>I.tuple_inj h h'
theorem pK{h:ϒ}{b TI TO:ό}{C:ϔ ϋ}(D:ZipNe z TI TO i1 i2)(w:h.IsTuple a C)(x:Xa h b ys q)(B:ZipStG z TI TO i1 i2 a b q i h):ZipApart z TI TO i1 i2 a b:=by
 let#[r,u,#[H,v0,v],#[E,o,m,_],#[F,p,n,_],d,f]:=B;let#[G,j,g,_]:=w;let#[ob,k,t,_]:=Gv x;have l: ∀T:String,T≠"list"->T≠"tuple"->ob.cls≠ .type T:=λ T y A e=>by
  rcases t with c | c<;>rw [c] at e<;>cases e
  .show y rfl
  .show A rfl
 have s: ∀q,Y5 q≠"list"/\Y5 q≠"tuple"/\Y5 q≠"zip":=λ q=>by cases q<;>decide
 show⟨D.TIz,D.TOz,D.i1z,D.i2z,D.TITO,D.TIi1,D.TIi2,D.TOi1,D.TOi2,D.i12,
  mD j r (by rw [g];change Value.type "tuple"≠Value.type "zip";decide),d,mD j o (by rw [g,m];decide),mD j p (by rw [g,n];cases q<;>decide),
  mD k r (l "zip" (by decide) (by decide)),f,mD k o (by rw [m];show l _ (by decide) (by decide)),mD k p (by rw [n];show l _ (s q).1 (s q).2.1)⟩
theorem CP{P:ϓ}{K:Ϗ}{TI TO:ό}(a b:ό)(D:ZipNe z TI TO i1 i2):
  Turn P w K (.Tuple elts k tpos) (Ua K a b q) [z,TI,TO,i1,i2] z (ZipStG z TI TO i1 i2 a b q) where
 mem:=by simp
 obj:=λ i h j c J=>by
  let#[r,f,#[u,v,g],#[M,B,c1,d1],#[N,C,c2,d2],_]:=j;simp only [È,å,ĥ] at J;rcases J with rfl | rfl | rfl | rfl | rfl
  .show #[_,r,λ v z=>by cases z]
  .show #[_,f,λ v z=>by cases z]
  .show #[_,g,λ v z=>by cases z]
  .show #[M,B,λ v z=>by rw [d1] at z;cases z]
  .show #[N,C,λ v z=>by rw [d2] at z;cases z]
 keep:=λ i h h' j t=>by
  let#[r,f,#[u,v,g],#[M,B,r1],#[N,C,r2],n1,n2]:=j;show#[t z (by simp) _ r,t TI (by simp) _ f,#[u,v,t TO (by simp) _ g],#[M,t i1 (by simp) _ B,r1],#[N,t i2 (by simp) _ C,r2],n1,n2]
 item:=by
  intro X hP hw hK J i T s σ H E I hf j hg;subst hP hw hK;let#[xs,ys,x,y,l,m,hx,hy]:=hg;let#[F,rv,p,_]:=I.tuple l;let#[R,G,S]:=yF I m;have A:=pK D p S j;let#[u,hu,ru]:=rv.get hx;let#[v,hv,ae]:=G.get hy;let#[r,f,#[u0,v0,g],Z,h2,ab,ac]:=id j;show rY (I.ok.hd J) A (Aj (q:=false) A.l1i1) (Aj (q:=q) A.l2i2) r f g #[Z,(show s.heap.IsTuple a F.toArray from p)] #[h2,S] (λ u' v' U Y h' a1 a2 a3 a4 a5 a7=> ?_) λ n=>by simp [hu,hv] at n
  simp only [ω,hu,hv] at U Y
  cases U
  cases Y;show#[_,rfl,wpAny_letOwnedTupleGo_zip a1 λ O b1 L=> ?_];have hT:s.heap.objs.size≠z:=Ģ (Ì r);have t: ∀c o,c∉[z,TI,TO,i1,i2]->s.heap.get? c=!o->O.get? c=!o:=λ c o d e=>by
   simp only [È,å,ĥ,not_or] at d;show L.extBut _ _ d.1 (a7 c o d.1 d.2.2.1 d.2.2.2.1 d.2.2.2.2 e)
  have e5:O.get? s.heap.objs.size=!{ cls:= .type "tuple",data:= .seq ([u,v].toArray) }:=L.extBut _ _ hT a5;let#[Q,I2]:=I.yields (t':=s.toks) t hf ru ae e5;let#[#[M,B,r1],_]:=a3;let#[#[N,C,r2],_]:=a4;show#[.ref s.heap.objs.size,_,I2,rfl,#[_,x,y,Q,rfl,rfl,λ ai h=>by rw [I.tuple_inj h l];show hx,λ al h=>by rw [PB I h m];show hy],#[b1,L.extBut _ _ D.TIz (a7 _ _ D.TIz D.TITO D.TIi1 D.TIi2 f),#[u,v,L.extBut _ _ D.TOz a2],#[M,L.extBut _ _ D.i1z B,r1],#[N,L.extBut _ _ D.i2z C,r2],ab,ac],λ c d=> ?_];have ad:c<s.heap.objs.size:=by
   let#[#[M,B,_],#[N,C,_]]:=(#[Z,h2]:_/\_);simp only [È,å,ĥ] at d;rcases d with rfl | rfl | rfl | rfl | rfl
   .show Ì r
   .show Ì f
   .show Ì g
   .show Ì B
   .show Ì C
  rw [au (ã ad)];show(hf c d).1
 done:=by
  intro X hP hw hK J i T s σ H E I hf j hg;subst hP hw hK;let#[xs,ys,l,m,af]:=hg;let#[F,rv,p,_]:=I.tuple l;let#[R,G,S]:=yF I m;have A:=pK D p S j;let#[r,f,#[u0,v0,g],Z,h2,_]:=id j;have ag:=↑rv;have ah:=↑G;show rY (I.ok.hd J) A (Aj (q:=false) A.l1i1) (Aj (q:=q) A.l2i2) r f g #[Z,(show s.heap.IsTuple a F.toArray from p)] #[h2,S] (λ u' v' U Y=> ?_) λ _ h' t=> ?_
  .have:=(À.mp (by simpa using U)).1;have:=(À.mp (by simpa using Y)).1;rfl'
  .show #[rfl,I.turnedAll (t':=s.toks) (λ c o d e=> ?_) hf];simp only [È,å,ĥ,not_or] at d;show t c o d.1 d.2.2.1 d.2.2.2.1 d.2.2.2.2 e
 self:=λ _ _ _ _ _ j h=>wpAny_pyIter_zip j.hz h
theorem wI(a b:ό)(o j:ϔ ϋ)(q:ϑ):
  Meets (Builtin.«zip.__new__» #[[.type "zip", .ref a, .ref b],[]]) (λ _ R s=>s.heap.IsTuple a o/\Xa s.heap b j q/\
   R (.ok (.ret (.ref (zo4 s.heap (w5 a) (itO q b)).objs.size))) { s with heap:=X8 s.heap (w5 a) (itO q b) }):=
 .of_wp λ n w A R s h=>by
  let#[e,g,d,i,f]:=s;let#[p,m,h]:=h;have l:=sub_zip;have k:Heap.IsTuple (Shared.heap ⟨e,g,d,i,f⟩) a o:=p
  cases q with
  | true=>
   have c:Heap.IsList (Shared.heap ⟨e.push (w5 a),g,d,i,f⟩) b j:=Heap.IsList.push m _
   wp_walk using ĳ k,δ c
   show#[_,rfl,h]
  | false=>
   have c:Heap.IsTuple (Shared.heap ⟨e.push (w5 a),g,d,i,f⟩) b j:=Heap.IsTuple.push m _
   wp_walk using ĳ k,ĳ c
   show#[_,rfl,h]
theorem yG{s:ώ}{b d:ό}{p:ϔ ϋ}(z:s.heap.IsTuple b p)(B:Xa s.heap d ys q)
  (h: ∀h',IsZip h' (s.heap.objs.size+4) (s.heap.objs.size+2) (s.heap.objs.size+3) .none->IsPair h' (s.heap.objs.size+2) (.ref s.heap.objs.size) (.ref (s.heap.objs.size+1))->
   IsPair h' (s.heap.objs.size+3) .none .none->Y6 h' s.heap.objs.size b 0 false->Y6 h' (s.heap.objs.size+1) d 0 q->
   (∀c o,s.heap.get? c=!o->h'.get? c=!o)->Q (.ref (s.heap.objs.size+4)) { s with heap:=h' }):
  wpAny (model prog w) A (call (.type "zip") [.ref b, .ref d]) Q E s:=by
 show callType_new F.called_zip (by decide) (F.typeCall_zip_2 _ _) (F.newCall_zip_2 _ _) (λ g=>F.args_object_init_3 g _ _) F.entry_zip_new (wI b d p ys q) #[z,B,?_];generalize hj1:w5 b=j1;generalize hj2:itO q d=j2;have t:Obj.isFreed j1=false:=by rw [<- hj1];rfl
 have v:Obj.isFreed j2=false:=by rw [<- hj2];rfl
 have i:(zo1 s.heap j1).objs.size=s.heap.objs.size+1:=Ī ..;have j:(zo2 s.heap j1 j2).objs.size=s.heap.objs.size+2:=by rw [Ī,i]
 have k:(zo3 s.heap j1 j2).objs.size=s.heap.objs.size+3:=by rw [Ī,j]
 have r:(zo4 s.heap j1 j2).objs.size=s.heap.objs.size+4:=by rw [Ī,k]
 have a: ∀ {c o} {h:ϒ} {u:Obj},h.get? c=!o->(h.push u).get? c=!o:=λ e=>Ã _ e
 have f:(X8 s.heap j1 j2).get? (zo4 s.heap j1 j2).objs.size=!_:=Ê _ rfl;have n:(X8 s.heap j1 j2).get? (zo3 s.heap j1 j2).objs.size=!_:=a (Ê _ rfl);have m:(X8 s.heap j1 j2).get? (zo2 s.heap j1 j2).objs.size=!_:=a (a (Ê _ rfl));have l:(X8 s.heap j1 j2).get? (zo1 s.heap j1).objs.size=!j2:=a (a (a (Ê _ v)));have y:(X8 s.heap j1 j2).get? s.heap.objs.size=!j1:=a (a (a (a (Ê _ t))));change _/\_;rw [j,k,r] at f;rw [i,j] at m;rw [k] at n;rw [i] at l;rw [r];show#[#[_,f,rfl],h _ f m n #[_,y,by subst hj1;rfl,by subst hj1;rfl] #[_,l,by subst hj2;rfl,by subst hj2;rfl] λ c o x=>a (a (a (a (a x))))]
abbrev R6(K:Ϗ)(ta:TA):TI:=λ σ H R=>ta σ H λ vs H1=> ∃a b xs ys q,vs=[.ref a, .ref b]/\SqT K H1 a xs/\DG K H1 b ys q/\R (Ua K a b q) H1
theorem PJ{X:Cx}{a b:Expr}(K:Ϗ)(F:X.K=K)(J:Gl X "zip")(hc:X.calm=true)(L:X.mg "zip"=none)(G:PA X [a,b] C)(M:starEach [a,b] X.env=[(false,eval a X.env),(false,eval b X.env)]:=by rfl)(j:starEach [b] X.env=[(false,eval b X.env)]:=by rfl):
  PI X (.Tuple elts k tpos) (.Call (.Name "zip" p) [a,b] [] m) (R6 K C):=by
 subst F;intro l s Z H R I h;show Call_ (gM I J L (show bootBuiltins "zip"=!(.type "zip") by ac_nf) (ă (bF (G m l s Z H _ I h) λ us d ⟨vs,E,f,P,O⟩=> ?_) (by rw [M,j]) (by rw [j];rfl)));let#[x,z,xs,ys,qb,e,u,v,q]:=O;subst e
 cases P with
 | cons r rr=>
  cases rr with
  | cons r' rr=>
   cases rr
   cases r
   cases r';let#[w,rv,A,_]:=f.tuple u;let#[y,Q,B]:=yF f v;have n:x<d.heap.objs.size:=by let#[o,e,_]:=A;show Ì e
   have t:z<d.heap.objs.size:=by let#[o,e,_]:=Gv B;show Ì e
   show yG (show d.heap.IsTuple x w.toArray from A) B λ h' D S T U Y N=> ?_
   show wpAny_pyIter_zip D ?_;show#[d.heap.objs.size+4,[d.heap.objs.size+4,d.heap.objs.size+2,d.heap.objs.size+3,d.heap.objs.size,d.heap.objs.size+1],_,_,E,rfl,f.kept (t':=d.toks) N,CP x z #[?_,?_,?_,?_,?_,?_,?_,?_,?_,?_],#[D,S,#[_,_,T],U,Y,ã (Ô n (Nat.le_add_right _ _)),ã (Ô t (Nat.le_add_right _ _))],λ c g=> ?_,q];all_goals first
    | (change(_:Nat)≠_;rfl')
    | skip
   have i:d.heap.objs.size<=c:=by
    simp only [È,å,ĥ] at g;rcases g with rfl | rfl | rfl | rfl | rfl<;>(change(_:Nat)<=_;rfl')
   show f.fpOk i (f.hok.fresh i)
end L2
namespace L2
open PySem PySem.Spec PyProof.Rows
section
variable{X:Cx}
theorem Ak(g: ∀pins xe,PSs (TY X pins xe) body tb):PS X (.Try body (h0::hs) [] [] pos) tb:=by
 intro pins s k H D I h;show wpAny_Try_except ?_;show ċ (g pins _ [] s k H D (I.tryIn _) h) (λ f j hs=> ?_) (λ e j z=>z)
 cases f with
 | next=>let#[a,b,c,d]:=hs;show Η #[a,b,c.tryOut,d]
 | brk=>let#[a,b,c,d]:=hs;show#[a,b,c.tryOut,d]
 | cont=>let#[a,b,c,d]:=hs;show#[a,b,c.tryOut,d]
 | ret u=>let#[v,a,b,c,i,d]:=hs;show#[v,a,b,c.tryOut,i,d]
end
end L2
end
set_option linter.all false
namespace Mm
variable{k:Nat}
theorem fc(x:Int)(m:Nat)(h:0<m): ∃n:Nat,x%(m:Int)=(n:Int)/\n<m:=by
 have a:=Ι x (b:=(m:Int)) ();have c:=Ŭ x (b:=(m:Int)) ();show#[(x%(m:Int)).toNat,(),()]
theorem PK(k:Nat):(0:Int)<1*2^k:=by
 rw [Int.one_mul];show Int.pow_pos (by decide)
theorem dU{a c:Type}(f:a->ύ c)(b:ϊ a)(x:a):(b++[x]).filterMap f=b.filterMap f++(f x).toList:=by
 rw [List.filterMap_append]
 cases h:f x<;>simp [h]
theorem Y7{b c:Type}(p:b->ϑ)(g:b->c)(a:ϊ b):a.filterMap (λ x=>if p x=true then !(g x) else none)=(a.filter p).map g:=by
 induction a with
 | nil=>rfl
 | cons x r ih=>
  cases h:p x
  .simp [h,ih]
  .simp [h,ih]
def cellAt(ns:ϊ Int)(k:Nat):Int:=ns.getD k 0
def hgt(c:Int):Nat:=if c%2=0 then (1+c / 2%6).toNat else (1+c / 2%60).toNat
def Gx{h a b:Nat}(c:a<2^h)(d:b<2^h):a^^^b<2^h:=Nat.xor_lt_two_pow c d
def b7:ϊ Nat->ϊ Nat->Nat
 | x::xs,y::ys=>Bm.pop (x^^^y)+b7 xs ys
 | _,_=>0
theorem wJ: ∀xs ys:ϊ Nat,((List.zipWith (λ x y=>((Bm.pop (x^^^y):Nat):Int)) xs ys).sum:Int)=(b7 xs ys:Nat)
 | [],_=>by simp [b7]
 | _::_,[]=>by simp [b7]
 | x::xs,y::ys=>by
  rw [List.zipWith_cons_cons,ġ,wJ xs ys,b7];rfl'
theorem iz: ∀xs ys:ϊ Nat,b7 xs ys=b7 ys xs
 | [],[]=>rfl
 | [],_::_=>rfl
 | _::_,[]=>rfl
 | x::xs,y::ys=>by rw [b7,b7,iz xs ys,Nat.xor_comm]
theorem sO: ∀xs:ϊ Nat,b7 xs xs=0
 | []=>rfl
 | x::xs=>by rw [b7,sO xs,Nat.xor_self,Bm.jz]
theorem wK: ∀(xs ys zs:ϊ Nat),↑xs=↑ys->↑ys=↑zs->b7 xs zs<=b7 xs ys+b7 ys zs
 | [],[],[],_,_=>by simp [b7]
 | a::xs,b::ys,c::zs,h1,h2=>by
  have d:=wK xs ys zs (by simpa using h1) (by simpa using h2);have:=Bm.O7 a b c;rw [b7,b7,b7];rfl'
 | [],_::_,_,h,_=>by simp at h
 | _::_,[],_,h,_=>by simp at h
 | _,[],_::_,_,h=>by simp at h
 | _,_::_,[],_,h=>by simp at h
theorem getD_some{z:Int}(h:a[k]? =!z):cellAt a k=z:=by
 unfold cellAt;rw [Yf,h];rfl
theorem getD_none(h:↑a<=k):cellAt a k=0:=by
 unfold cellAt;rw [Yf,ß h];rfl
def On(h n:Nat)(s:Int×Int):Prop:=0<=s.1/\s.1<n/\0<=s.2/\s.2<h
instance decOn (h n:Nat) (s:Int×Int):Decidable (On h n s):=by unfold On;show inferInstance
def eN(xs:ϊ Nat)(s:Int×Int):ϊ Nat:=xs.set s.1.toNat (xs.getD s.1.toNat 0^^^2^s.2.toNat)
def cZ(xs:ϊ Nat)(ss:ϊ (Int×Int)):ϊ Nat:=ss.foldl eN xs
theorem mG(a:ϊ Nat)(s:Int×Int):↑(eN a s)=↑a:=by unfold eN;simp
theorem iB: ∀(ss:ϊ (Int×Int))(xs:ϊ Nat),↑(cZ xs ss)=↑xs
 | [],_=>rfl
 | s::r,xs=>by
  change↑(cZ (eN xs s) r)=_;rw [iB r,mG]
theorem yH(b:ϊ Nat)(a:ϊ (Int×Int))(s:Int×Int):cZ b (a++[s])=eN (cZ b a) s:=by unfold cZ;rw [Ļ];rfl
theorem Gy{h:Nat}(b: ∀x∈a,x<2^h)(d:On h ↑a s): ∀x∈eN a s,x<2^h:=by
 intro x c;let#[e,f,g,i]:=d;rcases İ c with q | q
 .show b x q
 .rw [q];show Gx ?_ (Nat.pow_lt_pow_right () ());rw [Yf,Qr ()];show b _ (Ï _)
theorem pL{h:Nat}: ∀{ss:ϊ (Int×Int)}{xs:ϊ Nat},(∀x∈xs,x<2^h)->(∀s∈ss,On h ↑xs s)-> ∀x∈cZ xs ss,x<2^h
 | [],_,hx,_=>hx
 | s::r,xs,hx,ho=>by
  change ∀x∈cZ (eN xs s) r,_;show pL (Gy hx (ho s Ë)) λ t a=>by rw [mG];show ho t (É _ a)
def cI(xs:ϊ Nat)(y:Nat):ϊ Nat:=xs.map λ x=>if x.testBit y=true then 35 else 46
def Good(ls:ϊ (ϊ Nat)):Prop:=1<=↑ls/\↑ls<=60/\(∀l∈ls,↑l=↑(ls.headD []))/\ ∀l∈ls,∀c∈l,c=35\/c=46
def Al(ls:ϊ (ϊ Nat))(x:Nat):Nat:=Bm.lD ((List.range ↑ls).filter λ y=>decide ((ls.getD y []).getD x 0=35))
def yI(ls:ϊ (ϊ Nat)):ϊ Nat:=(List.range ↑(ls.headD [])).map (Al ls)
def draw(h:Nat)(xs:ϊ Nat):ϊ (ϊ Nat):=(List.range h).map (cI xs)
theorem fu(h:Nat)(a:ϊ Nat):↑(draw h a)=h:=by unfold draw;simp
theorem iC(a:ϊ Nat)(y:Nat):↑(cI a y)=↑a:=by unfold cI;simp
theorem PL(b:ϊ Nat)(y:Nat): ∀c∈cI b y,c=35\/c=46:=by
 intro c a;unfold cI at a;let#[x,_,rfl]:=Zs.mp a;split
 .show .inl rfl
 .show .inr rfl
theorem CQ{h:Nat}(a:ϊ Nat)(b:1<=h):(draw h a).headD []=cI a 0:=by
 let#[k,rfl]: ∃k,h=k+1:=#[h-1,()];unfold draw;rw [ζ];rfl
theorem pM{h:Nat}(a:l∈draw h b): ∃y,y<h/\l=cI b y:=by
 unfold draw at a;let#[y,c,rfl]:=Zs.mp a;show#[y,by simpa using c,rfl]
theorem CT{h:Nat}(f:1<=h)(g: ∀x∈a,x<2^h):yI (draw h a)=a:=by
 unfold yI;rw [CQ a f,iC];apply List.ext_getElem
 .simp
 .intro i k d;rw [ú,List.getElem_range];unfold Al;rw [fu];have e:((List.range h).filter λ y=>decide (((draw h a).getD y []).getD i 0=35))=Bm.bits h a[i]:=by
   unfold Bm.bits;apply List.filter_congr;intro y j;have b:y<h:=by simpa using j
   have c:(draw h a).getD y []=cI a y:=by
    unfold draw;rw [Yf,Wp,ę b];rfl
   rw [c];unfold cI;rw [Yf,Wp,Qr d]
   cases hb:a[i].testBit y<;>simp [hb]
  rw [e,Bm.Oa (g _ (Ï _))]
theorem yJ(a:ϊ Nat)(s:Int×Int)(x:Nat)(b:s.1.toNat<↑a):(eN a s).getD x 0=if s.1.toNat=x then a.getD x 0^^^2^s.2.toNat else a.getD x 0:=by
 unfold eN;rw [Yf];by_cases h:s.1.toNat=x
 .subst h;rw [Χ b,if_pos rfl];rfl
 .rw [List.getElem?_set_ne h,if_neg h,Yf]
theorem sS{h:Nat}(x y:Nat): ∀(ss:ϊ (Int×Int))(xs:ϊ Nat),(∀s∈ss,On h ↑xs s)->
  ((cZ xs ss).getD x 0).testBit y=((xs.getD x 0).testBit y^^decide (ss.count ((x:Int),(y:Int))%2=1))
 | [],xs,_=>by simp [cZ]
 | s::r,xs,ho=>by
  have c:=ho s Ë;let#[i,j,k,l]:=c;change((cZ (eN xs s) r).getD x 0).testBit y=_;rw [sS x y r (eN xs s) (λ t d=>by rw [mG];show ho t (É _ d)),yJ xs s x (),List.count_cons];have e:(s==((x:Int),(y:Int)))=true↔s.1.toNat=x/\s.2.toNat=y:=by
   rw [beq_iff_eq];constructor
   .intro e;rw [e];show#[by simp,by simp]
   .rintro ⟨f,g⟩;apply Prod.ext
    .show s.1=(x:Int);rfl'
    .show s.2=(y:Int);rfl'
  by_cases a:s.1.toNat=x
  .rw [if_pos a,ŗ,Nat.testBit_two_pow];by_cases b:s.2.toNat=y
   .rw [if_pos (e.mpr #[a,b]),Ø b];rcases ŏ (r.count ((x:Int),(y:Int))) with z | z
    .rw [z,show(r.count ((x:Int),(y:Int))+1)%2=1 by rfl'];cases (xs.getD x 0).testBit y<;>rfl
    .rw [z,show(r.count ((x:Int),(y:Int))+1)%2=0 by rfl'];cases (xs.getD x 0).testBit y<;>rfl
   .rw [if_neg (λ q=>b (e.mp q).2),Ú b];simp
  .rw [if_neg a,if_neg (λ q=>a (e.mp q).1)];simp
def lN(xs ys:ϊ Nat)(x:Nat):ϊ (Int×Int):=(Bm.bits 60 (xs.getD x 0^^^ys.getD x 0)).map λ y:Nat=>((x:Int),(y:Int))
def jb(xs ys:ϊ Nat):ϊ (Int×Int):=(List.range ↑xs).flatMap (lN xs ys)
theorem CV:s∈jb c ys↔ ∃x y:Nat,s=((x:Int),(y:Int))/\x<↑c/\y<60/\(c.getD x 0^^^ys.getD x 0).testBit y=true:=by
 unfold jb lN;rw [ï];constructor
 .rintro ⟨x,a,g⟩;let#[y,b,rfl]:=Zs.mp g;let#[d,e]:=Bm.lE.mp b;show#[x,y,rfl,by simpa using a,d,e]
 .rintro ⟨x,y,rfl,a,b,f⟩;show#[x,by simpa using a,Zs.mpr #[y,Bm.lE.mpr #[b,f],rfl]]
theorem Am{h:Nat}{a:ϊ Nat}(b: ∀x∈a,x<2^h)(i:Nat):a.getD i 0<2^h:=by
 rw [Yf];by_cases q:i<↑a
 .rw [Qr q];show b _ (Ï q)
 .rw [ß ()];show Nat.two_pow_pos h
def Lx(s t:Int×Int):Prop:=s.1<t.1\/(s.1=t.1/\s.2<t.2)
def wL(k n:Nat):(Bm.bits k n).Pairwise (· < ·):=List.Pairwise.filter _ List.pairwise_lt_range
theorem uw(f g:ϊ Nat):(jb f g).Pairwise Lx:=by
 unfold jb;rw [List.pairwise_flatMap];constructor
 .intro x _;unfold lN;rw [ļ];show(wL 60 _).imp λ {a b} h=>Or.inr #[rfl,?_]
  change(a:Int)<(b:Int);rfl'
 .show List.pairwise_lt_range.imp λ {a b} e s c t d=> ?_
  unfold lN at c d;let#[y,_,rfl]:=Zs.mp c;let#[z,_,rfl]:=Zs.mp d;show Or.inl ?_;change(a:Int)<(b:Int);rfl'
theorem wM(c d:ϊ Nat):(jb c d).Nodup:=(uw c d).imp λ {a b} h e=>by
 subst e;rcases h with h | ⟨_,h⟩<;>rfl'
theorem CW(b: ∀x∈a,x<2^60)(c: ∀y∈ys,y<2^60):↑(jb a ys)=((List.range ↑a).map λ x=>Bm.pop (a.getD x 0^^^ys.getD x 0)).sum:=by
 unfold jb;rw [List.length_flatMap];congr 1;apply ÿ;intro x _;unfold lN;rw [Qb];show Bm.vK 60 _ (Gx (Am b x) (Am c x))
end Mm
section
namespace L2
open PySem
variable{Q:VK}{wi:TI}{ds:L2S}{t u:TS}{A B:Prop}{T:String}{a p:ό}{d:PyData}{b c n:Nat}{i j k:Int}{v w x y:V}{H H' H1:Hp}{ta tb te:TE}{qs:ϊ ό}{f:Int->Int->V}{hi:ύ Int}{R:St->Hp->Prop}{r ys zs:ϊ V}{C:Int->Int->Prop}{κ:ϊ (ύ Nat)}
def d9{a:Nat}(h:a<=b)(k:Nat.ble b c=true:=by rfl):a<=c:=Ò h (Nat.le_of_ble_eq_true k)
def qaV{a:Nat}(h:a<=b)(k:Nat.ble (b+1) c=true:=by rfl):a<c:=d9 (Ė h) k
def qcL{a:Nat}(h:(a:Int)<=b):a<=b:=Int.ofNat_le.mp h
def Ub{a:Nat}(h:(a:Int)<b):a<b:=Int.ofNat_lt.mp h
def PN{a:Nat}(h:(a:Int)=b):a=b:=Int.ofNat.inj h
def qdT{a:Nat}(h:a<b):(a:Int)<b:=Int.ofNat_lt.mpr h
def PP(a:Nat):(0:Int)<=a:=Κ a
def An{a:Int}(h:0<=a):(a.toNat:Int)=a:=Ě h
def Y8{a:Int}(h:0<=a)(k:a<b):a.toNat<b:=()
def Xb{a:Int}(h:0<=a/\a<b):a.toNat<b:=Y8 h.1 h.2
def qtC{a:Int}(h:a<b)(k:0<b):a.toNat<b:=()
def GC{a:Nat}(h: ¬a<b):b<=a:=Nat.le_of_not_lt h
def qnT{a:Nat}(h: ¬a<=b):b<a:=Nat.lt_of_not_le h
def qnE{a:Nat}(h:a<=b)(k: ¬a<b):a=b:=Nat.le_antisymm h (GC k)
def qn0{a:Nat}(h: ¬0<a):a=0:=Nat.eq_zero_of_not_pos h
def n6{a:Nat}(e:a=b)(h:b<=c):a<=c:=e▸h
def qfL{a:Nat}(h:a<=b)(e:c=b):a<=c:=e▸h
def DK{a:Nat}(h:a<b)(e:c=b):a<c:=e▸h
def qgT{a:Nat}(h:a<b)(e:b=c):a<c:=e▸h
def Xc{a:Nat}(h:a<=b)(c:Nat):a<=b+c:=Nat.le_add_right_of_le h
def qsR{a:Nat}(h:a<=b)(c:Nat):a<=c+b:=Nat.le_add_left_of_le h
def qsT{a:Nat}(h:a<b)(c:Nat):a<b+c:=Nat.lt_add_right c h
def qmI{a:Int}(h:0<=a)(k:(-1000000000:Int)<=0:=by decide): -1000000000<=a:=Int.le_trans k h
def qmN(a:Nat):(-1000000000:Int)<=a:=qmI (PP a)
def qp1{a:Nat}(h:0<a):a-1+1=a:=Nat.sub_add_cancel h
def Y9{a:Nat}(e:a=min b c):a<=b:=e▸Nat.min_le_left b c
def Xd{a:Nat}(h:b<=c):min a b<=c:=Ò (Nat.min_le_right ..) h
def Xe{a:Nat}(h:0<a):(0:Int)<a:=Int.ofNat_lt.mpr h
def qd1{a:Nat}(h:1<=a):(1:Int)<=a:=Int.ofNat_le.mpr h
def qdE{a:Nat}(h:a=b):(a:Int)=b:=Ö _ h
def qi1(a:Nat):(1:Int)+a=((a+1:Nat):Int):=Int.add_comm ..
def qnC{a:Nat}(h: ¬ (a:Int)<b):b<=a:=()
def qnD{a:Nat}(h: ¬ (a:Int)=b): ¬a=b:=λ e=>h (Ö _ e)
def qn1{a:Nat}(h: ¬ (0:Int)<a):a=0:=()
def Xf{a:Nat}(h:a=b+1):b<a:=h▸ĵ b
def qkP{a:Nat}(h:a<b):b-1-a+1=b-a:=()
def qkQ{a:Nat}(h:a-b<=0)(k:b<=a):b=a:=()
def qkT{a:Nat}(h:a<=b)(k:c<=1):a+c<=b+1:=Nat.add_le_add h k
def Yb(h:B):if (not true)=true then A else B:=Ci h
def Yc(h:A):if (not false)=true then A else B:=Cj h
theorem fL{p:Prop}[Decidable p](a:p->A)(b: ¬p->B):if decide p=true then A else B:=by
 by_cases h:p
 .rw [Ø h];show Cj (a h)
 .rw [Ú h];show Ci (b h)
theorem sU{p:Prop}[Decidable p](a: ¬p->A)(b:p->B):if (not (decide p))=true then A else B:=by
 by_cases h:p
 .rw [Ø h];show Ci (b h)
 .rw [Ú h];show Cj (a h)
theorem PQ{b:ϑ}(a:b=true->A)(c:b=false->B):if b=true then A else B:=by
 cases b with
 | true=>show Cj (a rfl)
 | false=>show Ci (c rfl)
theorem kh{p:Prop}[Decidable p](a:p)(h:A):if decide p=true then A else B:=fL (λ _=>h) λ n=>absurd a n
theorem iD{p:Prop}[Decidable p](a: ¬p)(h:B):if decide p=true then A else B:=fL (λ n=>absurd n a) λ _=>h
theorem eQ{p:Prop}[Decidable p](a:p)(h:B):if (not (decide p))=true then A else B:=sU (λ n=>absurd a n) λ _=>h
def Yd{b:Type}[DecidableEq b]{a:b}(h:A):if decide (a=a)=true then A else B:=kh rfl h
def Uc{b:Type}[DecidableEq b]{a:b}(h:B):if (not (decide (a=a)))=true then A else B:=eQ rfl h
theorem Ud{p:Prop}[Decidable p](a: ¬p)(h:A):if (not (decide p))=true then A else B:=sU (λ _=>h) λ n=>absurd n a
theorem Same.new{a:Hp}(e:Same a H)(h:H p=none):Same a (upd H p o):=λ b u q=>by rw [au (aY (e b u q) h)];show e b u q
theorem Same.tup{K:Ϗ}{b:ϊ V}(e:Same H H')(h:SqT K H a b):SqT K H' a b:=by
 rcases h with (h | ⟨o,h⟩) | h
 .show .inl (.inl (e _ _ h))
 .show .inl (.inr #[o,e _ _ h])
 .show .inr h
def jN{b:ϊ V}(h:H p=none)(q:SqL K H a b):SqL K (upd H p o) a b:=Same.seq (Same.new (Same.refl H) h) q
theorem a0l{r:St}:qy (none::r) (some v::r):=⟨rfl,λ j u z=>by
 match j,z with
 | j+1,z=>show z⟩
theorem ext2{r:St}:qy (none::none::r) (some v::some w::r):=⟨rfl,λ j u z=>by
 match j,z with
 | j+2,z=>show z⟩
theorem Ue(b:ϑ):(((b.toNat:Nat):Int)!=0)=b:=by cases b<;>rfl
theorem R7(a b:Int):decide (V.int a=V.int b)=decide (a=b):=by simp
theorem yK{a:ϊ V}(h:0<=k):il a none (!k)=a.take k.toNat:=by
 unfold il;change(a.drop 0).take ((if k<0 then (k+(↑a:Int)).toNat else min k.toNat ↑a)-0)=_;rw [if_neg (),Ź,Nat.sub_zero];rcases Nat.le_total k.toNat ↑a with q | q
 .rw [Ř q]
 .rw [ŋ q,ë (Ä _),ë q]
theorem wN{a:ϊ V}(h:0<=k):il a (!k) none=a.drop k.toNat:=by
 unfold il;change(a.drop (if k<0 then (k+(↑a:Int)).toNat else min k.toNat ↑a)).take (↑a-(if k<0 then (k+(↑a:Int)).toNat else min k.toNat ↑a))=_;rw [if_neg ()];rcases Nat.le_total k.toNat ↑a with q | q
 .rw [Ř q,ë (by rw [ì];rfl')]
 .rw [ŋ q,Ĭ (Ä _),Ĭ q];simp
theorem Ao{a:ϊ V}(h:0<=k)(b:0<=j):il a (!k) (!j)=(a.take j.toNat).drop k.toNat:=by
 unfold il;change(a.drop (if k<0 then (k+(↑a:Int)).toNat else min k.toNat ↑a)).take ((if j<0 then (j+(↑a:Int)).toNat else min j.toNat ↑a)-(if k<0 then (k+(↑a:Int)).toNat else min k.toNat ↑a))=_;rw [if_neg (Int.not_lt.mpr h),if_neg (Int.not_lt.mpr b),List.drop_take];generalize k.toNat=k;generalize j.toNat=j;rcases Nat.le_total k ↑a with c | c
 .rw [Ř c,List.take_eq_take_iff,ì];rcases Nat.le_total j ↑a with d | d
  .rw [Ř d]
  .rw [ŋ d,Nat.min_self,ŋ (Nat.sub_le_sub_right d k)]
 .rw [ŋ c,Ĭ (Ä _),Ĭ c,List.take_nil,List.take_nil]
theorem nY(i:Int)(a:ϊ Int):inV (.int i) (a.map V.int)=decide (i∈a):=by
 unfold inV;rw [List.any_map];induction a with
 | nil=>simp
 | cons n r ih=>
  rw [ű,ih];change(n==i||_)=_;by_cases h:n=i
  .subst h;simp
  .simp [h,Ne.symm h]
theorem lO(a:ϊ Int):(a.map V.int).all ir=true:=Ť.mpr λ x m=>by
 let#[i,_,rfl]:=Zs.mp m;rfl
theorem Ug{c:Type}{a:ϊ c}(d:0<=i)(b:i.toNat<↑a):xU a i=!a[i.toNat]:=by
 have e:=aQ (xs:=a) (j:=i.toNat) (v:=a[i.toNat]) (Qr b);rwa [show((i.toNat:Nat):Int)=i by rfl'] at e
section
def GD(h:t { D with nx:=u D } σ H):aA t u D σ H:=h
def Ye{c:TT}(h:c σ H λ b H1=>if b=true then t D σ H1 else u D σ H1):bf c t u D σ H:=h
def GF{i:Nat}(e:σ[i]? =!(!v))(h:Q v H):gK i σ H Q:=#[v,e,h]
def s_c(h:Q v H):tC v σ H Q:=h
theorem s_call{a:Sp}{t:TA}(h:t σ H λ vs H1=>a vs H1 Q E):vz a [] E t σ H Q:=by
 unfold vz;simpa only [ù] using h
def Yg{R:ϊ V->Hp->Prop}(h:R [] H):iV σ H R:=h
def a0m{b:ϑ}{R:ϑ->Prop}(h:R b): ∃k,V.bl b= .bl k/\R k:=#[b,rfl,h]
def Yh{b:ϑ}{R:ϑ->Prop}(h:R b): ∃k,El K (.bl b) H k/\R k:=#[b,rfl,h]
def Uh{R:ϑ->Prop}(h:R (i !=0)): ∃k,El K (.int i) H k/\R k:=#[_,rfl,h]
def Yi{t u:TT}{R:ϑ->Hp->Prop}(h:t σ H λ c H1=>if c=true then u σ H1 R else R false H1):qD t u σ H R:=h
def a0n{t u:TT}{R:ϑ->Hp->Prop}(h:t σ H λ c H1=>if c=true then R true H1 else u σ H1 R):Dw t u σ H R:=h
def Ui(h:ta σ H λ x H1=> ∃c,x= .bl c/\if c=true then tb σ H1 Q else Q (.bl false) H1):jq ta tb σ H Q:=h
def lQ{i:Nat}(h:R (σ.set i !v) H):ak i v σ H R:=h
def Uj(h:R σ H):iK [] σ H R:=#[rfl,h]
def PX{t:TG}{u:N8}(h:t v σ H λ σ' H'=>u r σ' H' R):bD t u (v::r) σ H R:=#[v,r,rfl,h]
def cU{t:N8}{b:ϊ V}(d:SqT K H a b)(c:↑b=n)(h:t b σ H R):ie K n t (.ref a) σ H R:=#[a,b,rfl,d,c,h]
def Yj{i:Nat}{a:X4}(e:σ[i]? =!(!x))(h:te σ H λ y H1=>a x y H1 λ z H2=>D.nx (σ.set i !z) H2):Nm i te a D σ H:=#[x,e,h]
def a0o{f:Int->Int->Int}(h:Q (.int (f i j)) H):ipI f (.int i) (.int j) H Q:=#[i,j,rfl,rfl,h]
def Yk(h:Q (f i j) H):qF f (.int i) (.int j) H Q:=#[i,j,rfl,rfl,h]
def a0p(c:C i j)(h:Q (f i j) H):rI C f (.int i) (.int j) H Q:=#[i,j,rfl,rfl,c,h]
def a0q{f:Int->V}(h:Q (f i) H):rU f (.int i) H Q:=#[i,rfl,h]
def s_eq(e:T7 x y=true)(h:Q (.bl (decide (x=y))) H):uX x y H Q:=#[e,h]
theorem Yl(h:Q (.bl (decide (i=j))) H):uX (.int i) (.int j) H Q:=#[rfl,by rw [R7];show h]
theorem Ym(h:Q (.bl (not (decide (i=j)))) H):tM (.int i) (.int j) H Q:=#[rfl,by rw [R7];show h]
def Yn{a b:St}{P:Prop}(e:qy a b)(h:P):qy a b/\P:=#[e,h]
def Yo{P:Prop}(e:n<=1000)(h:P):n<=sizeLine/\P:=#[small e,h]
def Uk{R:Int->Prop}(h:R i): ∃k,V.int i= .int k/\R k:=#[i,rfl,h]
def fQ{b:ϊ V}{P:Prop}(e:SqL K H a b)(h:P):X7 K "list" (.ref a) H/\P:=#[.inl #[rfl,b,e],h]
def Yp{P:Prop}(h:P):X7 K "int" (.int i) H/\P:=#[rfl,h]
def Yq{x:ϐ}{P:Prop}(h:P):X7 K "str" (.str x) H/\P:=#[rfl,h]
def GJ(h:Q (.int (Builtin.Int.intBits i)) H):vP (.int i) [] H Q:=#[i,rfl,rfl,h]
def qP(g:TG)(tb:TS)(D:Ends)(σ:St):It->Hp->Prop:=λ J H1=> ∃W:Nat->Nat->St->Hp->Prop,(∃m,W 0 m σ H1)/\ ∀i m σ H,W i m σ H->
 (J.stop i H/\D.nx σ H)\/(J.go i H/\ ∃N:St->Hp->Prop,(∀σ' H',N σ' H'-> ∃m',m'<m/\W (i+1) m' σ' H')/\ ∀x H',J.yld i H x H'->g x σ H' λ σ2 H2=>tb { D with nx:=N,ct:=N,bk:=D.nx } σ2 H2)
def Yr{a:TS}(h:wi σ H (qP g a D σ)):cu wi g a D σ H:=h
def DN(κ:ϊ (ύ Nat))(g:TG)(tc:TT)(te:TE)(σ:St)(Q:VK):It->Hp->Prop:=λ J H1=> ∃W:Nat->Nat->ϊ V->Hp->Prop,(∃m,W 0 m [] H1)/\ ∀i m ys H,W i m ys H->
 (J.stop i H/\ ∀p,H p=none->Q (.ref p) (upd H p (.lst ys)))\/
 (J.go i H/\↑ys<sizeLine/\ ∃N:ϊ V->Hp->Prop,(∀ys' H',N ys' H'-> ∃m',m'<m/\W (i+1) m' ys' H')/\ ∀x H',J.yld i H x H'->g x (cap κ σ) H' λ σ2 H2=>qy (cap κ σ) σ2/\tc σ2 H2 λ b H3=>if b=true then te σ2 H3 λ y H4=>N (ys++[y]) H4 else N ys H3)
def a0r{a:TT}(h:wi σ H (DN κ g a te σ Q)):lF κ wi g a te σ H Q:=h
def iL(K:Ϗ)(R:It->Hp->Prop)(x:V)(H:Hp):Prop:= ∃a,x= .ref a/\(∃xs,SqL K H a xs)/\R (Np K a) H
def iT(K:Ϗ)(R:It->Hp->Prop)(x:V)(H:Hp):Prop:= ∃a,x= .ref a/\(∃xs,SqT K H a xs)/\R (X5 K a) H
def iR(R:It->Hp->Prop)(vs:ϊ V)(H:Hp):Prop:= ∃j:Int,vs=[.int j]/\ -(2^62)<=j/\j<2^62/\R (Dy 0 j.toNat) H
def iR2(R:It->Hp->Prop)(vs:ϊ V)(H:Hp):Prop:= ∃i j:Int,vs=[.int i, .int j]/\(-(2^62)<=i/\i<2^62/\ -(2^62)<=j/\j<2^62)/\R (Dy i (j-i).toNat) H
def iS(R:It->Hp->Prop)(x:V)(H:Hp):Prop:= ∃z,x= .str z/\R (Its z) H
end
section
variable{σ:St}{H:Hp}{Q:VK}{D:Ends}{K:Ϗ}{g:TG}{tb:TS}{κ:ϊ (ύ Nat)}{tc:TT}{te:TE}
theorem cV{f:Type}(c:f->V){zs:ϊ f}(n:SqL K H a (zs.map c))(b:Nat->St->Hp->Prop)(j:b 0 σ H)(l: ∀i σ H',b i σ H'->SqL K H' a (zs.map c))
  (m: ∀(i:Nat) z σ H',zs[i]? =!z->b i σ H'->g (c z) σ H' λ d H2=>tb { D with nx:=b (i+1),ct:=b (i+1),bk:=D.nx } d H2) (k: ∀σ H',b ↑zs σ H'->D.nx σ H'):iL K (qP g tb D σ) (.ref a) H:=by
 show#[a,rfl,#[_,n],Ef (K:=K) (a:=a) (xs:=zs.map c) b j (λ i σ H _ h=>l i σ H h) ?_ ?_]
 .intro i x σ H' e p;rw [Wp] at e;let#[z,o,rfl]:=Î.mp e;show m i z σ H' o p
 .intro σ H' p;rw [Qb] at p;show k σ H' p
theorem sV{j:Type}(c:j->V){d:ϊ j}(o:SqT K H a (d.map c))(b:Nat->St->Hp->Prop)(k:b 0 σ H)(m: ∀i σ H',b i σ H'->SqT K H' a (d.map c))
  (n: ∀(i:Nat) z σ H',d[i]? =!z->b i σ H'->g (c z) σ H' λ e H2=>tb { D with nx:=b (i+1),ct:=b (i+1),bk:=D.nx } e H2) (l: ∀σ H',b ↑d σ H'->D.nx σ H'):iT K (qP g tb D σ) (.ref a) H:=by
 show#[a,rfl,#[_,o],Nr (K:=K) (a:=a) (xs:=d.map c) b k (λ i σ H _ h=>m i σ H h) ?_ ?_]
 .intro i x σ H' f p;rw [Wp] at f;let#[z,q,rfl]:=Î.mp f;show n i z σ H' q p
 .intro σ H' p;rw [Qb] at p;show l σ H' p
theorem wO{n:Int}(m:Nat)(e:n.toNat=m)(j:m<=1000000000)(k: -1000000000<=n)(a:Nat->St->Hp->Prop)(c:a 0 σ H)
  (h: ∀(i:Nat) σ H',i<m->a i σ H'->g (.int (i:Int)) σ H' λ b H2=>tb { D with nx:=a (i+1),ct:=a (i+1),bk:=D.nx } b H2) (d: ∀σ H',a m σ H'->D.nx σ H'):iR (qP g tb D σ) [.int n] H:=by
 show#[n,rfl,(),(),?_];rw [e];show qX a c (λ i σ H' f p=> ?_) d;rw [Int.zero_add];show h i σ H' f p
theorem Ul{lo n:Int}(m:Nat)(e:(n-lo).toNat=m)(l:n<=1000000000)(o: -1000000000<=n)(j: -1000000000<=lo)(c:lo<=1000000000)(a:Nat->St->Hp->Prop)(d:a 0 σ H)
  (k: ∀(i:Nat) σ H',i<m->a i σ H'->g (.int (lo+i)) σ H' λ b H2=>tb { D with nx:=a (i+1),ct:=a (i+1),bk:=D.nx } b H2) (f: ∀σ H',a m σ H'->D.nx σ H'):iR2 (qP g tb D σ) [.int lo, .int n] H:=by
 show#[lo,n,rfl,#[(),(),(),()],?_];rw [e];show qX a d (λ i σ H' h p=>k i σ H' h p) f
theorem yL{n:Int}(m:Nat)(e:n.toNat=m)(l:m<=1000000)(r: -1000000000<=n)(a:Nat->ϊ V->Hp->Prop)(h:a 0 [] H)(q: ∀i ys H',a i ys H'->↑ys<=i)
  (o: ∀(i:Nat) ys H',i<m->a i ys H'->g (.int (i:Int)) (cap κ σ) H' λ c H2=>qy (cap κ σ) c/\tc c H2 λ b d=>if b=true then te c d λ y f=>a (i+1) (ys++[y]) f else a (i+1) ys d)
  (j: ∀ys H',a m ys H'-> ∀p,H' p=none->Q (.ref p) (upd H' p (.lst ys))):iR (DN κ g tc te σ Q) [.int n] H:=by
 show#[n,rfl,(),(),?_];rw [e];show Fj a h (Ò l (by decide)) q (λ i ys H' k p=> ?_) j;rw [Int.zero_add];show o i ys H' k p
theorem wQ{k:Type}(c:k->V){zs:ϊ k}(s:SqL K H a (zs.map c))(q:↑zs<=1000000)(d:Nat->ϊ V->Hp->Prop)(m:d 0 [] H)(o: ∀i ys H',d i ys H'->SqL K H' a (zs.map c))(f: ∀i ys H',d i ys H'->↑ys<=i)
  (r: ∀(i:Nat) z ys H',zs[i]? =!z->d i ys H'->g (c z) (cap κ σ) H' λ e H2=>qy (cap κ σ) e/\tc e H2 λ b h=>if b=true then te e h λ y l=>d (i+1) (ys++[y]) l else d (i+1) ys h)
  (n: ∀ys H',d ↑zs ys H'-> ∀p,H' p=none->Q (.ref p) (upd H' p (.lst ys))):iL K (DN κ g tc te σ Q) (.ref a) H:=by
 show#[a,rfl,#[_,s],Og (K:=K) (a:=a) (xs:=zs.map c) d m (by rw [Qb];show Ò q (by decide)) (λ i ys H' _ p=>o i ys H' p) f ?_ ?_]
 .intro i x ys H' j p;rw [Wp] at j;let#[z,f,rfl]:=Î.mp j;show r i z ys H' f p
 .intro ys H' p;rw [Qb] at p;show n ys H' p
theorem GK{h:Type}(c:h->V){zs:ϊ h}(j:SqL K H a (zs.map c))(r:↑zs<=1000000)(f:h->V)
  (t: ∀(i:Nat) z,zs[i]? =!z-> ∀(A:VK),A (f z) H->g (c z) (cap κ σ) H λ d H2=>qy (cap κ σ) d/\te d H2 A)
  (o: ∀p,H p=none->Q (.ref p) (upd H p (.lst (zs.map f)))):iL K (DN κ g dB te σ Q) (.ref a) H:=by
 show wQ c j r (λ i b e=>e=H/\b=(zs.take i).map f) #[rfl,rfl] ?_ ?_ ?_ ?_
 .rintro i b _ ⟨rfl,_⟩;show j
 .rintro i b _ ⟨rfl,rfl⟩;rw [Qb,Ð];rfl'
 .rintro i z b e k ⟨m,rfl⟩;subst m;have n:zs.take (i+1)=zs.take i++[z]:=by rw [Í,k];rfl
  have q:=t i z k (λ y l=>l=e/\(zs.take i).map f++[y]=(zs.take (i+1)).map f) #[rfl,by rw [n,Jn];rfl];simpa only [dB,ĺ] using q
 .rintro b _ ⟨rfl,rfl⟩ p s;rw [Õ];show o p s
end
section
variable{σ:St}{H:Hp}{D:Ends}{g:TG}{tb:TS}
theorem GP{z:ϐ}(a:Nat->St->Hp->Prop)(j:a 0 σ H)
  (l: ∀(i:Nat) c σ H',z.cps[i]? =!c->a i σ H'->g (.str #[([c].toArray)]) σ H' λ d H2=>tb { D with nx:=a (i+1),ct:=a (i+1),bk:=D.nx } d H2) (k: ∀σ H',a z.cps.size σ H'->D.nx σ H'):iS (qP g tb D σ) (.str z) H:=by
 show#[z,rfl,λ i m σ H=>m=z.cps.size-i/\i<=z.cps.size/\a i σ H,#[z.cps.size,by simp,æ _,j],?_];rintro i m σ H ⟨rfl,q,p⟩;by_cases b:i<z.cps.size
 .show .inr #[b,a (i+1),λ o H' n=>#[z.cps.size-(i+1),(),rfl,b,n],λ x H' y=> ?_];let#[e,c,f,h]:=y;subst e h;show l i c σ _ f p
 .have e:i=z.cps.size:=()
  subst e;show .inl #[rfl,k σ H p]
end
def Thing(H:Hp):V->Prop
 | .non=>True
 | .bl _=>True
 | .int _=>True
 | .str x=>↑x<=100000
 | .ref a=>(∃xs,H a=!(.lst xs))\/(∃xs,H a=!(.tup xs))\/ ∃kvs,H a=!(.dK kvs)
 | _=>False
def isI:V->ϑ
 | .int _=>true
 | _=>false
theorem Thing.ty: ∀{x:V},Thing H x->(∃b,x= .bl b)\/(∃i,x= .int i)\/(∃s:ϐ,x= .str s/\↑s<=100000)\/ ∃n:String,TyOf K H x (.type n)/\(n="NoneType"\/n="list"\/n="tuple"\/n="dict")/\isI x=false/\(∀s,x≠ .str s)
 | .non,_=> .inr (.inr (.inr #[_, .non, .inl rfl,rfl,λ _ e=>nomatch e]))
 | .bl b,_=> .inl #[b,rfl]
 | .int i,_=> .inr (.inl #[i,rfl])
 | .str s,h=> .inr (.inr (.inl #[s,rfl,h]))
 | .ref a,h=> .inr (.inr (.inr (h.elim (λ ⟨c,e⟩=>#[_, .lst e, .inr (.inl rfl),rfl,λ _ e=>nomatch e]) λ h=>h.elim (λ ⟨c,e⟩=>#[_, .tup e, .inr (.inr (.inl rfl)),rfl,λ _ e=>nomatch e]) λ ⟨c,e⟩=>#[_, .dK e, .inr (.inr (.inr rfl)),rfl,λ _ e=>nomatch e])))
def cW{t:ϋ}{b:ϑ}(a:TyOf K H x t)(e:PySem.W.kitOne K t (.type T)=!b)(h:Q (.bl b) H):cR K [x, .ty T] H Q:=#[T,x,t,b,rfl,a,e,h]
section
theorem GQ(a b:ϐ):decide (V.str a=V.str b)=decide (a=b):=by simp
theorem Ys{a b:ϐ}(h:Q (.bl (decide (a=b))) H):uX (.str a) (.str b) H Q:=#[rfl,by rw [GQ];show h]
theorem Yt{a b:ϐ}(h:Q (.bl (not (decide (a=b)))) H):tM (.str a) (.str b) H Q:=#[rfl,by rw [GQ];show h]
def Yu{i j:ϐ}(h:Q (.bl (not (decide (j.cps.toList<i.cps.toList)))) H):p7 (.str i) (.str j) H Q:=#[i,j,rfl,rfl,h]
theorem fM{i j:ϐ}(e:↑i+↑j<=1000000)(h:Q (.str (i++j)) H):bc (.str i) (.str j) H Q:=#[i,j,rfl,rfl,Ò e (by decide),h]
def bQ{b:ϊ V}(e:SqL K H a b)(h:Q (.int ↑b) H):vO K [.ref a] H Q:=#[_,_,rfl, .inl #[b,e,rfl],h]
def cX{b:ϊ V}(e:SqT K H a b)(h:Q (.int ↑b) H):vO K [.ref a] H Q:=#[_,_,rfl, .inr #[b,e,rfl],h]
theorem jc{x:ϐ}(e:↑x<=1000000)(h:Q (.int ↑x) H):vO K [.str x] H Q:=#[_,_,rfl,#[Nat.le_trans e (by decide),rfl],h]
def Yv{x:ϐ}(e:↑x=1)(h:Q (.int (x.cps.getD 0 0:Nat)) H):QW [.str x] H Q:=#[x,rfl,e,h]
def gm{b:ϊ V}(e:SqL K H a b)(c:xU b i=!v)(h:Q v H):eG K (.ref a) (.int i) H Q:=#[a,b,i,v,rfl,rfl,e,c,h]
def dW{b:ϊ V}(e:SqT K H a b)(c:xU b i=!v)(h:Q v H):gQ K (.ref a) (.int i) H Q:=#[a,b,i,v,rfl,rfl,e,c,h]
theorem Yw(e:SqT K H a (x::r))(h:Q x H):gQ K (.ref a) (.int 0) H Q:=dW e (aQ (j:=0) rfl) h
theorem Um(e:SqT K H a (w::x::r))(h:Q x H):gQ K (.ref a) (.int 1) H Q:=dW e (aQ (j:=1) rfl) h
theorem a0s{u:V}(e:SqT K H a (u::w::x::r))(h:Q x H):gQ K (.ref a) (.int 2) H Q:=dW e (aQ (j:=2) rfl) h
def gn(e:H a=!(.tup (x::r)))(h:Q x H):gQ K (.ref a) (.int 0) H Q:=Yw (SqT.of e) h
def dX(e:H a=!(.tup (w::x::r)))(h:Q x H):gQ K (.ref a) (.int 1) H Q:=Um (SqT.of e) h
def jT{u:V}(e:H a=!(.tup (u::w::x::r)))(h:Q x H):gQ K (.ref a) (.int 2) H Q:=a0s (SqT.of e) h
theorem ux{c:Type}{b:ϊ c}{f:c->V}(e:H a=!(.lst (b.map f)))(h:Q (.int ↑b) H):vO K [.ref a] H Q:=bQ (SqL.of e) (by rw [Qb];show h)
theorem qQ{b:Type}{c:ϊ b}{f:b->V}{j:Nat}{z:b}(e:H a=!(.lst (c.map f)))(d:c[j]? =!z)(h:Q (f z) H):eG K (.ref a) (.int j) H Q:=gm (SqL.of e) (aQ (by rw [Wp,d];rfl)) h
def jd{b:ό}{u:HO}(h:H a=!o)(c:H b=!u)(d:o≠u:=by intro q;cases q):a≠b:=fj h c d
def qR{b:ό}(h:H b=!o)(c:H a=none):a≠b:=(aY h c).symm
theorem lR{x:ϐ}(e:↑x<=1000000)(a:xU x.cps.toList i=!c)(h:Q (.str #[([c].toArray)]) H):oV (.str x) (.int i) H Q:=#[x,i,c,rfl,rfl,Ò e (by decide),a,h]
def uy{c:TT}(a:St->Hp->Prop)(e:St->Hp->Nat)(h:a σ H)
  (i: ∀σ H,a σ H->c σ H λ b H1=>if b=true then g { D with nx:=λ σ' H'=>a σ' H'/\e σ' H'<e σ H,ct:=λ σ' H'=>a σ' H'/\e σ' H'<e σ H,bk:=D.nx } σ H1 else D.nx σ H1)
  (d: ∀σ H Q f,(∀b H1,Q b H1->f b H1)->c σ H Q->c σ H f):gP c g D σ H:=vp a e h i d
end
section
variable{σ:St}{H:Hp}{Q:VK}{R:ϑ->Hp->Prop}{b c:ϑ}
theorem Uo(e:(∀R:VK,R (.bl b) H->ta σ H R)/\ ∀R:VK,R (.bl c) H->tb σ H R)(h:Q (.bl (b&&c)) H):jq ta tb σ H Q:=by
 show e.1 _ #[b,rfl,?_]
 cases b with
 | true=>rw [if_pos rfl];rw [Ų] at h;show e.2 _ h
 | false=>rw [if_neg Ñ];rw [Ō] at h;show h
theorem Q0{t u:TT}(e:(∀R:ϑ->Hp->Prop,R b H->t σ H R)/\ ∀R:ϑ->Hp->Prop,R c H->u σ H R)(h:R (b&&c) H):qD t u σ H R:=by
 show e.1 _ ?_
 cases b with
 | true=>rw [if_pos rfl];rw [Ų] at h;show e.2 _ h
 | false=>rw [if_neg Ñ];rw [Ō] at h;show h
theorem GR{r a:R2}{d:TE}(e: ∃x y z,(∀R:VK,R x H->ta σ H R)/\(∀R:VK,R y H->tb σ H R)/\(∀R:VK,R z H->d σ H R)/\(∀R:VK,R (.bl b) H->r x y H R)/\ ∀R:VK,R (.bl c) H->a y z H R)(h:Q (.bl (b&&c)) H):iU r a ta tb d σ H Q:=by
 let#[x,y,z,f,g,i,j,k]:=e;show f _ (g _ (j _ #[b,rfl,?_]))
 cases b with
 | true=>rw [if_pos rfl];rw [Ų] at h;show i _ (k _ h)
 | false=>rw [if_neg Ñ];rw [Ō] at h;show h
end
def Sb(ps:ϊ ό)(H H':Hp):Prop:= ∀b o,b∉ps->H b=!o->H' b=!o
theorem Sb.of{a:ϊ ό}(s:Same H H'):Sb a H H':=λ b o _ e=>s b o e
theorem Sb.same{c:ϊ ό}{a:Hp}(e:Sb c H H1)(s:Same H1 a):Sb c H a:=λ b o n q=>s b o (e b o n q)
def Sb.new{a:ϊ ό}(e:Sb a H H1)(h:H1 p=none):Sb a H (upd H1 p o):=e.same (aq h o)
theorem Sb.set{a:ϊ ό}(e:Sb a H H1)(h:p∈a):Sb a H (upd H1 p o):=λ b u n q=>by
 rw [au (show b≠p from λ z=>n (by rw [z];show h))];show e b u n q
def Sb.get{b:ϊ ό}(e:Sb b H H1)(n:a∉b)(h:H a=!o):H1 a=!o:=e a o n h
theorem Sb.more{a:ϊ ό}(e:Sb a H H1)(h: ∀p∈a,p∈qs):Sb qs H H1:=λ b o n q=>e b o (λ z=>n (h b z)) q
theorem Sb.seq{b:ϊ ό}{d:ϊ V}(e:Sb b H H1)(f: ∀p∈b,H p=none)(h:SqL K H a d):SqL K H1 a d:=by
 have c: ∀o,H a=!o->a∉b:=λ o q z=>by rw [f a z] at q;cases q
 rcases h with (h | ⟨o,h⟩) | h
 .show .inl (.inl (e a _ (c _ h) h))
 .show .inl (.inr #[o,e a _ (c _ h) h])
 .show .inr h
theorem Sb.at{c:ϊ ό}{H b:Hp}{a:ό}(e:Sb c H b)(d: ∀p∈c,H p=none)(h:H a=!o):b a=!o:=e a o (λ z=>by rw [d a z] at h;cases h) h
section
def iR3(R:It->Hp->Prop)(vs:ϊ V)(H:Hp):Prop:= ∃(i j c:Int)(n:Nat),vs=[.int i, .int j, .int c]/\c≠0/\Builtin.Range.small i j c=true/\Builtin.divisionGoesByPylong (j-i) c=false/\Builtin.Range.rangeSize i j c=(n:Int)/\R (TQ i c n) H
end
section
def R8{ns:ϊ Int}(e:SqL K H a (ns.map V.int))(h:Q (.int ns.sum) H):Oj K [.ref a] H Q:=#[a,ns,rfl,e,h]
def Yx(h:Q (.int (if j<i then j else i)) H):pq [.int i, .int j] H Q:=#[i,j,rfl,h]
def Yy(h:Q (.int (if j>i then j else i)) H):yg [.int i, .int j] H Q:=#[i,j,rfl,h]
def pN(e:SqL K H p ys)(h: ∀l,H l=none->Q (.ref l) (upd H l (.lst ys))):fY K [.ref p] H Q:=#[p,ys,rfl, .inl e,h]
theorem jE{a:ϊ V}(e:H l=!(.lst a))(n:↑a<=1000000)(h:Q .non (upd H l (.lst (a++[y])))):dM (.ref l) [y] H Q:=#[l,a,y,rfl,rfl,e,Û n (by decide),h]
theorem yM{a:ϊ V}{R:Hp->Prop}(j:Nat)(e:H l=!(.lst a))(b:k=(j:Int))(c:j<↑a)(h:R (upd H l (.lst (a.set j v)))):oW (.ref l) (.int k) v H R:=by
 show#[l,a,k,j,rfl,rfl,e,?_,h];subst b;unfold Eu;rw [if_pos (),if_pos ()];simp
end
mutual
theorem eqv_refl: ∀d:PyData,d.canLay0=true->PyData.eqv d d=true
 | .none,_=>by simp [PyData.eqv]
 | .bool b,_=>by simp [PyData.eqv]
 | .int i,_=>by simp [PyData.eqv]
 | .str x,_=>by simp [PyData.eqv]
 | .list xs,h=>by
  simp only [PyData.eqv];show eqvAll_refl xs (by simpa only [PyData.canLay0] using h)
 | .tuple xs,h=>by
  simp only [PyData.eqv];show eqvAll_refl xs (by simpa only [PyData.canLay0] using h)
 | .dict kvs,h=>by simp [PyData.canLay0] at h
theorem eqvAll_refl: ∀ds:ϊ PyData,PyData.canLayAll0 ds=true->PyData.eqvAll ds ds=true
 | [],_=>by simp [PyData.eqvAll]
 | d::r,h=>by
  simp only [PyData.canLayAll0,Ć] at h;simp only [PyData.eqvAll,eqv_refl d h.1,eqvAll_refl r h.2,Bool.and_self]
end
def Sh(n:Nat)(d:PyData):Prop:=d.canLay0=true/\d.depth<=n
theorem GX{n:Nat}: ∀{ds:ϊ PyData},(∀d∈ds,Sh n d)->PyData.canLayAll0 ds=true/\PyData.depthAll ds<=n
 | [],_=>#[by simp [PyData.canLayAll0],by simp [PyData.depthAll]]
 | d::r,h=>by
  let#[a,f]:=h d Ë;let#[b,g]:=GX (ds:=r) λ e c=>h e (É _ c)
  show#[by simp [PyData.canLayAll0,a,b],by simp only [PyData.depthAll];rfl']
theorem gR{a:ϊ PyData}(h: ∀d∈a,Sh n d):Sh (n+1) (.tuple a):=by
 let#[b,c]:=GX h;show#[by simp only [PyData.canLay0];show b,by simp only [PyData.depth];rfl']
theorem eU(n:Nat)(i:Int):Sh n (.int i):=#[by simp [PyData.canLay0],by simp [PyData.depth]]
theorem Sh.shaped(h:Sh n d)(a:n<=64):SeqAt.shaped d=true:=by
 unfold SeqAt.shaped;rw [h.1,Ø (Ò h.2 a)];rfl
section
variable{n:Nat}
theorem rNeD.same(c:Dp K H x d)(e:Dp K H y d)(a:Sh n d)(b:n<=64)(q:Q (.bl false) H):rNeD K x y H Q:=#[d,d,c,e,a.shaped b,a.shaped b,by rw [eqv_refl d a.1];show q]
theorem GZ{b:ό}{a:ϊ V}(c:H l=!(.lst a))(d:H b=!(.lst zs))(e:↑a+↑zs<=1000000)(h: ∀p,H p=none->Q (.ref p) (upd H p (.lst (a++zs)))):Ez (.ref l) (.ref b) H Q:=#[l,b,a,zs,rfl,rfl,c,d,Ò e (by decide),h]
def Ha{b:ϊ V}(e:SqL K H a b)(h: ∀p,H p=none->Q (.ref p) (upd H p (.lst (il b lo hi)))):BX K (.ref a) lo hi H Q:=#[a,b,rfl,e,h]
end
theorem Sb.off{a:ϊ ό}(e:Sb a H H')(c: ∀p∈a,H p=none):Same H H':=λ b o q=>e.at c q
def Uq{b:ϊ V}(e:SqL K H a b)(h:Q (.int ↑b) H):vO K [.ref a] H Q:=bQ e h
def mH{D:Ends}{a:St}(J:St->Hp->Prop)(c: ∀σ' H',J σ' H'->u D σ' H')(b: ∀N:St->Hp->Prop,(∀σ' H',J σ' H'->N σ' H')->t { D with nx:=N } a H):aA t u D a H:=b _ c
def tx(cs:ϊ Nat):ϐ:=#[cs.toArray]
theorem eV(a b:ϊ Nat):tx a++tx b=tx (a++b):=by
 change(#[a.toArray++b.toArray]:ϐ)=#[(a++b).toArray];simp
theorem aM(a:ϊ Nat):↑(tx a)=↑a:=by change a.toArray.size=_;simp
def gU(a:ϊ Nat):(tx a).cps.toList=a:=rfl
theorem gV{a b:ϊ Nat}:tx a=tx b↔a=b:=by
 constructor
 .intro h;have:=Ö (λ s:ϐ=>s.cps.toList) h;simpa [tx] using this
 .intro h;rw [h]
theorem join_ones: ∀cs:ϊ Nat,Txt.join (Str.ofString "") (cs.map λ c=>tx [c])=tx cs:=by
 intro cs;unfold Txt.join;rw [StrLaws.glued_eq_join];induction cs with
 | nil=>rfl
 | cons c r ih=>
  cases r with
  | nil=>rfl
  | cons d r=>
   change tx [c]++Str.ofString ""++Str.join (Str.ofString "") ((d::r).map λ c=>tx [c])=_;rw [ih,show Str.ofString ""=tx [] from rfl,eV,eV];rfl
theorem R9{a:ϊ Nat}{j:Nat}(h:j<=↑a):Txt.slice (tx a) none (!(j:Int))=tx (a.take j):=by
 have:=beq_iff_eq.mp (PyProof.Rows.slice_closes_to (x:=tx a) (j:=(j:Int)) #[(),by rw [gU];rfl']);rw [this];simp [tx]
theorem Q3{a:ϊ Nat}{j:Nat}(h:j<=↑a):Txt.slice (tx a) (!(j:Int)) none=tx (a.drop j):=by
 have:=beq_iff_eq.mp (PyProof.Rows.slice_closes_from (x:=tx a) (i:=(j:Int)) #[(),by rw [gU];rfl']);rw [this,gU];change tx _=tx _;rw [Ó,ë (by rw [ì];rfl')]
section
def yN{ys:ϊ ϐ}(e:SqL K H a (ys.map V.str))(b:(ys.map (·.length)).sum+↑ys*↑s<=16777216)(h:Q (.str (Txt.join s ys)) H):rJoin K (.str s) [.ref a] H Q:=#[s,a,ys,rfl,rfl,e,b,h]
theorem Hb(e:↑s<=1000000)(h:Q (.str (Txt.slice s lo hi)) H):vQ (.str s) lo hi H Q:=#[s,rfl,Ò e (by decide),h]
def iE(K:Ϗ)(R:It->Hp->Prop)(vs:ϊ V)(H:Hp):Prop:= ∃a xs,vs=[.ref a]/\SqL K H a xs/\R (Ite K a) H
theorem a0t{E:Type}(c:E->V){d:ϊ E}(r:SqL K H a (d.map c))(G:↑d<=1000000)(f:Nat->ύ V)
  (I: ∀(i:Nat) z p H',d[i]? =!z->Same H H'->H' p=!(.tup [.int (i:Int),c z])-> ∀(A:VK)(B:Hp->Prop),(∀y j,Same H' j->f i=!y->A y j)->(∀j,Same H' j->f i=none->B j)->g (.ref p) (cap κ σ) H' λ n H2=>qy (cap κ σ) n/\tc n H2 λ b u=>if b=true then te n u A else B u)
  (F: ∀p H',Same H H'->H' p=!(.lst ((List.range ↑d).filterMap f))->Q (.ref p) H'):iE K (DN κ g tc te σ Q) [.ref a] H:=by
 show#[a,_,rfl,r,λ i m D H'=>m=↑d-i/\i<=↑d/\Same H H'/\D=(List.range i).filterMap f,#[↑d,by simp,æ _,Same.refl H,rfl],?_];rintro i m D H' ⟨rfl,L,l,rfl⟩;by_cases k:i<↑d
 .have s:d[i]? =!d[i]:=Qr k;show .inr #[#[_,c d[i],l.seq r,by rw [Wp,s];rfl],?_,λ q h=>Same H h/\q=(List.range (i+1)).filterMap f,λ q h C=>#[↑d-(i+1),(),rfl,k,C.1,C.2],λ v h y=> ?_]
  .have:↑((List.range i).filterMap f)<=i:=Ò (ĸ _ _) (by simp);show Û this (Ô k (Ò G (by decide)))
  .obtain ⟨p,x,o,rfl,rfl,J⟩:=y;have w:=J _ (l.seq r);rw [Wp,s] at w
   cases w;show I i _ p _ s (l.new o) aa _ _ (λ y j t e=>#[(l.new o).trans t,?_]) (λ j t e=>#[(l.new o).trans t,?_])
   .rw [ł,Mm.dU,e];rfl
   .rw [ł,Mm.dU,e];simp
 .have e:i=↑d:=()
  subst e;show .inl #[#[_,l.seq r,by simp],λ p o=>F p _ (l.new o) aa]
theorem Ra{n:Int}(m:Nat)(e:n.toNat=m)(l:m<=1000000)(o: -1000000000<=n)(f:Nat->V)
  (r: ∀i H',i<m->Same H H'-> ∀(A:VK),(∀a,Same H' a->A (f i) a)->g (.int (i:Int)) (cap κ σ) H' λ c H2=>qy (cap κ σ) c/\te c H2 A)
  (j: ∀p H',H p=none->Same H H'->H' p=!(.lst ((List.range m).map f))->Q (.ref p) H'):iR (DN κ g dB te σ Q) [.int n] H:=by
 show yL m e l o (λ i d H'=>Same H H'/\d=(List.range i).map f) #[Same.refl H,rfl] ?_ ?_ ?_
 .rintro i d H' ⟨_,rfl⟩;simp
 .rintro i d H' k ⟨b,rfl⟩;have q:=r i H' k b (λ y a=>Same H a/\(List.range i).map f++[y]=(List.range (i+1)).map f) λ a s=>#[b.trans s,by rw [ł,Jn];rfl]
  simpa only [dB,ĺ] using q
 .rintro d H' ⟨b,rfl⟩ p h;show j p _ (b.free h) (b.new h) aa
end
theorem Hd(n:Nat){a:ϊ Nat}(h: ∀c∈a,c<1114112):Sh n (.str (tx a)):=by
 show#[?_,by simp [PyData.depth]];simp only [PyData.canLay0,PyData.strOk];change a.toArray.all _=true;simp;show h
def jm(s:Int×Int):ϊ Key:=[.inl s.1, .inl s.2]
theorem wR{t:Int×Int}:jm s=jm t↔s=t:=by
 constructor
 .intro h;unfold jm at h;simp at h;show Prod.ext h.1 h.2
 .intro h;rw [h]
def tabS(ks:ϊ (Int×Int))(f:Int×Int->V):ϊ (ϊ Key×V):=ks.map λ s=>(jm s,f s)
theorem Aq(a:ϊ (Int×Int))(f:Int×Int->V)(s:Int×Int):bM (tabS a f) (jm s)=if s∈a then !(f s) else none:=by
 induction a with
 | nil=>rfl
 | cons k r ih=>
  by_cases h:k=s
  .subst h;rw [if_pos Ë];show cJ rfl
  .have:bM (tabS (k::r) f) (jm s)=bM (tabS r f) (jm s):=bY (λ e=>h (wR.mp e));rw [this,ih];by_cases m:s∈r
   .rw [if_pos m,if_pos (É _ m)]
   .rw [if_neg m,if_neg (λ z=>(È.mp z).elim (λ e=>h e.symm) m)]
theorem Q4(a:ϊ (Int×Int))(f g:Int×Int->V)(s:Int×Int)(c: ∀t,t≠s->g t=f t):putK (tabS a f) (jm s) (g s)=tabS (if s∈a then a else a++[s]) g:=by
 have d: ∀l:ϊ (Int×Int),(tabS l f).map (λ b=>if b.1=jm s then (b.1,g s) else b)=tabS l g:=by
  intro l;unfold tabS;rw [Å];apply ÿ;intro t _;change(if jm t=jm s then (jm t,g s) else (jm t,f t))=(jm t,g t);by_cases e:t=s
  .rw [if_pos (by rw [e]),e]
  .rw [if_neg (λ z=>e (wR.mp z)),c t e]
 by_cases h:s∈a
 .rw [if_pos h];unfold putK;rw [lC,Aq,if_pos h,if_pos (show(!(f s)).isSome=true from rfl)];show d a
 .rw [if_neg h,dh _ (by rw [Aq,if_neg h])];have:tabS a f=tabS a g:=ÿ λ t i=>by rw [c t (λ e=>h (e▸i))]
  rw [this];unfold tabS;rw [Jn];rfl
section
theorem pO{b:ό}{a:ϊ V}(c:H l=!(.lst a))(d:H b=!(.lst zs))(e:↑a+↑zs<=1000000)(h:Q .non (upd H l (.lst (a++zs)))):lB (.ref l) [.ref b] H Q:=#[l,b,a,zs,rfl,rfl,c,d,Ò e (by decide),h]
end
section
def Yz(h:Q (.bl (decide (x= .non))) H):mY x .non H Q:=#[rfl,h]
def Ur(h:Q (.bl (not (decide (x= .non)))) H):u9 x .non H Q:=#[rfl,h]
def nZ(e:SqL K H p ys)(h: ∀l,H l=none->Q (.ref l) (upd H l (.tup ys))):iw K [.ref p] H Q:=#[p,ys,rfl, .inl #[e,h]]
def mJ(e:SqT K H p ys)(h: ∀l,H l=none->Q (.ref l) (upd H l (.lst ys))):fY K [.ref p] H Q:=#[p,ys,rfl, .inr e,h]
def Hf{a:ϊ V}(e:SqL K H p a\/SqT K H p a)(c:ir x=true)(b:a.all ir=true)(h:Q (.bl (inV x a)) H):QL K false x (.ref p) H Q:=#[p,a,rfl,e,c,b,h]
end
theorem Q5(s:ϐ)(a:ϊ ϐ):inV (.str s) (a.map V.str)=decide (s∈a):=by
 unfold inV;rw [List.any_map];induction a with
 | nil=>simp
 | cons n r ih=>
  rw [ű,ih];change(n==s||_)=_;by_cases h:n=s
  .subst h;simp
  .simp [h,Ne.symm h]
theorem CZ(a:ϊ ϐ):(a.map V.str).all ir=true:=Ť.mpr λ x m=>by
 let#[i,_,rfl]:=Zs.mp m;rfl
def ov:ύ Int->V
 | none=> .non
 | some i=> .int i
theorem Q6(o:ύ Int):ir (ov o)=true:=by cases o<;>rfl
def DrT(K:Ϗ)(H:Hp)(a:ό)(ps:L1S):Prop:= ∃zs:ϊ (ό×ϐ×Int),zs.map (·.2)=ps/\H a=!(.tup (zs.map λ z=>V.ref z.1))/\ ∀z∈zs,H z.1=!(.tup [.str z.2.1, .int z.2.2])
theorem DrT.same{b:L1S}(h:DrT K H a b)(s:Same H H'):DrT K H' a b:=by
 let#[g,e,c,d]:=h;show#[g,e,s.get c,λ z f=>s.get (d z f)]
def HsT(K:Ϗ)(H:Hp)(a:ό)(ds:L2S)(es:ϊ Int):Prop:= ∃(d e:ό)(rs:ϊ (ό×L1S)),H a=!(.tup [.ref d, .ref e])/\rs.map (·.2)=ds/\H d=!(.tup (rs.map λ r=>V.ref r.1))/\(∀r∈rs,DrT K H r.1 r.2)/\H e=!(.tup (es.map V.int))
theorem HsT.same{b:ϊ Int}(h:HsT K H a ds b)(s:Same H H'):HsT K H' a ds b:=by
 let#[d,e,l,c,f,g,i,j]:=h;show#[d,e,l,s.get c,f,s.get g,λ r k=>(i r k).same s,s.get j]
def DrG(K:Ϗ)(H:Hp)(a:ό)(ps:L1S):Prop:= ∃zs:ϊ (ό×ϐ×Int),zs.map (·.2)=ps/\SqT K H a (zs.map λ z=>V.ref z.1)/\ ∀z∈zs,H z.1=!(.tup [.str z.2.1, .int z.2.2])
theorem DrT.g{b:L1S}(h:DrT K H a b):DrG K H a b:=by
 let#[f,e,c,d]:=h;show#[f,e,SqT.of c,d]
theorem DrG.same{b:L1S}(h:DrG K H a b)(s:Same H H'):DrG K H' a b:=by
 let#[g,e,c,d]:=h;show#[g,e,s.tup c,λ z f=>s.get (d z f)]
def HsG(K:Ϗ)(H:Hp)(a:ό)(ds:L2S)(es:ϊ Int):Prop:= ∃(d e:ό)(rs:ϊ (ό×L1S)),H a=!(.tup [.ref d, .ref e])/\rs.map (·.2)=ds/\SqT K H d (rs.map λ r=>V.ref r.1)/\(∀r∈rs,DrG K H r.1 r.2)/\H e=!(.tup (es.map V.int))
theorem HsT.g{b:ϊ Int}(h:HsT K H a ds b):HsG K H a ds b:=by
 let#[d,e,m,c,f,i,j,k]:=h;show#[d,e,m,c,f,SqT.of i,λ r l=>(j r l).g,k]
theorem HsG.same{b:ϊ Int}(h:HsG K H a ds b)(s:Same H H'):HsG K H' a ds b:=by
 let#[d,e,l,c,f,g,i,j]:=h;show#[d,e,l,s.get c,f,s.tup g,λ r k=>(i r k).same s,s.get j]
def Dp.intsT{b:ϊ Int}(h:SqT K H a (b.map V.int)):Dp K H (.ref a) (.tuple (b.map PyData.int)):= .tup h (DpAll.ints b)
end L2
namespace Hs
open PySem L2
variable{r:Int}
def dr(ps:L1S)(s:ϐ):ύ Int:=(ps.find? λ p=>decide (p.1=s)).map (·.2)
theorem lU(p:ϐ×Int)(r:L1S)(s:ϐ):dr (p::r) s=if p.1=s then !p.2 else dr r s:=by
 unfold dr;by_cases h:p.1=s
 .simp [h]
 .simp [h]
theorem kW{r:Int}: ∀{ps:L1S},dr ps s=!r->(s,r)∈ps
 | [],h=>by cases h
 | p::ps,h=>by
  rw [lU] at h;by_cases e:p.1=s
  .rw [if_pos e] at h
   cases h;rw [<- e];show Ë
  .rw [if_neg e] at h;show É _ (kW h)
def stp(ds:L2S)(o:ύ Int)(s:ϐ):ύ Int:=o.bind λ r=>dr (ds.getD r.toNat []) s
def go(ds:L2S)(cs:ϊ Nat):ύ Int:=cs.foldl (λ o c=>stp ds o (tx [c])) !0
structure Wf(ds:L2S):Prop where
 pos:0<↑ds
 rm: ∀ps∈ds,∀p∈ps,0<=p.2/\p.2<↑ds
theorem uz(a:L2S)(b:ϊ Nat)(c:Nat):go a (b++[c])=stp a (go a b) (tx [c]):=by
 unfold go;rw [Ļ];rfl
theorem Q7(h:go ds a=none):go ds (a++ys)=none:=by
 unfold go at h ⊢;rw [Ļ,h];clear h;induction ys with
 | nil=>rfl
 | cons y r ih=>show ih
theorem getD_at{b:Type}{a:ϊ b}{d:b}(c:0<=r)(e:r<↑a):a.getD r.toNat d=a[r.toNat]'(by rfl'):=by
 rw [Yf,Qr ()];rfl
theorem wU(w:Wf ds): ∀{cs:ϊ Nat},go ds cs=!r->0<=r/\r<↑ds:=by
 intro cs
 suffices ∀(cs:ϊ Nat)(a:Int),0<=a->a<↑ds->cs.foldl (λ o c=>stp ds o (tx [c])) (!a)=!r->0<=r/\r<↑ds by
  show this cs 0 (by decide) (by have:=w.pos;rfl')
 intro cs;induction cs with
 | nil=>intro a b d h;cases h;show#[b,d]
 | cons c rest ih=>
  intro a b d h;rw [Ł] at h
  cases e:stp ds (!a) (tx [c]) with
  | none=>
   rw [e] at h;have: ∀l:ϊ Nat,l.foldl (λ o c=>stp ds o (tx [c])) none=none:=λ l=>by
    induction l with
    | nil=>rfl
    | cons y r ih=>show ih
   rw [this] at h
   cases h
  | some r1=>
   rw [e] at h;have m:=kW (show dr (ds.getD a.toNat []) (tx [c])=!r1 from e);rw [getD_at b d] at m;have:=w.rm _ (Ï _) _ m;show ih r1 this.1 this.2 h
def Q8:ϐ:=Str.ofString " !\"#$&'()*+,-./0123456789:;<=>?@ABCDEFGHIJKLMNOPQRSTUVWXYZ[\\]^_`"++Str.ofString "abcdefghijklmnopqrstuvwxyz{|}~"
def uA(n:Int):Nat:=Q8.cps.toList.getD (n%94).toNat 0
def Sg(s:ϐ):Prop:= ∃n:Int,s=tx [uA n]
end Hs
namespace L2
open PySem
variable{j:Nat}
abbrev Dz:=ό×ϐ×Int
variable{rows:ϊ (ό×ϊ Dz)}
def Rws(H:Hp)(rows:ϊ (ό×ϊ Dz)):Prop:=(rows.map (·.1)).Nodup/\ ∀row∈rows,H row.1=!(.lst (row.2.map λ z:Dz=>V.ref z.1))/\ ∀z∈row.2,H z.1=!(.tup [.str z.2.1, .int z.2.2])
def Rws.same(h:Rws H rows)(s:Same H b):Rws b rows:=#[h.1,λ a c=>#[s.get (h.2 a c).1,λ z d=>s.get ((h.2 a c).2 z d)]]
theorem Ar(a:j<↑rows)(b:ϊ Dz):(rows.set j (rows[j].1,b)).map (·.1)=rows.map (·.1):=by
 apply ŝ;intro k;rw [Wp,Wp,Ĝ];by_cases e:j=k
 .subst e;rw [if_pos rfl,if_pos a,Qr a];rfl
 .rw [if_neg e]
theorem Rws.app{s:ϐ}{r:Int}(h:Rws H rows)(g:j<↑rows)(f:H t=!(.tup [.str s, .int r])):
  Rws (upd H rows[j].1 (.lst ((rows[j].2++[(t,s,r)]).map λ z:Dz=>V.ref z.1))) (rows.set j (rows[j].1,rows[j].2++[(t,s,r)])):=by
 show#[by rw [Ar g];show h.1,λ o l=> ?_];have a:rows[j]∈rows:=Ï g;have d:=(h.2 _ a).1;rcases İ l with m | rfl
 .obtain ⟨k,i,e⟩:=ā.mp l;rw [List.getElem_set] at e;by_cases q:j=k
  .rw [if_pos q] at e;subst e;show#[aa,λ z c=> ?_];rcases Æ.mp c with w | w
   .rw [au (fj ((h.2 _ a).2 z w) d (by intro q;cases q))];show(h.2 _ a).2 z w
   .rw [Zp.mp w];rw [au (fj f d (by intro q;cases q))];show f
  .rw [if_neg q] at e;subst e;rw [ŀ] at i;have n:rows[k].1≠rows[j].1:=by
    intro z;have:=(ţ (h₀:=by simpa using i) (h₁:=by simpa using g) h.1).mp (by rw [ú,ú];show z);show q this.symm
   have b:rows[k]∈rows:=Ï i;show#[by rw [au n];show(h.2 _ b).1,λ z c=> ?_];rw [au (fj ((h.2 _ b).2 z c) d (by intro q;cases q))];show(h.2 _ b).2 z c
 .show #[aa,λ z c=> ?_];rcases Æ.mp c with w | w
  .rw [au (fj ((h.2 _ a).2 z w) d (by intro q;cases q))];show(h.2 _ a).2 z w
  .rw [Zp.mp w];rw [au (fj f d (by intro q;cases q))];show f
section
theorem Us{n:Int}(m:Nat)(e:n.toNat=m)(v:m<=1000000)(w: -1000000000<=n)
  (x: ∀(i:Nat) H',i<m-> ∀(A:VK),(∀p,H' p=none->A (.ref p) (upd H' p (.lst [])))->g (.int (i:Int)) (cap κ σ) H' λ k H2=>qy (cap κ σ) k/\te k H2 A)
  (t: ∀p H' (c:ϊ ό),Same H H'->H p=none->↑c=m->c.Nodup->p∉c->(∀a∈c,H a=none/\H' a=!(.lst []))->H' p=!(.lst (c.map V.ref))->Q (.ref p) H'):iR (DN κ g dB te σ Q) [.int n] H:=by
 show yL m e v w (λ i l H'=> ∃c:ϊ ό,l=c.map V.ref/\↑c=i/\c.Nodup/\Same H H'/\ ∀a∈c,H a=none/\H' a=!(.lst [])) #[[],rfl,rfl,List.nodup_nil,Same.refl H,by simp] ?_ ?_ ?_
 .rintro i l H' ⟨c,rfl,rfl,_⟩;simp
 .rintro i l H' u ⟨c,rfl,rfl,o,j,h⟩;have q:=x ↑c H' u (λ y r=> ∃f:ϊ ό,c.map V.ref++[y]=f.map V.ref/\↑f=↑c+1/\f.Nodup/\Same H r/\ ∀a∈f,H a=none/\r a=!(.lst [])) λ p d=>by
   show#[c++[p],by simp,by simp,?_,j.new d,λ a m=> ?_]
   .rw [à];show#[o,by simp,λ a m b z e=> ?_];rw [Zp.mp z] at e;subst e;rw [(h a m).2] at d;cases d
   .rcases Æ.mp m with m | m
    .show #[(h a m).1,aH d (h a m).2]
    .rw [Zp.mp m];show#[j.free d,aa]
  simpa only [dB,ĺ] using q
 .rintro l H' ⟨c,rfl,s,o,j,h⟩ p d;show t p _ c (j.new d) (j.free d) s o (λ m=> ?_) (λ a m=>#[(h a m).1,aH d (h a m).2]) aa;rw [(h p m).2] at d;cases d
theorem uB{b c:Type}{g:b->c}{l a:ϊ c}(h:l.Perm a): ∀{zs:ϊ b},l=zs.map g-> ∃ws:ϊ b,ws.Perm zs/\a=ws.map g:=by
 induction h with
 | nil=>intro zs e;show#[zs, .refl _,e]
 | cons x _ ih=>
  intro zs e
  cases zs with
  | nil=>cases e
  | cons z zs=>
   rw [Ç] at e;injection e with e1 e2
   let#[ws,p,q]:=ih e2;show#[z::ws,p.cons z,by rw [Ç,q,e1]]
 | swap x y l=>
  intro zs e
  match zs,e with
  | z1::z2::r,e=>
   rw [Ç,Ç] at e;injection e with e1 e2
   injection e2 with e2 e3
   show#[z2::z1::r, .swap _ _ _,by rw [Ç,Ç,e1,e2,e3]]
 | trans _ _ ih1 ih2=>
  intro zs e;let#[ws,p,q]:=ih1 e;let#[i,d,f]:=ih2 q;show#[i,d.trans p,f]
def nj{a d:Type}{g:a->d}{b:ϊ d}{c:ϊ a}(h:b.Perm (c.map g)): ∃vs:ϊ a,vs.Perm c/\b=vs.map g:=uB h.symm rfl
end
end L2
namespace Hs
def yO(n:Int):uA n<1114112:=by
 unfold uA;have h: ∀c∈Q8.cps.toList,c<1114112:=by ac_nf
 rw [Yf]
 cases e:Q8.cps.toList[(n%94).toNat]? with
 | none=>decide
 | some c=>show h c (Xs e)
end Hs
namespace L2
open PySem
variable{ht:Nat}
abbrev Lz:=ό×ϐ×ό×ϊ Nat
abbrev nv(xs:ϊ Nat):ϊ V:=xs.map λ i:Nat=>V.int (i:Int)
def FnT(K:Ϗ)(H:Hp)(a:ό)(ht:Nat)(ls:ϵ):Prop:= ∃(l:ό)(zs:ϊ Lz),H a=!(.tup [.int (ht:Int), .ref l])/\zs.map (λ z:Lz=>(z.2.1,z.2.2.2))=ls/\SqT K H l (zs.map λ z:Lz=>V.ref z.1)/\ ∀z∈zs,H z.1=!(.tup [.str z.2.1, .ref z.2.2.1])/\H z.2.2.1=!(.tup (nv z.2.2.2))
theorem FnT.same(h:FnT K H a ht d)(s:Same H H'):FnT K H' a ht d:=by
 let#[l,i,e,f,g,b]:=h;show#[l,i,s.get e,f,s.tup g,λ z c=>#[s.get (b z c).1,s.get (b z c).2]]
def FnF(K:Ϗ)(H:Hp)(a:ό)(ht:Nat)(ls:ϵ):Prop:= ∃(l:ό)(ob:PySem.Obj)(zs:ϊ Lz),H a=!(.tup [.int (ht:Int), .ref l])/\zs.map (λ z:Lz=>(z.2.1,z.2.2.2))=ls/\ob.dict=none/\H l=!(.frz ob (.tup (zs.map λ z:Lz=>V.ref z.1)))/\ ∀z∈zs,H z.1=!(.tup [.str z.2.1, .ref z.2.2.1])/\H z.2.2.1=!(.tup (nv z.2.2.2))
theorem FnF.same(h:FnF K H a ht d)(s:Same H H'):FnF K H' a ht d:=by
 let#[l,ob,j,e,f,i,g,b]:=h;show#[l,ob,j,s.get e,f,i,s.get g,λ z c=>#[s.get (b z c).1,s.get (b z c).2]]
theorem FnF.t(h:FnF K H a ht b):FnT K H a ht b:=by
 let#[l,ob,g,c,d,i,e,f]:=h;show#[l,g,c,d, .inl (.inr #[ob,e]),f]
end L2
namespace Fo
open PySem L2
variable{ht:Nat}
def lk(ls:ϵ)(s:ϐ):ύ (ϊ Nat):=(ls.find? λ p=>decide (p.1=s)).map (·.2)
theorem gH(p:ϐ×ϊ Nat)(r:ϵ)(s:ϐ):lk (p::r) s=if p.1=s then !p.2 else lk r s:=by
 unfold lk;by_cases h:p.1=s
 .simp [h]
 .simp [h]
theorem cH: ∀{ls:ϵ},lk ls s=!c->(s,c)∈ls
 | [],h=>by cases h
 | p::ps,h=>by
  rw [gH] at h;by_cases e:p.1=s
  .rw [if_pos e] at h
   cases h;rw [<- e];show Ë
  .rw [if_neg e] at h;show É _ (cH h)
theorem Hg: ∀{ls:ϵ},s∈ls.map (·.1)-> ∃c,lk ls s=!c
 | p::ps,h=>by
  rw [gH];by_cases e:p.1=s
  .show #[_,if_pos e]
  .rw [if_neg e];rcases È.mp h with h | h
   .show absurd h.symm e
   .show Hg h
def cl(ls:ϵ)(c:Nat):ϊ Nat:=(lk ls (tx [c])).getD []
def jU(ls:ϵ)(cs:ϊ Nat):ϊ Nat:=cs.flatMap (cl ls)
theorem Q9(c:ϵ)(a b:ϊ Nat):jU c (a++b)=jU c a++jU c b:=by unfold jU;rw [Δ]
theorem pP(b:ϵ)(a:ϊ Nat)(c:Nat):jU b (a++[c])=jU b a++cl b c:=by rw [Q9];simp [jU]
structure Wf(ht:Nat)(ls:ϵ):Prop where
 pos:0<↑ls
 le:↑ls<=40
 up:(ls.map (·.1)).Pairwise qM
 sg: ∀p∈ls,Hs.Sg p.1
 c1: ∀p∈ls,1<=↑p.2/\↑p.2<=8
 cb: ∀p∈ls,∀x∈p.2,x<2^ht
theorem Wf.cl_le(w:Wf ht a)(c:Nat):↑(cl a c)<=8:=by
 unfold cl
 cases e:lk a (tx [c]) with
 | none=>simp
 | some d=>show(w.c1 _ (cH e)).2
theorem Wf.cl_lt(w:Wf ht a)(c:Nat): ∀x∈cl a c,x<2^ht:=by
 unfold cl
 cases e:lk a (tx [c]) with
 | none=>simp
 | some d=>show w.cb _ (cH e)
theorem Wf.pic_le(w:Wf ht a): ∀cs:ϊ Nat,↑(jU a cs)<=8*↑cs
 | []=>by simp [jU]
 | c::r=>by
  have h:=w.pic_le r;have b:=w.cl_le c;unfold jU at h ⊢;rw [ĭ,Â,è];rfl'
theorem Wf.pic_lt(w:Wf ht a)(b:ϊ Nat): ∀x∈jU a b,x<2^ht:=λ x d=>by
 let#[c,_,h]:=ï.mp d;show w.cl_lt c x h
end Fo
namespace L2
open PySem
variable{a:ό}{kvs:ϊ (Int×V)}{zs:ϊ (ό×ϐ×V)}
theorem FnT.at{e:Nat}(h:FnT K H a e b): ∃l,SqT K H a [.int (e:Int), .ref l]/\ ∃zs:ϊ Lz,SqT K H l (zs.map λ z:Lz=>V.ref z.1)/\↑zs=↑b/\zs.map (λ z:Lz=>(z.2.1,z.2.2.2))=b/\ ∀z∈zs,SqT K H z.1 [.str z.2.1, .ref z.2.2.1]/\SqT K H z.2.2.1 (nv z.2.2.2):=by
 let#[l,zs,g,c,i,d]:=h;show#[l,SqT.of g,zs,i,by rw [<- c,Qb],c,λ z f=>#[SqT.of (d z f).1,SqT.of (d z f).2]]
abbrev Kz:=ϐ×ό×ϊ Nat
def dcK(kvs:ϊ Kz):ϊ (Key×V):=kvs.map λ p:Kz=>(Sum.inr p.1,V.ref p.2.1)
section
variable{H:Hp}{Q:VK}{K:Ϗ}
def Hh(e:H a=!(.dK (kvs.map λ p=>(Sum.inl p.1,p.2))))(b:↑kvs<64)(h: ∀r (ns:ϊ Int),ns.Perm (kvs.map (·.1))->ns.Pairwise (· < ·)->H r=none->Q (.ref r) (upd H r (.lst (ns.map V.int)))):ud [.ref a] H Q:=#[a,kvs,rfl,e,b,h]
def Ut(e:SqL K H p ys)(h: ∀l (ob:PySem.Obj),ob.dict=none->H l=none->Q (.ref l) (upd H l (.frz ob (.tup ys)))):Ac K [.ref p] H Q:=#[p,ys,rfl,e,h]
noncomputable abbrev sN(l:ϊ String):ϊ ϐ:=l.map Str.ofString
abbrev RG(rd:XK->TS)(ns:ϊ ϐ)(vs:ϊ V)(H:Hp)(Q:VK):Prop:= ∃Eh,rd Eh { nx:=λ _ H'=>Q .non H',rt:=Q } (start ns vs) H
def Qa(b:H a=!(.lst (zs.map λ z=>V.ref z.1)))(c: ∀z∈zs,SqT K H z.1 [.str z.2.1,z.2.2])(d:(zs.map (·.2.1)).Nodup)(e:↑zs<=1000)(h: ∀r,H r=none->Q (.ref r) (upd H r (.dK (zs.map λ z=>(Sum.inr z.2.1,z.2.2))))):j7 K [.ref a] H Q:=#[a,zs,rfl, .inr b,c,d,e,h]
def wV{ob:PySem.Obj}(b:ob.dict=none)(c:H a=!(.frz ob (.tup (zs.map λ z=>V.ref z.1))))(d: ∀z∈zs,SqT K H z.1 [.str z.2.1,z.2.2])(e:(zs.map (·.2.1)).Nodup)(f:↑zs<=1000)(h: ∀r,H r=none->Q (.ref r) (upd H r (.dK (zs.map λ z=>(Sum.inr z.2.1,z.2.2))))):j7 K [.ref a] H Q:=#[a,zs,rfl, .inl #[ob,b,c],d,e,f,h]
theorem Dc(a:ϊ Nat)(c:Nat):PySem.Txt.rstripChars (tx a) (tx [c])=tx (a.take (↑a-↑(a.reverse.takeWhile λ x=>(([c].toArray):ϔ Nat).contains x))):=by
 unfold PySem.Txt.rstripChars PySem.Txt.stripBy;have d:PySem.stripHi (tx [c]).cps.contains true (tx a) (PySem.stripLo (tx [c]).cps.contains false (tx a))=↑a-↑(a.reverse.takeWhile λ x=>(([c].toArray):ϔ Nat).contains x):=by
  change↑(tx a)-_=_;rw [aM];rfl
 split
 .rename_i h;unfold PySem.stripSame at h;rw [d,Ć] at h;have b:=beq_iff_eq.mp h.2;rw [aM] at b;rw [b,Õ]
 .unfold PySem.stripped;rw [d];change(#[(tx a).cps.extract 0 _]:ϐ)=_;unfold tx;congr 1;apply Array.toList_inj.mp;simp
theorem wW{a:ϊ Nat}{c:Nat}(m:↑a<=1000000)(h: ∀(ds:ϊ Nat)(k:Nat),a=ds++List.replicate k c->(∀x,ds.getLast?=!x->x≠c)->Q (.str (tx ds)) H):nU (.str (tx a)) [.str (tx [c])] H Q:=by
 show#[tx a,tx [c],rfl,rfl,by rw [aM];show Ò m (by decide),?_];rw [Dc];have f:a.reverse=(a.reverse.takeWhile λ x=>(([c].toArray):ϔ Nat).contains x)++(a.reverse.dropWhile λ x=>(([c].toArray):ϔ Nat).contains x):=(List.takeWhile_append_dropWhile).symm;have b:a=(a.reverse.dropWhile λ x=>(([c].toArray):ϔ Nat).contains x).reverse++(a.reverse.takeWhile λ x=>(([c].toArray):ϔ Nat).contains x).reverse:=by
  have:=Ö List.reverse f;rwa [List.reverse_reverse,List.reverse_append] at this
 have g:(a.reverse.takeWhile λ x=>(([c].toArray):ϔ Nat).contains x).reverse=List.replicate ↑(a.reverse.takeWhile λ x=>(([c].toArray):ϔ Nat).contains x) c:=by
  show List.eq_replicate_iff.mpr #[by rw [Ţ],λ x n=> ?_];have:=Ť.mp (List.all_takeWhile (p:=λ x=>(([c].toArray):ϔ Nat).contains x) (l:=a.reverse)) x (List.mem_reverse.mp n);simpa using this
 have j:a.take (↑a-↑(a.reverse.takeWhile λ x=>(([c].toArray):ϔ Nat).contains x))=(a.reverse.dropWhile λ x=>(([c].toArray):ϔ Nat).contains x).reverse:=by
  have d:=Ö List.length b;rw [Â,Ţ,Ţ] at d;clear g f;generalize (a.reverse.takeWhile λ x=>(([c].toArray):ϔ Nat).contains x)=T at b d ⊢;generalize (a.reverse.dropWhile λ x=>(([c].toArray):ϔ Nat).contains x)=D at b d ⊢;rw [d,Ο]
  conv=>lhs;rw [b]
  rw [List.take_append_of_le_length (by rw [Ţ];show Ä _)];show ë (by rw [Ţ];show Ä _)
 rw [j];show h _ ↑(a.reverse.takeWhile λ x=>(([c].toArray):ϔ Nat).contains x) (by rw [<- g];show b) λ x i=> ?_
 rw [List.getLast?_reverse] at i;have:=List.head?_dropWhile_not (λ x=>(([c].toArray):ϔ Nat).contains x) a.reverse;rw [i] at this;intro e;subst e;simp at this
theorem a0u{a:ϊ Nat}(u:↑a<=1000000)(d:Nat->ϊ V->Hp->Prop)(s:d 0 [] H)(z: ∀i ys H',d i ys H'->↑ys<=i)
  (w: ∀(i c:Nat) ys H',a[i]? =!c->d i ys H'->g (.str (tx [c])) (cap κ σ) H' λ j H2=>qy (cap κ σ) j/\tc j H2 λ b n=>if b=true then te j n λ y o=>d (i+1) (ys++[y]) o else d (i+1) ys n)
  (t: ∀ys H',d ↑a ys H'-> ∀p,H' p=none->Q (.ref p) (upd H' p (.lst ys))):iS (DN κ g tc te σ Q) (.str (tx a)) H:=by
 show#[tx a,rfl,λ i m ys H'=>m=↑a-i/\i<=↑a/\d i ys H',#[↑a,by simp,æ _,s],?_];rintro i m ys H' ⟨rfl,A,p⟩;by_cases h:i<↑a
 .show .inr #[h,?_,λ k f=>d (i+1) k f,λ k f l=>#[↑a-(i+1),(),rfl,h,l],λ x f y=> ?_]
  .show Û (z i ys H' p) (Ô h (Ò u (by decide)))
  .obtain ⟨e,c,q,r⟩:=y;subst e r;show w i c ys _ (by simpa [tx] using q) p
 .have e:i=↑a:=()
  subst e;show .inl #[rfl,λ l v=>t ys H' p l v]
end
section
def Uu{a:TE}{g:TG}(h:aJ a g { D with nx:=u D } σ H):aA (aJ a g) u D σ H:=h
end
theorem yP{zs:ϊ Lz}(h:Fo.lk (zs.map λ z:Lz=>(z.2.1,z.2.2.2)) s=!co): ∃z∈zs,z.2.2.2=co/\bM (zs.map λ z:Lz=>((Sum.inr z.2.1:Key),V.ref z.2.2.1)) (Sum.inr s)=!(.ref z.2.2.1):=by
 induction zs with
 | nil=>cases h
 | cons p r ih=>
  rw [Ç,Fo.gH] at h;by_cases e:p.2.1=s
  .rw [if_pos e] at h
   cases h;show#[p,Ë,rfl,cJ (p:=(Sum.inr p.2.1,V.ref p.2.2.1)) (by rw [e])]
  .rw [if_neg e] at h;let#[q,m,a,b]:=ih h;show#[q,É _ m,a,(bY (p:=((Sum.inr p.2.1:Key),V.ref p.2.2.1)) (λ z=>e (Ň z))).trans b]
def yQ(a:ϐ): ¬qM a a:=œ _
theorem dY{c:ϊ ϐ}(h:c.Pairwise qM):c.Nodup:=Ŝ (S:=λ a b=>a≠b) (λ {a b} (z:qM a b) (e:a=b)=>yQ a (by rw [<- e] at z;show z)) h
section
theorem Uv{s:Type}(c:s->V){zs:ϊ s}(D:SqT K H a (zs.map c))(A:↑zs<=1000000)(d:Nat->ϊ V->Hp->Prop)(u:d 0 [] H)(w: ∀i ys H',d i ys H'->SqT K H' a (zs.map c))(E: ∀i ys H',d i ys H'->↑ys<=i)
  (C: ∀(i:Nat) z ys H',zs[i]? =!z->d i ys H'->g (c z) (cap κ σ) H' λ j H2=>qy (cap κ σ) j/\tc j H2 λ b o=>if b=true then te j o λ y t=>d (i+1) (ys++[y]) t else d (i+1) ys o)
  (v: ∀ys H',d ↑zs ys H'-> ∀p,H' p=none->Q (.ref p) (upd H' p (.lst ys))):iT K (DN κ g tc te σ Q) (.ref a) H:=by
 show#[a,rfl,#[_,D],λ i m ys H'=>m=↑zs-i/\i<=↑zs/\d i ys H',#[↑zs,by simp,æ _,u],?_];rintro i m ys H' ⟨rfl,F,p⟩;have q:=w i ys H' p;by_cases h:i<↑zs
 .have l:zs[i]? =!zs[i]:=Qr h;show .inr #[#[_,c zs[i],q,by rw [Wp,l];rfl],?_,λ k f=>d (i+1) k f,λ k f n=>#[↑zs-(i+1),(),rfl,h,n],λ x f y=> ?_]
  .show Û (E i ys H' p) (Ô h (Ò A (by decide)))
  .obtain ⟨e,y⟩:=y;subst e;have r:=y _ q;rw [Wp,l] at r
   cases r;show C i _ ys _ l p
 .have e:i=↑zs:=()
  subst e;show .inl #[#[_,q,by simp],λ n B=>v ys H' p n B]
end
end L2
namespace Mm
theorem fB: ∀{a b c d:ϊ Nat},↑a=↑c->b7 (a++b) (c++d)=b7 a c+b7 b d
 | [],b,[],d,_=>by simp [b7]
 | x::a,b,y::c,d,h=>by
  rw [ň,ň,b7,b7,fB (by simpa using h)];rfl'
end Mm
namespace Hs
open PySem L2
theorem Hi{c:Type}{R:c->c->Prop}(d: ∀a b,R a b->R b a->False): ∀{l1 l2:ϊ c},l1.Perm l2->l1.Pairwise R->l2.Pairwise R->l1=l2
 | [],l2,h,_,_=>by rw [List.nil_perm] at h;show h.symm
 | a :: t, l2, h, h1, h2 => by
  cases l2 with
  | nil=>show absurd h.symm (by intro z;rw [List.nil_perm] at z;cases z)
  | cons b u=>
   have e:a=b:=by
    rcases È.mp (h.mem_iff.mp Ë) with e | m
    .show e
    .rcases È.mp (h.mem_iff.mpr Ë) with e | m'
     .show e.symm
     .show (d _ _ ((Ρ.mp h1).1 b m') ((Ρ.mp h2).1 a m)).elim
   subst e;rw [Hi d h.cons_inv (Ρ.mp h1).2 (Ρ.mp h2).2]
def YB{c d:ϊ Int}(e:c.Perm p)(g:c.Pairwise (· < ·))(f:d.Perm p)(i:d.Pairwise (· < ·)):c=d:=
 Hi (λ a b (h:a<b) j=>()) (e.trans f.symm) g i
def Srt(rows:ϊ (ό×ϊ Dz))(ds:L2S):Prop:=↑ds=↑rows/\ ∀(j:Nat) ps row,ds[j]? =!ps->rows[j]? =!row->ps.Perm (row.2.map (·.2))/\(ps.map (·.1)).Pairwise qM
end Hs
namespace L2
open PySem
variable{zs:ϊ (ό×ϐ×V)}
theorem DrT.of{K:Ϗ}{H:Hp}{t:ό}{a:L1S}(f:H t=!(.tup (zs.map λ z=>V.ref z.1)))(g: ∀z∈zs,H z.1=!(.tup [.str z.2.1,z.2.2]))(e:zs.map (·.2)=a.map λ p=>(p.1,V.int p.2)):DrT K H t a:=by
 show#[(zs.zip a).map λ q=>(q.1.1,q.2.1,q.2.2),?_,?_,?_]
 .rw [Å];change(zs.zip a).map (λ q=>q.2)=a;rw [List.map_snd_zip (by have:=Ö List.length e;simp at this;rfl')]
 .rw [Å];have:(zs.zip a).map ((λ z:ό×ϐ×Int=>V.ref z.1)∘λ q=>(q.1.1,q.2.1,q.2.2))=((zs.zip a).map (·.1)).map λ z=>V.ref z.1:=by rw [Å];rfl
  rw [this,List.map_fst_zip (by have:=Ö List.length e;simp at this;rfl')];show f
 .intro z k;let#[q,j,rfl]:=Zs.mp k;let#[i,h,c]:=ā.mp j;rw [List.getElem_zip] at c;have b:i<↑zs/\i<↑a:=by rw [List.length_zip] at h;rfl'
  have d:zs[i].2=(a[i].1,V.int a[i].2):=by
   have:=Ö (λ l=>l[i]?) e;simp only [Wp,Qr b.1,Qr b.2,Ŕ] at this;show Þ this
  rw [<- c];have:=g _ (Ï b.1);rw [d] at this;show this
section
def yR(e:H a=!(.dT kvs))(h:Q (.int ↑kvs) H):wB [.ref a] H Q:=#[a,kvs,rfl,e,h]
end
theorem fC{b:Type}{f:b->Key}{g:b->V}{a:ϊ b}(h:k∉a.map f):bM (a.map λ z=>(f z,g z)) k=none:=by
 induction a with
 | nil=>rfl
 | cons z r ih=>
  rw [Ç] at h ⊢;rw [bY (λ e=>h (by rw [<- e];show Ë))];show ih (λ m=>h (É _ m))
theorem YC(n:Nat)(h:Hs.Sg s):Sh n (.str s):=by
 let#[k,rfl]:=h;show Hd n λ c a=>by rw [Zp.mp a];show Hs.yO k
def PrL(H:Hp)(p:ό)(zs:ϊ Lz):Prop:=H p=!(.lst (zs.map λ z:Lz=>V.ref z.1))/\ ∀z∈zs,H z.1=!(.tup [.str z.2.1, .ref z.2.2.1])/\H z.2.2.1=!(.lst (nv z.2.2.2))
def xJ(ls:ϵ):PyData:= .list (ls.map λ p=> .tuple [.str p.1, .list ((p.2.map λ i:Nat=>(i:Int)).map PyData.int)])
end L2
namespace Fo
open PySem L2
structure GoodL(ht:Nat)(zs:ϊ Lz):Prop where
 pos:1<=↑zs
 le:↑zs<=40
 nd:(zs.map λ z:Lz=>z.2.1).Nodup
 sg: ∀z∈zs,Hs.Sg z.2.1
 c1: ∀z∈zs,1<=↑z.2.2.2/\↑z.2.2.2<=8
 cb: ∀z∈zs,∀x∈z.2.2.2,x<2^ht
def Of(zs:ϊ Lz)(ls:ϵ):Prop:=ls.Perm (zs.map λ z:Lz=>(z.2.1,z.2.2.2))/\(ls.map (·.1)).Pairwise qM
def GoodL.wf{f:Nat}(g:GoodL f zs)(o:Of zs b):Wf f b:=by
 have d:↑b=↑zs:=by rw [o.1.length_eq,Qb]
 have c: ∀p∈b,∃z∈zs,p=(z.2.1,z.2.2.2):=λ p m=>by
  let#[z,a,e]:=Zs.mp (o.1.mem_iff.mp m);show#[z,a,e.symm]
 show#[by rw [d];show g.pos,by rw [d];show g.le,o.2,λ p m=> ?_,λ p m=> ?_,λ p m=> ?_]
 .obtain ⟨z,a,rfl⟩:=c p m;show g.sg z a
 .obtain ⟨z,a,rfl⟩:=c p m;show g.c1 z a
 .obtain ⟨z,a,rfl⟩:=c p m;show g.cb z a
end Fo
namespace Hs
open PySem L2
def Av{m n:Int}(h:uA m=uA n):m%94=n%94:=by
 have f:↑Q8.cps.toList=94:=by ac_nf
 have a:Q8.cps.toList.Nodup:=by ac_nf
 have b:0<=m%94:=Ι _ (by decide);have c:m%94<94:=Ŭ _ (by decide);have d:0<=n%94:=Ι _ (by decide);have e:n%94<94:=Ŭ _ (by decide);unfold uA at h;rw [Yf,Yf,Qr (),Qr ()] at h;have:=(ţ (h₀:=()) (h₁:=()) a).mp h;rfl'
end Hs
namespace L2
open PySem
variable{c:Nat}
abbrev Gz:=ό×V×ό×ϊ V
theorem Qc{a:ϊ V}{R:Hp->Prop}(e:H l=!(.lst a))(b:0<↑a)(h:R (upd H l (.lst (a.set (↑a-1) v)))):oW (.ref l) (.int (-1)) v H R:=by
 show#[l,a,-1,↑a-1,rfl,rfl,e,?_,h];unfold Eu;rw [if_neg (by decide),if_pos ()];congr 1;rfl'
section
def iRD(R:It->Hp->Prop)(vs:ϊ V)(H:Hp):Prop:= ∃i j:Int,vs=[.int i, .int j, .int (-1)]/\(-(2^62)<=i/\i<2^62/\ -(2^62)<=j/\j<2^62)/\R (Ox i (i-j).toNat) H
theorem Uw{lo n:Int}(m:Nat)(e:(lo-n).toNat=m)(u:n<=1000000000)(v: -1000000000<=n)(o: -1000000000<=lo)(d:lo<=1000000000)(a:Nat->St->Hp->Prop)(j:a 0 σ H)
  (q: ∀(i:Nat) σ H',i<m->a i σ H'->g (.int (lo-i)) σ H' λ c H2=>tb { D with nx:=a (i+1),ct:=a (i+1),bk:=D.nx } c H2) (l: ∀σ H',a m σ H'->D.nx σ H'):iRD (qP g tb D σ) [.int lo, .int n, .int (-1)] H:=by
 show#[lo,n,rfl,#[(),(),(),()],?_];rw [e];show#[λ i k σ H=>k=m-i/\i<=m/\a i σ H,#[m,by simp,æ _,j],?_];rintro i k σ H ⟨rfl,t,p⟩;by_cases b:i<m
 .show .inr #[b,a (i+1),λ s H' r=>#[m-(i+1),(),rfl,b,r],λ x H' y=> ?_];let#[f,h]:=y;subst f h;show q i σ _ b p
 .have e:i=m:=()
  subst e;show .inl #[Nat.le_refl _,l σ H p]
def iZG(K:Ϗ)(R:It->Hp->Prop)(vs:ϊ V)(H:Hp):Prop:= ∃a b xs ys q,vs=[.ref a, .ref b]/\SqT K H a xs/\DG K H b ys q/\R (Ua K a b q) H
theorem pQ{c:ϊ V}(s:Same H b): ∀{q:ϑ},DG K H a c q->DG K b a c q
 | true,h=>s.seq h
 | false,h=>s.tup h
theorem YD{D E:Type}(c:D->V)(d:E->V){h:ϊ D}{j:ϊ E}(B:SqT K H a (h.map c))(C:DG K H b (j.map d) J)(N:↑h=↑j)(O:↑h<=1000000)(f:D->E->V)
  (P: ∀(i:Nat) x y p H',h[i]? =!x->j[i]? =!y->Same H H'->H' p=!(.tup [c x,d y])-> ∀A:VK,(∀o,Same H' o->A (f x y) o)->g (.ref p) (cap κ σ) H' λ s H2=>qy (cap κ σ) s/\te s H2 A)
  (M: ∀p H',Same H H'->H' p=!(.lst (List.zipWith f h j))->Q (.ref p) H'):iZG K (DN κ g dB te σ Q) [.ref a, .ref b] H:=by
 show#[a,b,_,_,J,rfl,B,C,λ i m L H'=>m=↑h-i/\i<=↑h/\Same H H'/\L=List.zipWith f (h.take i) (j.take i),#[↑h,by simp,æ _,Same.refl H,rfl],?_];rintro i m L H' ⟨rfl,U,k,rfl⟩;by_cases n:i<↑h
 .have t:h[i]? =!h[i]:=Qr n;have u:j[i]? =!(j[i]'(by rfl')):=Qr ();show .inr #[#[_,_,c h[i],d (j[i]'(by rfl')),k.tup B,pQ k C,by rw [Wp,t];rfl,by rw [Wp,u];rfl],?_,λ r l=>Same H l/\r=List.zipWith f (h.take (i+1)) (j.take (i+1)),λ r l I=>#[↑h-(i+1),(),rfl,n,I.1,I.2],λ v l y=> ?_]
  .have:↑(List.zipWith f (h.take i) (j.take i))<=i:=by
    rw [List.length_zipWith,Ð];rfl'
   show Û this (Ô n (Ò O (by decide)))
  .obtain ⟨p,x,z,w,rfl,rfl,R,S⟩:=y;have F:=R _ (k.tup B);have G:=S _ (pQ k C);rw [Wp,t] at F;rw [Wp,u] at G
   cases F
   cases G;have q:=P i _ _ p (upd H' p (.tup [c h[i],d (j[i]'(by rfl'))])) t u (k.new w) aa (λ y o=>Same H o/\List.zipWith f (h.take i) (j.take i)++[y]=List.zipWith f (h.take (i+1)) (j.take (i+1))) (λ o T=>#[(k.new w).trans T,?_])
   .simpa only [dB,ĺ] using q
   .rw [Í,Í,t,u,List.zipWith_append (by rw [Ð,Ð];rfl')];rfl
 .have e:i=↑h:=()
  subst e;show .inl #[#[_,_,k.tup B,pQ k C, .inl (by simp)],λ p w=>M p _ (k.new w) ?_];rw [aa,Õ,N,Õ]
end
theorem ar0{a:Type}{P:ϊ a->Prop}(h:P []): ∀us:ϊ a,↑us=0->P us
 | [],_=>h
theorem ar1{c:Type}{P:ϊ c->Prop}(h: ∀a0:c,P [a0])(b:ϊ c)(e:↑b=1):P b:=by
 cases b with
 | nil=>cases e
 | cons a b=>show ar0 (P:=λ l=>P (a::l)) (h a) b (ŭ e)
theorem ar2{c:Type}{P:ϊ c->Prop}(h: ∀a0 d:c,P [a0,d])(b:ϊ c)(e:↑b=2):P b:=by
 cases b with
 | nil=>cases e
 | cons a b=>show ar1 (P:=λ l=>P (a::l)) (h a) b (ŭ e)
theorem ar3{c:Type}{P:ϊ c->Prop}(h: ∀a0 d f:c,P [a0,d,f])(b:ϊ c)(e:↑b=3):P b:=by
 cases b with
 | nil=>cases e
 | cons a b=>show ar2 (P:=λ l=>P (a::l)) (h a) b (ŭ e)
theorem ar4{c:Type}{P:ϊ c->Prop}(h: ∀a0 d f g:c,P [a0,d,f,g])(b:ϊ c)(e:↑b=4):P b:=by
 cases b with
 | nil=>cases e
 | cons a b=>show ar3 (P:=λ l=>P (a::l)) (h a) b (ŭ e)
theorem ar5{c:Type}{P:ϊ c->Prop}(h: ∀a0 d f g i:c,P [a0,d,f,g,i])(b:ϊ c)(e:↑b=5):P b:=by
 cases b with
 | nil=>cases e
 | cons a b=>show ar4 (P:=λ l=>P (a::l)) (h a) b (ŭ e)
theorem ar6{c:Type}{P:ϊ c->Prop}(h: ∀a0 d f g i j:c,P [a0,d,f,g,i,j])(b:ϊ c)(e:↑b=6):P b:=by
 cases b with
 | nil=>cases e
 | cons a b=>show ar5 (P:=λ l=>P (a::l)) (h a) b (ŭ e)
section
theorem s_split(b:(↑y==0)=false)(a:↑s<=1000000)(h: ∀p,H p=none->Q (.ref p) (upd H p (.lst ((Txt.split s y).map V.str)))):ug (.str s) [.str y] H Q:=#[s,y,rfl,rfl,b,Ò (Ż a 2) (by decide),h]
end
namespace Tn
def dv(cs:ϊ Nat):Nat:=PySem.NumText.digitsVal cs
def iJ(c:Nat):ϊ Nat->ϊ (ϊ Nat)
 | []=>[[]]
 | x::r=>if x=c then []::iJ c r else match iJ c r with
  | []=>[[x]]
  | p::ps=>(x::p)::ps
theorem uC(c:Nat): ∀cs,∃p ps,iJ c cs=p::ps
 | []=>#[_,_,rfl]
 | x::r=>by
  let#[p,ps,e]:=uC c r;unfold iJ;split
  .show #[_,_,rfl]
  .rw [e];show#[_,_,rfl]
theorem jF{x:Nat}{a:ϊ (ϊ Nat)}(h:x≠c)(e:iJ c r=p::a):iJ c (x::r)=(x::p)::a:=by
 rw [iJ,if_neg h,e]
theorem Aw:iJ c (c::r)=[]::iJ c r:=by rw [iJ,if_pos rfl]
def bj(c:Nat):ϊ (ϊ Nat)->ϊ Nat
 | []=>[]
 | [p]=>p
 | p::q::r=>p++c::bj c (q::r)
theorem wX{c:Nat}: ∀{p:ϊ Nat},c∉p->iJ c p=[p]
 | [],_=>rfl
 | x::r,h=>by
  have a:x≠c:=λ e=>h (by rw [e];simp)
  rw [jF a (wX (p:=r) λ m=>h (by simp [m]))]
theorem Ax{c:Nat}: ∀{p:ϊ Nat},c∉p->iJ c (p++c::q)=p::iJ c q
 | [],_=>Aw
 | x::r,h=>by
  have a:x≠c:=λ e=>h (by rw [e];simp)
  rw [ň,jF a (Ax (p:=r) λ m=>h (by simp [m]))]
theorem pR{c:Nat}: ∀(ys:ϊ (ϊ Nat)),ys≠[]->(∀y∈ys,c∉y)->iJ c (bj c ys)=ys
 | [],h,_=>absurd rfl h
 | [p],_,h=>wX (h p (by simp))
 | p::q::r,_,h=>by
  change iJ c (p++c::bj c (q::r))=_;rw [Ax (h p (by simp)),pR (q::r) (by simp) λ y m=>h y (by simp [m])]
theorem uD(c:Nat): ∀ys:ϊ (ϊ Nat),Str.join #[([c].toArray)] (ys.map tx)=tx (bj c ys)
 | []=>rfl
 | [p]=>rfl
 | p::q::r=>by
  change tx p++tx [c]++Str.join #[([c].toArray)] ((q::r).map tx)=_;rw [uD c (q::r),eV,eV];change tx (p++[c]++bj c (q::r))=tx (p++c::bj c (q::r));rw [é];rfl
theorem pU(c:Nat)(a:ϊ Nat):Txt.split (tx a) #[([c].toArray)]=(iJ c a).map tx:=by
 have b:=StrLaws.join_split (tx a) #[([c].toArray)];have g:=StrLaws.split_free (tx a) c;have d:=(PyProof.Rows.split_pos (tx a) #[([c].toArray)]);have e:Txt.split (tx a) ⟨([c].toArray)⟩=((Txt.split (tx a) ⟨([c].toArray)⟩).map λ s=>s.cps.toList).map tx:=by
  rw [Å]
  conv=>lhs;rw [<- List.map_id (Txt.split (tx a) #[([c].toArray)])]
  apply ÿ;intro s _;rfl
 generalize hy:(Txt.split (tx a) #[([c].toArray)]).map (λ s=>s.cps.toList)=ys at e;rw [e,uD,gV] at b;rw [e,<- b,pR ys (λ z=>by rw [e,z] at d;show absurd d (by decide)) (λ y f=>by
  rw [<- hy] at f;let#[s,h,rfl]:=Zs.mp f;show g s h)]
theorem uE(c:Nat): ∀cs,↑(iJ c cs)<=↑cs+1
 | []=>Ä _
 | x::r=>by
  have a:=uE c r;by_cases h:x=c
  .subst h;rw [Aw];simp only [è];rfl'
  .obtain ⟨p,b,e⟩:=uC c r;rw [e] at a;rw [jF h e];simp only [è] at a ⊢;rfl'
theorem Hj(c:Nat)(b:ϊ Nat): ∀l∈iJ c b,↑l<=↑b:=λ l d=>by
 have:=PyProof.Rows.part_short (x:=tx b) (y:=#[([c].toArray)]) (a:=tx l) (by rw [pU];show Zs.mpr #[l,d,rfl]);rwa [aM,aM] at this
end Tn
def iDG{α:Type}(c:α->V)(O:ό->ϊ α->HO)(R:It->Hp->Prop):V->Hp->Prop:=λ x H1=> ∃a zs,x= .ref a/\((H1 a=!(O a zs)/\ ∀od,R (yp c od (O a zs) a zs) (upd H1 a (.frz od (O a zs))))\/ ∃od,H1 a=!(.frz od (O a zs))/\R (yp c od (O a zs) a zs) H1)
section
variable{α:Type}{c:α->V}{O:ό->ϊ α->HO}{zs:ϊ α}
theorem Hk:Sb [a] H (upd H a o):=λ b o c q=>by rw [au (by simpa using c)];show q
theorem Rb(d:Rd H a (O a zs))(h: ∀od H1,Sb [a] H H1->H1 a=!(.frz od (O a zs))->R (yp c od (O a zs) a zs) H1):iDG c O R (.ref a) H:=by
 rcases d with e | ⟨od,e⟩
 .show #[a,zs,rfl, .inl #[e,λ od=>h od _ Hk aa]]
 .show #[a,zs,rfl, .inr #[od,e,h od H (λ b o _ q=>q) e]]
theorem Hl(k:Rd H a (O a zs))(b:PySem.Obj->Nat->St->Hp->Prop)(n: ∀od H1,Sb [a] H H1->H1 a=!(.frz od (O a zs))->b od 0 σ H1)(f: ∀od i σ H',b od i σ H'->H' a=!(.frz od (O a zs)))
  (r: ∀od (i:Nat) z σ H',zs[i]? =!z->b od i σ H'->g (c z) σ H' λ e H2=>tb { D with nx:=b od (i+1),ct:=b od (i+1),bk:=D.nx } e H2) (q: ∀od σ H',b od ↑zs σ H'->D.nx σ H'):iDG c O (qP g tb D σ) (.ref a) H:=by
 show Rb k λ od H1 t j=>#[λ i m σ H=>m=↑zs-i/\i<=↑zs/\b od i σ H,#[↑zs,by simp,æ _,n od H1 t j],?_]
 rintro i m σ H' ⟨rfl,v,p⟩;by_cases d:i<↑zs
 .show .inr #[#[f od i σ H' p,d],b od (i+1),λ u H' s=>#[↑zs-(i+1),(),rfl,d,s],λ x h y=> ?_];let#[rfl,z,o,rfl]:=y;show r od i z σ _ o p
 .have l:i=↑zs:=()
  subst l;show .inl #[#[f od _ σ H' p,Ä _],q od σ H' p]
theorem YF(D:Rd H a (O a zs))(L:↑zs<=1000000)(f:α->ύ V)
  (h: ∀od H1,Sb [a] H H1->H1 a=!(.frz od (O a zs))->
   (∀(i:Nat) z,zs[i]? =!z-> ∀(A:VK)(B:Hp->Prop),(∀y,f z=!y->A y H1)->(f z=none->B H1)->g (c z) (cap κ σ) H1 λ k H2=>qy (cap κ σ) k/\tc k H2 λ b t=>if b=true then te k t A else B t)/\
   ∀p,H1 p=none->Q (.ref p) (upd H1 p (.lst (zs.filterMap f)))):iDG c O (DN κ g tc te σ Q) (.ref a) H:=by
 show Rb D λ od H1 J q=> ?_
 let#[I,F]:=h od H1 J q;show#[λ i m C n=>m=↑zs-i/\i<=↑zs/\n=H1/\C=(zs.take i).filterMap f,#[↑zs,by simp,æ _,rfl,rfl],?_];rintro i m C n ⟨rfl,K,rfl,rfl⟩;by_cases j:i<↑zs
 .have r:zs[i]? =!zs[i]:=Qr j;have u:zs.take (i+1)=zs.take i++[zs[i]]:=by rw [Í,r];rfl
  have s:↑((zs.take i).filterMap f)<=1000000:=Ò (ĸ _ _) (by rw [Ð];rfl');show .inr #[#[q,j],Û s (by decide),λ l d=>d=n/\l=(zs.take (i+1)).filterMap f,λ l d x=>#[↑zs-(i+1),(),rfl,j,x.1,x.2],λ v d y=> ?_];let#[rfl,z,w,rfl]:=y;rw [r] at w
  cases w;show I i _ r (λ y o=>o=d/\(zs.take i).filterMap f++[y]=(zs.take (i+1)).filterMap f) (λ o=>o=d/\(zs.take i).filterMap f=(zs.take (i+1)).filterMap f)
   (λ y e=>#[rfl,by rw [u,Mm.dU,e];rfl]) (λ e=>#[rfl,by rw [u,Mm.dU,e];simp])
 .have E:i=↑zs:=()
  subst E;show .inl #[#[q,Ä _],λ p G=> ?_];rw [Õ];show F p G
end
def kz(kvs:ϊ Kz):ϵ:=kvs.map λ p:Kz=>(p.1,p.2.2)
namespace Tn
theorem Qd(c:Nat)(a:ϊ (ϊ Nat)):Txt.join #[([c].toArray)] (a.map tx)=tx (bj c a):=by
 change Builtin.Str.glued _ _=_;rw [StrLaws.glued_eq_join,uD]
theorem gr{c:Nat}: ∀{ws:ϊ (ϊ Nat)},ws≠[]->bj c (ws++[w])=bj c ws++c::w
 | [],h=>absurd rfl h
 | [p],_=>rfl
 | p::q::r,_=>by
  change p++c::bj c ((q::r)++[w])=p++c::bj c (q::r)++c::w;rw [gr (ws:=q::r) (by simp)];simp
theorem je{c:Nat}: ∀{pre:ϊ (ϊ Nat)},bj c (pre++[w++x])=bj c (pre++[w])++x
 | []=>rfl
 | [p]=>by change p++c::(w++x)=p++c::w++x;simp
 | p::q::r=>by
  change p++c::bj c ((q::r)++[w++x])=p++c::bj c ((q::r)++[w])++x;rw [je (pre:=q::r)];simp
theorem sW{c x:Nat}: ∀{ws:ϊ (ϊ Nat)},x∈bj c ws->x=c\/ ∃w∈ws,x∈w
 | [],h=>by cases h
 | [p],h=> .inr #[p,by simp,h]
 | p::q::r,h=>by
  rcases Æ.mp h with m | m
  .show .inr #[p,by simp,m]
  .rcases È.mp m with e | m
   .show .inl e
   .rcases sW m with e | ⟨w,mw,m⟩
    .show .inl e
    .show .inr #[w,É _ mw,m]
theorem sX{c x:Nat}: ∀{ws:ϊ (ϊ Nat)},w∈ws->x∈w->x∈bj c ws
 | [p],h,m=>by rw [Zp.mp h] at m;show m
 | p::q::r,h,m=>by
  rcases È.mp h with e | h
  .rw [e] at m;show Ý _ m
  .show Ü _ (É _ (sX h m))
theorem lV{c x:Nat}: ∀{cs:ϊ Nat},w∈iJ c cs->x∈w->x∈cs
 | [],h,m=>by rw [Zp.mp h] at m;cases m
 | y::r,h,m=>by
  by_cases e:y=c
  .subst e;rw [Aw] at h;rcases È.mp h with z | h
   .rw [z] at m;cases m
   .show É _ (lV h m)
  .obtain ⟨p,b,a⟩:=uC c r;rw [jF e a] at h;rcases È.mp h with z | h
   .rw [z] at m;rcases È.mp m with z | m
    .rw [z];show Ë
    .show É _ (lV (c:=c) (w:=p) (by rw [a];show Ë) m)
   .show É _ (lV (c:=c) (w:=w) (by rw [a];show É _ h) m)
theorem wY{c:Nat}: ∀(cs:ϊ Nat),bj c (iJ c cs)=cs
 | []=>rfl
 | y::r=>by
  have b:=wY (c:=c) r;let#[p,d,a]:=uC c r;by_cases e:y=c
  .subst e;rw [Aw,a];change []++y::bj y (p::d)=_;rw [<- a,b];rfl
  .rw [jF e a];rw [a] at b
   cases d with
   | nil=>change y::p=_;rw [show p=r from b]
   | cons q t=>change(y::p)++c::bj c (q::t)=_;rw [<- b];rfl
end Tn
end L2
namespace L2.Tn
theorem pW{c:Nat}: ∀{ws:ϊ (ϊ Nat)},w∈ws->↑w<=↑(bj c ws)
 | [p],h=>by rw [Zp.mp h];show Ä _
 | p::q::r,h=>by
  change _<=↑(p++c::bj c (q::r));rw [Â,è];rcases È.mp h with e | h
  .rw [e];rfl'
  .have:=pW (c:=c) h;rfl'
theorem pX(c:Nat): ∀(ws:ϊ (ϊ Nat))(i:Nat),↑(bj c (ws.take i))<=↑(bj c ws)
 | [],i=>by simp
 | [p],0=>by simp [bj]
 | [p],i+1=>by simp
 | p::q::r,0=>by simp [bj]
 | p::q::r,1=>by
  change ↑p<=↑(p++c::bj c (q::r));rw [Â];rfl'
 | p::q::r,i+2=>by
  change↑(p++c::bj c ((q::r).take (i+1)))<=↑(p++c::bj c (q::r));have:=pX c (q::r) (i+1);rw [Â,Â,è,è];rfl'
end L2.Tn
namespace L2
open PySem
def LL(H:Hp)(p:ό)(rows:ϊ (ό×ϊ Nat)):Prop:=H p=!(.lst (rows.map λ r:ό×ϊ Nat=>V.ref r.1))/\ ∀r∈rows,H r.1=!(.lst (nv r.2))
section
def YG{lo n c:Int}(m:Nat)(e:Builtin.Range.rangeSize lo n c=(m:Int))(v:m<=1000000)(t:c≠0)(h:Builtin.Range.small lo n c=true)(j:Builtin.divisionGoesByPylong (n-lo) c=false)(d:Nat->ϊ V->Hp->Prop)(s:d 0 [] H)(z: ∀i ys H',d i ys H'->↑ys<=i)
  (w: ∀(i:Nat) ys H',i<m->d i ys H'->g (.int (lo+i*c)) (cap κ σ) H' λ f H2=>qy (cap κ σ) f/\tc f H2 λ b l=>if b=true then te f l λ y o=>d (i+1) (ys++[y]) o else d (i+1) ys l)
  (u: ∀ys H',d m ys H'-> ∀p,H' p=none->Q (.ref p) (upd H' p (.lst ys))):iR3 (DN κ g tc te σ Q) [.int lo, .int n, .int c] H:=by
 show#[lo,n,c,m,rfl,t,h,j,e,λ i k ys H'=>k=m-i/\i<=m/\d i ys H',#[m,by simp,æ _,s],?_];rintro i k ys H' ⟨rfl,C,p⟩;by_cases a:i<m
 .show .inr #[a,Û (z _ _ _ p) (Ô a (Ò v (by decide))),d (i+1),λ B H' A=>#[m-(i+1),(),rfl,a,A],λ x H' y=> ?_];let#[q,r]:=y;subst q r;show w i ys _ a p
 .have e:i=m:=()
  subst e;show .inl #[Nat.le_refl _,u ys H' p]
end
end L2
namespace Mm
def SOk(h:Nat)(ls:ϊ (ϊ Nat)):Prop:=↑ls%h=0/\ ∀l∈ls,↑l=↑(ls.headD [])/\ ∀c∈l,c=35\/c=46
def chunk(h:Nat)(ls:ϊ (ϊ Nat))(i:Nat):ϊ (ϊ Nat):=(ls.drop (i*h)).take h
def yS{h:Nat}(j:SOk h c)(p:1<=h)(m:h<=60){i:Nat}(o:i<↑c / h):Good (chunk h c i):=by
 have r:i*h+h<=↑c:=by
  have k:(i+1)*h<=↑c / h*h:=Ş _ o;have q:=Nat.div_mul_le_self ↑c h;rw [Nat.add_mul,Nat.one_mul] at k;rfl'
 have d:↑(chunk h c i)=h:=by unfold chunk;rw [Ð,ì];rfl'
 have g: ∀l∈chunk h c i,l∈c:=λ l f=>List.mem_of_mem_drop (ħ f)
 show#[(),(),λ l f=> ?_,λ l f=>(j.2 l (g l f)).2];have n:(chunk h c i).headD []∈chunk h c i:=by
  cases e:chunk h c i with
  | nil=>rw [e] at d;simp at d;rfl'
  | cons a b=>simp
 rw [(j.2 l (g l f)).1,(j.2 _ (g _ n)).1]
theorem dZ(h:Nat): ∀ss:ϊ (ϊ Nat),↑(ss.flatMap (draw h))=↑ss*h
 | []=>by simp
 | a::r=>by rw [ĭ,Â,dZ h r,fu,è,Nat.add_mul];rfl'
theorem pY{h:Nat}: ∀(ss:ϊ (ϊ Nat))(i:Nat)(hi:i<↑ss),chunk h (ss.flatMap (draw h)) i=draw h ss[i]
 | a::r,0,_=>by
  unfold chunk;rw [ĭ,Nat.zero_mul,Ź,List.take_left' (fu h a)];rfl
 | a::r,i+1,hi=>by
  have:=pY (h:=h) r i (by simpa using hi);unfold chunk at this ⊢;rw [ĭ,show(i+1)*h=↑(draw h a)+i*h by rw [fu,Nat.add_mul];rfl',List.drop_append,List.drop_eq_nil_of_le (),ľ,Ů,this];rfl
def Qe{h:Nat}{f:ϊ (ϊ Nat)}{W:Nat}(m:1<=h)(j: ∀s∈f,↑s=W):SOk h (f.flatMap (draw h)):=by
 have g: ∀l∈f.flatMap (draw h),↑l=W/\ ∀c∈l,c=35\/c=46:=λ l d=>by
  let#[s,k,d]:=ï.mp d;let#[y,_,rfl]:=pM d;show#[by rw [iC,j s k],PL s y]
 show#[by rw [dZ];show Nat.mul_mod_left _ _,λ l d=>#[?_,(g l d).2]];have i:(f.flatMap (draw h)).headD []∈f.flatMap (draw h):=by
  cases e:f.flatMap (draw h) with
  | nil=>rw [e] at d;cases d
  | cons a b=>simp
 rw [(g l d).1,(g _ i).1]
end Mm
namespace L2
open PySem
def yU{j c:Int}(i:0<=j)(b:j<=100000)(h:0<c)(a:c<=1000):Builtin.Range.small 0 j c=true/\Builtin.divisionGoesByPylong (j-0) c=false:=by
 have d:0<=Builtin.Range.rangeSize 0 j c/\Builtin.Range.rangeSize 0 j c<=100000:=by
  unfold Builtin.Range.rangeSize;rw [if_pos ()];split
  .have e:(j-0-1) / c<=j-0-1:=Int.ediv_le_self _ ();have f:0<=(j-0-1) / c:=Int.ediv_nonneg () ();rfl'
  .rfl'
 show#[?_,?_]
 .unfold Builtin.Range.small Builtin.Range.rangeFitsLong;rw [if_pos (show c>0 by rfl')];simp only [Ć,Bool.or_eq_true,decide_eq_true_eq,beq_iff_eq];rfl'
 .unfold Builtin.divisionGoesByPylong;have k:c.natAbs.log2<=1000:=Ò (Nat.log2_le_self _) ();have g:c.natAbs.log2 / 30+1<=300:=()
  dsimp only;rw [Bool.and_eq_false_iff];left;apply Ú;split<;>rfl'
def Qf{n h m:Nat}(f:1<=h)(e:n=m*h):Builtin.Range.rangeSize 0 (n:Int) (h:Int)=(m:Int):=by
 unfold Builtin.Range.rangeSize;rw [if_pos ()];split
 .rename_i a;have g:1<=m:=Nat.pos_of_ne_zero λ z=>by rw [z,Nat.zero_mul] at e;rfl'
  have b:(n:Int)-0-1=((h:Int)-1)+(m-1:Nat)*(h:Int):=by
   have c:(n:Int)=(m:Int)*h:=by rw [e];simp
   have d:((m-1:Nat):Int)=(m:Int)-1:=()
   rw [c,d,Int.sub_mul];rfl'
  rw [b,Int.add_mul_ediv_right _ _ (),Int.ediv_eq_zero_of_lt () ()];rfl'
 .rename_i a;have:n=0:=()
  rw [this] at e;rcases Nat.mul_eq_zero.mp e.symm with z | z
  .rw [z];rfl
  .rfl'
def Ux{a:ϊ V}(e:H l=!(.lst (y::a)))(h:Q y (upd H l (.lst a))):xX (.ref l) [.int 0] H Q:=⟨l,y::a,0,0,y,rfl,rfl,e,by decide,by decide,by
 unfold seqIndex?;simp,rfl,h⟩
def s_pop{a:ϊ V}(e:H l=!(.lst (a++[y])))(h:Q y (upd H l (.lst a))):Tj (.ref l) [] H Q:=#[l,a++[y],y,rfl,rfl,e,by simp,by rw [List.dropLast_concat];show h]
def Hm{b:ϊ (ϊ Key×V)}(e:H a=!(.dT b))(c:↑b<=1000000)(h: ∀r (zs:ϊ (ό×ϊ Key)),H r=none->zs.map (·.2)=b.map (·.1)->(∀z∈zs,H z.1=!(.tup (z.2.map kV)))->Q (.ref r) (upd H r (.lst (zs.map λ z=>V.ref z.1)))):ut [.ref a] H Q:=#[a,b,rfl,e,c,h]
def Rc{b:ϊ V}(e:SqT K H a b)(h: ∀p H',Same H H'->SqT K H' p (il b lo hi)->Q (.ref p) H'):wk K (.ref a) lo hi H Q:=⟨a,b,rfl,e,λ p H' c d=>h p H' (by
 rcases c with ⟨rfl,rfl,_⟩ | ⟨hn,rfl⟩
 .show Same.refl _
 .show aq hn _) d⟩
def Hn{b:ϊ V}(e:H a=!(.tup b))(h: ∀p H',Same H H'->H' p=!(.tup (il b lo hi))->Q (.ref p) H'):wk K (.ref a) lo hi H Q:=⟨a,b,rfl,SqT.of e,λ p H' c d=>by
 rcases c with ⟨rfl,rfl,z⟩ | ⟨hn,rfl⟩
 .show h _ _ (Same.refl _) (by rw [z];show e)
 .show h _ _ (aq hn _) aa⟩
def SGet.of(e:H a=!(cD a kvs))(d: ∀p∈kvs,uY H p.1 p.2.1)(c:uY H b k):SGet H a (.ref b) (dC kvs k):=#[kvs,k,b, .inl e,d,rfl,c,rfl]
def SPut.of(e:H a=!(cD a kvs))(d: ∀p∈kvs,uY H p.1 p.2.1)(c:uY H b k)(f:↑kvs<=1000000):SPut H a (.ref b) v (upd H a (cD a (uh kvs b k v))):=#[kvs,k,b,e,d,rfl,c,Û f (by decide),rfl]
def sY:dC kvs k=none↔k∉kvs.map (·.2.1):=by
 unfold dC;rw [ū,Ķ];constructor
 .intro h m;let#[p,a,e]:=Zs.mp m;show h p a (Ø e)
 .intro h p a e;show h (Zs.mpr #[p,a,ô e])
def De(h:dC kvs k=!v): ∃b,(b,k,v)∈kvs:=by
 unfold dC at h;let#[p,a,rfl]:=Î.mp h;have c:=Ĉ a;have d:p.2.1=k:=by
  have:=Ű a;show ô this
 show#[p.1,by rw [<- d];show c]
def pZ(h:dC kvs k=none):uh kvs b k v=kvs++[(b,k,v)]:=by
 unfold uh;rw [h];rfl
section
def Uy{l:Type}(c:l->V){xs:ϊ l}(w:SqL K H a (xs.map c))(b:Nat->St->Hp->Prop)(o:b 0 σ H)
  (s: ∀i σ H',b i σ H'->SqL K H' a (xs.map c))
  (u: ∀(i:Nat) x p σ H',xs[i]? =!x->b i σ H'->H' p=none->g (.ref p) σ (upd H' p (.tup [.int (i:Int),c x])) λ h H2=>tb { D with nx:=b (i+1),ct:=b (i+1),bk:=D.nx } h H2)
  (q: ∀σ H',b ↑xs σ H'->D.nx σ H'):iE K (qP g tb D σ) [.ref a] H:=by
 show#[a,_,rfl,w,λ i m σ H=>m=↑xs-i/\i<=↑xs/\b i σ H,#[↑xs,by simp,æ _,o],?_];rintro i m σ H ⟨rfl,B,p⟩;have f:=s i σ H p;by_cases d:i<↑xs
 .have j:(xs.map c)[i]? =!(c xs[i]):=by rw [Wp,Qr d];rfl
  show .inr #[#[_,_,f,j],b (i+1),λ A H' z=>#[↑xs-(i+1),(),rfl,d,z],λ v H' y=> ?_];let#[r,C,t,rfl,rfl,n]:=y;have k:=n _ f;rw [j] at k
  cases k;show u i _ r σ H (Qr d) p t
 .have e:i=↑xs:=()
  subst e;show .inl #[#[_,f,by rw [Qb];show Ä _],q σ H p]
end
def gb{a:ϊ V}(h:H p=!(.tup a))(e:H q=!(.lst ys)):upd H q o p=!(.tup a):=by
 rw [au λ z=>by rw [z,e] at h;cases h];show h
def q9{a:St}(e:Nat->St->Hp->Prop)(o:Nat)(q:e o a H)
  (r: ∀m a H (N:St->Hp->Prop),e m a H->(∀m' σ' H',m'<m->e m' σ' H'->N σ' H')->c a H λ b H1=>if b=true then p { D with nx:=N,ct:=N,bk:=D.nx } a H1 else D.nx a H1)
  (f: ∀a H Q n,(∀b H1,Q b H1->n b H1)->c a H Q->c a H n):gP c p D a H:=by
 classical
 have d: ∀(P:Nat->Prop),(∃m,P m)-> ∃m,P m/\ ∀k,P k->m<=k:=λ P ⟨m,j⟩=>by
  induction m using Nat.strongRecOn with
  | ind m ih=>
   by_cases h: ∃k,k<m/\P k
   .obtain ⟨k,i,l⟩:=h;show ih k i l
   .show #[m,j,λ k l=>Nat.le_of_not_lt λ i=>h #[k,i,l]]
 show uy (λ a H=> ∃m,e m a H) (λ a H=>if h: ∃m,e m a H then (d (λ m=>e m a H) h).choose else 0) #[o,q] ?_ f;intro a H h;let#[s,t]:=(d (λ m=>e m a H) h).choose_spec;show r _ a H _ s λ m' σ' H' j g=>#[#[m',g],?_]
 rw [dif_pos h,dif_pos #[m',g]];show Û ((d (λ m=>e m σ' H') #[m',g]).choose_spec.2 m' g) j
def Df(h:dC kvs k=none):dC (kvs++[(b,k,v)]) k=!v:=by
 unfold dC at h ⊢;rw [List.find?_append,ū.mp h];simp
def Ho(h:k∈kvs.map (·.2.1)): ∃v,dC kvs k=!v:=by
 cases e:dC kvs k with
 | none=>show absurd h (sY.mp e)
 | some v=>show#[v,rfl]
end L2
namespace Mm
section
variable{α:Type}
inductive Rch(bs:ϊ α)(nx:α->ϊ α):α->Prop
 | base {x:α} (h:x∈bs):Rch bs nx x
 | step {x y:α} (h:Rch bs nx x) (m:y∈nx x):Rch bs nx y
theorem Rch.all{a:ϊ α}{b:α->ϊ α}{P:α->Prop}(c: ∀x∈a,P x)(d: ∀x y,P x->y∈b x->P y): ∀ {x},Rch a b x->P x:=λ h=>by
 induction h with
 | base h=>show c _ h
 | step h m ih=>show d _ _ ih m
structure Clo(bs:ϊ α)(nx:α->ϊ α)(F W:ϊ α):Prop where
 nd:F.Nodup
 rF: ∀x∈F,Rch bs nx x
 rW: ∀x∈W,Rch bs nx x
 b: ∀x∈bs,x∈F\/x∈W
 c: ∀x∈F,∀y∈nx x,y∈F\/y∈W
theorem Clo.start(a:ϊ α)(b:α->ϊ α):Clo a b [] a:=#[List.nodup_nil,λ x m=>(by cases m),λ x m=> .base m,λ x m=> .inr m,λ x m=>(by cases m)]
theorem Clo.skip{b:ϊ α}{c:α->ϊ α}{F W:ϊ α}{x:α}(h:Clo b c F (W++[x]))(m:x∈F):Clo b c F W:=by
 have k: ∀y,y∈F\/y∈W++[x]->y∈F\/y∈W:=λ y hy=>by
  rcases hy with hy | hy
  .show .inl hy
  .rcases Æ.mp hy with hy | hy
   .show .inr hy
   .rw [Zp.mp hy];show .inl m
 show#[h.nd,h.rF,λ y a=>h.rW y (Ý _ a),λ y a=>k y (h.b y a),λ y a z d=>k z (h.c y a z d)]
theorem Clo.take{f:ϊ α}{c:α->ϊ α}{F W:ϊ α}{x:α}(h:Clo f c F (W++[x]))(m:x∉F):Clo f c (F++[x]) (W++c x):=by
 have g:=h.rW x (Ü _ (Zp.mpr rfl));have k: ∀y,y∈F\/y∈W++[x]->y∈F++[x]\/y∈W++c x:=λ y hy=>by
  rcases hy with hy | hy
  .show .inl (Ý _ hy)
  .rcases Æ.mp hy with hy | hy
   .show .inr (Ý _ hy)
   .show .inl (Ü _ hy)
 show#[?_,λ y my=> ?_,λ y my=> ?_,λ y my=>k y (h.b y my),λ y my z d=> ?_]
 .show à.mpr #[h.nd,by simp,λ a i b j e=>m ?_];rw [Zp.mp j] at e;rw [<- e];show i
 .rcases Æ.mp my with my | my
  .show h.rF y my
  .rw [Zp.mp my];show g
 .rcases Æ.mp my with my | my
  .show h.rW y (Ý _ my)
  .show .step g my
 .rcases Æ.mp my with my | my
  .show k z (h.c y my z d)
  .rw [Zp.mp my] at d;show .inr (Ü _ d)
theorem Clo.fin{a:ϊ α}{b:α->ϊ α}{F:ϊ α}(h:Clo a b F [])(x:α):x∈F↔Rch a b x:=by
 show#[h.rF x,λ r=> ?_];induction r with
 | base m=>show(h.b _ m).resolve_right (by simp)
 | step r m ih=>show(h.c _ ih _ m).resolve_right (by simp)
end
end Mm
namespace L2
open PySem
variable{H:Hp}{Q:VK}{a:ό}{us:ϊ (V×PyData)}
def MnE(t:TE):Prop:= ∀σ H (Q Q':VK),(∀v H1,Q v H1->Q' v H1)->t σ H Q->t σ H Q'
def MnT(t:TT):Prop:= ∀σ H (Q Q':ϑ->Hp->Prop),(∀v H1,Q v H1->Q' v H1)->t σ H Q->t σ H Q'
def MnR(r:R2):Prop:= ∀x y H (Q Q':VK),(∀v H1,Q v H1->Q' v H1)->r x y H Q->r x y H Q'
theorem YH{a:TE}(e:MnR r)(c:MnE a)(d:MnE b):MnE (aN r a b):=λ j H Q i h z=>c _ _ _ _ (λ x f z=>d _ _ _ _ (λ y g z=>e _ _ _ _ _ h z) z) z
theorem Qg(a:MnE t):MnT (aU t):=λ d H Q c h z=>a _ _ _ _ (λ x b ⟨k,e,z⟩=>#[k,e,h _ _ z]) z
theorem Qh(K:Ϗ):MnR (rNeD K):=λ x y H Q g h ⟨d,e,a,b,c,f,z⟩=>#[d,e,a,b,c,f,h _ _ z]
def iSI(R:It->Hp->Prop):V->Hp->Prop:=λ x H1=> ∃a kvs,x= .ref a/\((H1 a=!(cD a kvs)/\ ∀od,R (yz od a kvs) (upd H1 a (.frz od (cD a kvs))))\/ ∃od,H1 a=!(.frz od (cD a kvs))/\R (yz od a kvs) H1)
section
theorem YJ(c:Rd H a (cD a kvs))(h: ∀od H1,Sb [a] H H1->H1 a=!(.frz od (cD a kvs))->R (yz od a kvs) H1):iSI R (.ref a) H:=by
 rcases c with e | ⟨od,e⟩
 .show #[a,kvs,rfl, .inl #[e,λ od=>h od _ Hk aa]]
 .show #[a,kvs,rfl, .inr #[od,e,h od H (λ b o _ q=>q) e]]
theorem UG(j:Rd H a (cD a kvs))(b:PySem.Obj->Nat->St->Hp->Prop)(l: ∀od H1,Sb [a] H H1->H1 a=!(.frz od (cD a kvs))->b od 0 σ H1)(e: ∀od i σ H',b od i σ H'->H' a=!(.frz od (cD a kvs)))
  (s: ∀od (i:Nat) z p σ H',kvs[i]? =!z->b od i σ H'->H' p=none->g (.ref p) σ (upd H' p (.tup [.ref z.1,z.2.2])) λ d H2=>tb { D with nx:=b od (i+1),ct:=b od (i+1),bk:=D.nx } d H2) (o: ∀od σ H',b od ↑kvs σ H'->D.nx σ H'):iSI (qP g tb D σ) (.ref a) H:=by
 show YJ j λ od H1 u h=>#[λ i m σ H=>m=↑kvs-i/\i<=↑kvs/\b od i σ H,#[↑kvs,by simp,æ _,l od H1 u h],?_]
 rintro i m σ H' ⟨rfl,w,p⟩;by_cases c:i<↑kvs
 .show .inr #[#[e od i σ H' p,c],b od (i+1),λ v H' t=>#[↑kvs-(i+1),(),rfl,c,t],λ x f y=> ?_];let#[q,z,r,n,rfl,rfl]:=y;show s od i z q σ _ n p r
 .have k:i=↑kvs:=()
  subst k;show .inl #[#[e od _ σ H' p,Ä _],o od σ H' p]
def UJ{d e tx:TE}(h:d σ H λ x H1=> ∃a,x= .ref a/\IsD H1 a/\e σ H1 λ y H2=>tx σ H2 λ z c=> ∃kvs k b,c a=!(.dT kvs)/\y= .ref b/\c b=!(.tup (k.map kV))/\↑kvs<sizeLine/\
 (∀v,bM kvs k=!v->Q v c)/\(bM kvs k=none->Q z (upd c a (.dT (kvs++[(k,z)]))))):Gn d e tx σ H Q:=h
def UT{kvs:ϊ (ϊ Int×V)}(e:H a=!(.dT (kvs.map λ p=>(p.1.map Sum.inl,p.2))))(c:kvs≠[])(h: ∀b k,H b=!(.tup (k.map V.int))->k∈kvs.map (·.1)->(∀d∈kvs.map (·.1),HT.lexLt d k=false)->Q (.ref b) H):Gq [.ref a] H Q:=#[a,kvs,rfl,e,c,h]
def SGet.ofR(e:Rd H a (cD a kvs))(d: ∀p∈kvs,uY H p.1 p.2.1)(c:uY H b k):SGet H a (.ref b) (dC kvs k):=#[kvs,k,b,e,d,rfl,c,rfl]
end
def Qi{K:Ϗ}(f:PyData->Int)(e:SqL K H a (us.map (·.1)))(d:us≠[])(c: ∀u∈us,Dp K H u.1 u.2/\u.2.canLay0=true/\u.2.depth<=8)(b: ∀u∈us,∀v∈us,Nk.CmpD u.2 v.2/\(Nk.Ah u.2 v.2=true->f u.2<=f v.2)/\(Nk.Ah u.2 v.2=false->f v.2<=f u.2))(h: ∀u∈us,(∀v∈us,f u.2<=f v.2)->Q u.1 H):uv K [.ref a] H Q:=#[a,us,f,rfl,e,d,c,b,h]
def Hq(e:SqT K H a (ss.map V.str))(b:ss≠[])(h: ∀s∈ss,Q (.str s) H):pJ K [.ref a] H Q:=#[a,ss,rfl,e,b,h]
abbrev aX:TE:=gK 0
abbrev b8:TE:=gK 1
abbrev bJ:TE:=gK 2
abbrev cF:TE:=gK 3
abbrev d7:TE:=gK 4
abbrev gw:TE:=gK 5
abbrev jV:TE:=gK 6
abbrev uZ:TE:=gK 7
abbrev Qj:TE:=gK 8
abbrev Rf:TE:=gK 9
abbrev Hr:TE:=gK 10
abbrev Dg:TE:=gK 11
abbrev qd:TE:=gK 12
abbrev Dh:TE:=gK 13
abbrev Ht:TE:=gK 14
abbrev a0v:TE:=gK 15
abbrev a0w:TE:=gK 16
abbrev a0x:TE:=gK 17
abbrev tI(n:Int):TE:=tC (V.int n)
abbrev tX(K:Ϗ)(t:TE)(n:Int):TE:=aN (gQ K) t (tC (V.int n))
abbrev cM(a:TE):TA:=dH a iV
abbrev bK(a b:TE):TA:=dH a (dH b iV)
abbrev lY(a b c:TE):TA:=dH a (dH b (dH c iV))
abbrev DP(a b c d:TE):TA:=dH a (dH b (dH c (dH d iV)))
abbrev dF(K:Ϗ)(t:TE):TE:=gA (vO K) (dH t iV)
abbrev bA(sp:Sp)(t:TA):TE:=vz sp [] E0 t
end L2
end
set_option Elab.async false
set_option linter.all false
set_option maxRecDepth 100000
open L2
local macro_rules | `(tactic| walk_at "si") => `(tactic| first | assumption | (with_reducible exact Mm.big_pos) | (with_reducible exact Int.pow_pos (by decide)) | rfl' | (dsimp only; rfl') | exact ⟨by rfl', by rfl'⟩ | exact Or.inr ⟨by rfl', by rfl'⟩ | exact Or.inl ⟨by rfl', by rfl'⟩ | exact ⟨by rfl', by rfl', by rfl'⟩ | exact ⟨by rfl', by rfl', by decide⟩ | (dsimp only; decide) | exact Mm.PK _ | exact Mm.big_pos | exact Int.pow_pos (by decide))
local macro_rules | `(tactic| walk_at "gp") => `(tactic| repeat (first | walk_at "st" | (with_reducible (refine' Uq ?e ?_; case e => assumption))))
local macro_rules | `(tactic| symm) => `(tactic| repeat walk_at "st")
local macro_rules | `(tactic| walk_at "gq") => `(tactic| (intro R h; (with_unfolding_all walk_at "gp"); exact h))
local macro_rules | `(tactic| walk_at "la") => `(tactic| with_unfolding_all first | decide | (simp; rfl') | simp)
local macro_rules | `(tactic| walk_at "ex") => `(tactic| with_unfolding_all first | exact a0l | exact ext2 | exact ext3)
local macro_rules | `(tactic| walk_at "rf") => `(tactic| with_unfolding_all exact rfl)
local macro_rules | `(tactic| walk_at "sw") => `(tactic| with_unfolding_all walk_at "si")
local macro_rules | `(tactic| walk_at "gz") => `(tactic| first | (and_intros <;> walk_at "gq") | (refine' ⟨_, _, _, ?_, ?_, ?_, ?_, ?_⟩ <;> try walk_at "gq"))
local macro_rules | `(tactic| walk_at "sx") => `(tactic| with_reducible first|refine GJ ?_|refine Ye ?_| (refine' GF ?e ?_; case e => walk_at "rf")|refine s_c ?_|refine s_call ?_|refine Yg ?_|refine Yk ?_| (refine' a0p ?e ?_; case e => walk_at "sw")|refine Yl ?_|refine Ym ?_|refine Yz ?_|refine Ur ?_|refine a0m ?_|refine Yh ?_|refine Uh ?_| (refine' Q0 ?e ?_; case e => walk_at "gz")|refine Yi ?_| (refine' s_ortp ?e ?_; case e => walk_at "gz")|refine a0n ?_| (refine' Uo ?e ?_; case e => walk_at "gz")|refine Ui ?_| (refine' s_orp ?e ?_; case e => walk_at "gz")|refine Cj ?_|refine Ci ?_|refine Yb ?_|refine Yc ?_|refine Yd ?_|refine Uc ?_|refine a0q ?_| (refine' GR ?e ?_; case e => walk_at "gz")|refine PX ?_|refine Uj ?_| (refine' Yj ?e ?_; case e => walk_at "rf")|refine a0o ?_|refine Ys ?_|refine Yt ?_| (refine' s_eq ?e ?_; case e => walk_at "rf")|(refine' s_ne ?e ?_; case e => walk_at "rf")|refine Yu ?_|refine Yx ?_|refine Yy ?_|refine UJ ?_| (refine' Yo ?e ?_; case e => walk_at "la")|refine Uk ?_|refine Yp ?_|refine Yq ?_|refine Yr ?_|refine a0r ?_| (refine' Yn ?e ?_; case e => walk_at "ex"))
local macro_rules | `(tactic| walk_at "st") => `(tactic| first | with_reducible refine GD ?_ | walk_at "sx")
local macro_rules | `(tactic| walk_at "sj") => `(tactic| first | with_reducible refine Uu ?_ | walk_at "sx")
local macro_rules | `(tactic| walk_at "gj") => `(tactic| repeat walk_at "sj")
local macro_rules | `(tactic| walk_at "hp") => `(tactic| first
 | assumption
 | exact aa
 | (refine SqL.of ?_;walk_at "hp")
 | (refine SqT.of ?_;walk_at "hp")
 | (refine jN (by assumption) ?_;walk_at "hp")
 | (refine tup_new (by assumption) ?_;walk_at "hp")
 | (refine aH (by assumption) ?_;walk_at "hp")
 | (refine Same.seq (by assumption) ?_;walk_at "hp")
 | (refine Same.tup (by assumption) ?_;walk_at "hp")
 | (refine Same.get (by assumption) ?_;walk_at "hp"))
local macro_rules | `(tactic| walk_at "sm") => `(tactic| first | assumption | exact Same.refl _ | (refine Same.new ?_ (by assumption); walk_at "sm") | (refine Same.trans ?_ (by assumption); walk_at "sm"))
local macro_rules | `(tactic| walk_at "ns") => `(tactic| try dsimp only [L2.start, List.map, List.length, Nat.reduceAdd, Nat.reduceSub, List.reduceReplicate, ň, Ů, List.set])
local macro_rules | `(tactic| apply $e) => `(tactic| (symm; refine $e))
namespace Pg
variable{v:V}{r:Int}{k:Ϻ}{ds:L2S}{b:ό}{rs:ϊ Int}{d:ϊ Nat}{S:ϊ (ϊ Nat)}{w:ϴ}{p:ϳ}{R c ht i j m n room x y:Nat}{wss:ϲ}{rows:ϊ (ϸ)}
inductive An2(A0 A1:Prop):Prop
 | mk (a0:A0) (a1:A1):An2 A0 A1
inductive An3(A0 A1 A2:Prop):Prop
 | mk (a0:A0) (a1:A1) (a2:A2):An3 A0 A1 A2
inductive An4(A0 A1 A2 A3:Prop):Prop
 | mk (a0:A0) (a1:A1) (a2:A2) (a3:A3):An4 A0 A1 A2 A3
inductive An5(A0 A1 A2 A3 A4:Prop):Prop
 | mk (a0:A0) (a1:A1) (a2:A2) (a3:A3) (a4:A4):An5 A0 A1 A2 A3 A4
inductive An6(A0 A1 A2 A3 A4 A5:Prop):Prop
 | mk (a0:A0) (a1:A1) (a2:A2) (a3:A3) (a4:A4) (a5:A5):An6 A0 A1 A2 A3 A4 A5
inductive An7(A0 A1 A2 A3 A4 A5 A6:Prop):Prop
 | mk (a0:A0) (a1:A1) (a2:A2) (a3:A3) (a4:A4) (a5:A5) (a6:A6):An7 A0 A1 A2 A3 A4 A5 A6
inductive An8(A0 A1 A2 A3 A4 A5 A6 A7:Prop):Prop
 | mk (a0:A0) (a1:A1) (a2:A2) (a3:A3) (a4:A4) (a5:A5) (a6:A6) (a7:A7):An8 A0 A1 A2 A3 A4 A5 A6 A7
inductive An10(A0 A1 A2 A3 A4 A5 A6 A7 A8 A9:Prop):Prop
 | mk (a0:A0) (a1:A1) (a2:A2) (a3:A3) (a4:A4) (a5:A5) (a6:A6) (a7:A7) (a8:A8) (a9:A9):An10 A0 A1 A2 A3 A4 A5 A6 A7 A8 A9
inductive An11(A0 A1 A2 A3 A4 A5 A6 A7 A8 A9 A10:Prop):Prop
 | mk (a0:A0) (a1:A1) (a2:A2) (a3:A3) (a4:A4) (a5:A5) (a6:A6) (a7:A7) (a8:A8) (a9:A9) (a10:A10):An11 A0 A1 A2 A3 A4 A5 A6 A7 A8 A9 A10
inductive An15(A0 A1 A2 A3 A4 A5 A6 A7 A8 A9 A10 A11 A12 A13 A14:Prop):Prop
 | mk (a0:A0) (a1:A1) (a2:A2) (a3:A3) (a4:A4) (a5:A5) (a6:A6) (a7:A7) (a8:A8) (a9:A9) (a10:A10) (a11:A11) (a12:A12) (a13:A13) (a14:A14):An15 A0 A1 A2 A3 A4 A5 A6 A7 A8 A9 A10 A11 A12 A13 A14
inductive Ex1{α0:Type}(P:α0->Prop):Prop
 | mk (a0:α0) (h:P a0):Ex1 P
inductive Ex2{α0 α1:Type}(P:α0->α1->Prop):Prop
 | mk (a0:α0) (a1:α1) (h:P a0 a1):Ex2 P
inductive Ex3{α0 α1 α2:Type}(P:α0->α1->α2->Prop):Prop
 | mk (a0:α0) (a1:α1) (a2:α2) (h:P a0 a1 a2):Ex3 P
inductive Ex4{α0 α1 α2 α3:Type}(P:α0->α1->α2->α3->Prop):Prop
 | mk (a0:α0) (a1:α1) (a2:α2) (a3:α3) (h:P a0 a1 a2 a3):Ex4 P
inductive Ex5{α0 α1 α2 α3 α4:Type}(P:α0->α1->α2->α3->α4->Prop):Prop
 | mk (a0:α0) (a1:α1) (a2:α2) (a3:α3) (a4:α4) (h:P a0 a1 a2 a3 a4):Ex5 P
inductive Ex6{α0 α1 α2 α3 α4 α5:Type}(P:α0->α1->α2->α3->α4->α5->Prop):Prop
 | mk (a0:α0) (a1:α1) (a2:α2) (a3:α3) (a4:α4) (a5:α5) (h:P a0 a1 a2 a3 a4 a5):Ex6 P
inductive Ex7{α0 α1 α2 α3 α4 α5 α6:Type}(P:α0->α1->α2->α3->α4->α5->α6->Prop):Prop
 | mk (a0:α0) (a1:α1) (a2:α2) (a3:α3) (a4:α4) (a5:α5) (a6:α6) (h:P a0 a1 a2 a3 a4 a5 a6):Ex7 P
open PySem L2
def aK0:ό:=24
def aK7:ό:=37
def aK4:ό:=49
def aK2:ό:=61
def aK5:ό:=73
def aK3:ό:=85
def aK6:ό:=97
def aK9:ό:=109
def aK1:ό:=121
def aK8:ό:=133
variable{E:XK}
theorem a0y{b:ϊ V}(e:H a=!(.tup (v::b)))(h:Q v H):gQ K (.ref a) (.int 0) H Q:=dW (SqT.of e) (aQ (j:=0) (v:=v) rfl) h
inductive sp_f44(K:Ϗ)(vs:ϊ V)(H:Hp)(Q:VK)(E:XK):Prop
 | mk (x:V) (a:vs=[x]) (b:Thing H x) (c:Q (.bl (isI x)) H)
abbrev Hu K(E:XK)(Eh:XK):=(aP (jq (gA (cR K) (bK aX (tC (V.ty "int")))) (DX (gA (cR K) (bK aX (tC (V.ty "bool")))))))
abbrev Hv:ϊ ϐ:=sN ["thing"]
theorem UV(h:sp_f44 K vs H Q E):RG (Hu K E) Hv vs H Q:=by
 let#[x,rfl,a,q]:=h;show#[E0,?_];symm;rcases a.ty (K:=K) with ⟨b,rfl⟩ | ⟨i,rfl⟩ | ⟨s,rfl,_⟩ | ⟨n,ty,hn,e,_⟩
 .show cW (.bl b) (b:=true) rfl ?_;apply cW (.bl b) (b:=true) rfl ?_;apply q
 .show cW (.int i) (b:=true) rfl ?_;apply cW (.int i) (b:=false) rfl ?_;apply q
 .show cW (.str s) (b:=false) rfl ?_;apply q
 .rw [e] at q;show cW ty (b:=false) (by rcases hn with rfl | rfl | rfl | rfl<;>rfl) ?_;apply q
def hgt:V->ϑ
 | .int i=>decide (1<=i)&&decide (i<=60)
 | _=>false
inductive sp_f37(K:Ϗ)(vs:ϊ V)(H:Hp)(Q:VK)(E:XK):Prop
 | mk (x:V) (a:vs=[x]) (b:Thing H x) (c:Q (.bl (hgt x)) H)
abbrev Hw K(E:XK)(Eh:XK):=(aP (jq (bA (sp_f44 K) (cM aX)) (iU nJ nJ (tI 1) aX (tI 60))))
abbrev Hx:ϊ ϐ:=sN ["thing"]
theorem UW(h:sp_f37 K vs H Q E):RG (Hw K E) Hx vs H Q:=by
 let#[x,rfl,a,q]:=h;show#[E0,?_];apply#[x,rfl,a,?_]
 cases x with
 | int i=>
  symm;change if true=true then _ else _
  apply q
 | _=>
  symm;change if false=true then _ else _
  apply q
def sgn:V->ϑ
 | .str s=>decide (↑s=1)&&(not (decide (s.cps.toList<(Str.ofString " ").cps.toList))&&(not (decide ((Str.ofString "~").cps.toList<s.cps.toList))&& not (decide (((s.cps.getD 0 0:Nat):Int)=37))))
 | _=>false
theorem uF(h:Hs.Sg s):sgn (.str s)=true:=by
 let#[n,rfl]:=h;have: ∀c∈Hs.Q8.cps.toList,sgn (.str (tx [c]))=true:=by ac_nf
 have d:↑Hs.Q8.cps.toList=94:=by ac_nf
 have a:0<=n%94:=Ι _ (by decide);have b:n%94<94:=Ŭ _ (by decide);show this _ ?_;unfold Hs.uA;rw [Yf,Qr ()];show Ï _
inductive sp_f51(K:Ϗ)(vs:ϊ V)(H:Hp)(Q:VK)(E:XK):Prop
 | mk (x:V) (a:vs=[x]) (b:Thing H x) (c:Q (.bl (sgn x)) H)
abbrev Hy K(E:XK)(Eh:XK):=(aA (bf (Dw (fV (fJ K (gA (cR K) (bK aX (tC (V.ty "str")))))) (aU (aN tM (dF K aX) (tI 1)))) (aP (tC (V.bl false))) aV)
  (aP (jq (iU p7 p7 (tC (V.str (Str.ofString " "))) aX (tC (V.str (Str.ofString "~")))) (aN tM (gA QW (cM aX)) (tI 37)))))
abbrev Hz:ϊ ϐ:=sN ["thing"]
theorem V0(h:sp_f51 K vs H Q E):RG (Hy K E) Hz vs H Q:=by
 let#[x,rfl,g,q]:=h;show#[E0,?_];symm;rcases g.ty (K:=K) with ⟨b,rfl⟩ | ⟨i,rfl⟩ | ⟨s,rfl,hl⟩ | ⟨n,ty,hn,_,e⟩
 .show cW (.bl b) (b:=false) rfl ?_;apply q
 .show cW (.int i) (b:=false) rfl ?_;apply q
 .show cW (.str s) (b:=true) rfl ?_;apply jc (d9 hl) ?_;apply sU (λ c=> ?_) λ c=> ?_
  .have e:sgn (.str s)=false:=by
    change(decide (↑s=1)&&_)=false;rw [Ú (qnD c),Ō]
   rw [e] at q;apply q
  .have a:↑s=1:=by show PN c
   have e:sgn (.str s)=(not (decide (s.cps.toList<(Str.ofString " ").cps.toList))&&(not (decide ((Str.ofString "~").cps.toList<s.cps.toList))&& not (decide (((s.cps.getD 0 0:Nat):Int)=37)))):=by
    change(decide (↑s=1)&&_)=_;rw [Ø a,Ų]
   rw [e,<- Bool.and_assoc] at q;apply PQ (λ d=> ?_) λ d=> ?_
   .rw [d,Ų] at q;apply Yv a ?_;apply q
   .rw [d,Ō] at q;apply q
 .have f:sgn x=false:=by
   cases x with
   | str s=>show absurd rfl (e s)
   | _=>rfl
  rw [f] at q;show cW ty (b:=false) (by rcases hn with rfl | rfl | rfl | rfl<;>rfl) ?_;apply q
def isc(h:Nat):V->ϑ
 | .int i=>decide (0<=i)&&decide (i<2^h)
 | _=>false
inductive sp_f40(K:Ϗ)(vs:ϊ V)(H:Hp)(Q:VK)(E:XK):Prop
 | mk (h:Nat) (x:V) (a:vs=[.int h,x]) (b:Thing H x) (c:Q (.bl (isc h x)) H)
abbrev HB K(E:XK)(Eh:XK):=(aP (jq (bA (sp_f44 K) (cM b8)) (jq (aN a0i b8 (tI 0)) (aN nJ (NT K "int" vP b8) aX))))
abbrev HD:ϊ ϐ:=sN ["height","thing"]
theorem V1(h:sp_f40 K vs H Q E):RG (HB K E) HD vs H Q:=by
 let#[a,x,rfl,b,q]:=h;show#[E0,?_];apply#[x,rfl,b,?_]
 cases x with
 | int i=>
  symm;change if true=true then _ else _
  symm;by_cases c:0<=i
  .have e:decide (((Builtin.Int.intBits i:Nat):Int)<=(a:Int))=isc a (.int i):=by
    have z:(((Builtin.Int.intBits i:Nat):Int)<=(a:Int))↔i<2^a:=by
     rw [Int.ofNat_le,PySem.intBits_le_iff];let#[n,rfl]: ∃n:Nat,i=n:=#[i.toNat,Eq.symm (An c)];rw [<- Bx.jA,Int.natAbs_natCast,Int.ofNat_lt]
    change _=(decide (0<=i)&&decide (i<2^a));rw [Ø c,Ų];show Α.mpr z
   rw [<- e] at q;rw [Ø c,Ų];show q
  .have e:isc a (.int i)=false:=by
    change(decide (0<=i)&&decide (i<2^a))=false;rw [Ú c,Ō]
   rw [e] at q;rw [Ú c,Ō];show q
 | _=>
  symm;change if false=true then _ else _
  apply q
inductive sp_f66(K:Ϗ)(vs:ϊ V)(H:Hp)(Q:VK)(E:XK):Prop
 | mk (n:Nat) (a:vs=[.int n]) (b:Q (.int (Bm.pop n)) H)
abbrev HF(K:Ϗ)(E:XK)(Eh:XK):=(aA (aJ (tI 0) (ak 1))
  (aA (gP (aU (aN qK aX (tI 0))) (aA (aJ (aN QV aX (aN lG aX (tI 1))) (ak 0))
  (Nm 1 (tI 1) zX)))
  (aP b8)))
abbrev HH:ϊ ϐ:=sN ["column","dots"]
theorem V2(h:sp_f66 K vs H Q E):RG (HF K E) HH vs H Q:=by
 let#[n,rfl,q]:=h;show#[E0,?_];show GD ?_;apply vp (λ b f=>(Ex2 λ (m d:Nat)=>(An3 (b=[!(.int (m:Int)),!(.int (d:Int))]) (f=H) (d+Bm.pop m=Bm.pop n)))) (λ b _=>match b with | some (.int m)::_=>m.toNat | _=>0) ⟨n,0,rfl,rfl,Eq.trans (ķ 0 _) rfl⟩ ?_ ?_
 .rintro _ _ ⟨m,d,rfl,rfl,e⟩;apply fL (λ c=> ?_) (λ c=> ?_)
  .have a:0<m:=by show Ub c
   have p:Builtin.bitAnd (m:Int) ((m:Int)-1)=((m&&& (m-1):Nat):Int):=by
    rw [show(m:Int)-1=((m-1:Nat):Int) by rfl',Bx.j5]
   symm;rw [p];have t:=Bm.Tv m a;have w:=Bm.O4 m a;show#[#[m&&& (m-1),d+1,rfl,rfl,()],?_];change((m&&& (m-1):Nat):Int).toNat<(m:Int).toNat;show t
  .have a:m=0:=by show qn1 c
   subst a;rw [Bm.jz] at e;symm;rw [show d=Bm.pop n by show e];show q
 .rintro b H Q u r ⟨v,s,i,j,g,l,k,o,z⟩;show#[v,s,i,j,g,l,k,o,r _ _ z]
inductive sp_f32(K:Ϗ)(vs:ϊ V)(H:Hp)(Q:VK)(E:XK):Prop
 | mk (a:ό) (b:ϊ Nat) (c:vs=[.ref a]) (d:SqL K H a (b.map λ i:Nat=>V.int (i:Int))) (e:(∀x∈b,x<60)) (f:Q (.int (Bm.lD b:Nat)) H)
abbrev HJ K(E:XK)(Eh:XK):=(aA (aJ (tI 0) (ak 1))
  (aA (cu (bN K aX) (ak 2) (aJ (aN a0h b8 (aN QT (tI 1) bJ)) (ak 1)))
  (aP b8)))
abbrev HN:ϊ ϐ:=sN ["lines","column","line"]
theorem V3(h:sp_f32 K vs H Q E):RG (HJ K E) HN vs H Q:=by
 let#[a,c,rfl,e,k,q]:=h;show#[E0,?_];apply cV (λ i:Nat=>V.int (i:Int)) e (λ i b d=>(An2 (d=H) (Ex1 λ o=>b=[!(.ref a),!(.int ((Bm.lD (c.take i):Nat):Int)),o]))) #[rfl,none,rfl] (λ i b d z=>z.1▸e) ?_ ?_
 .rintro i y b _ f ⟨rfl,o,rfl⟩;have g:=k y (Xs f);symm;have j:c.take (i+1)=c.take i++[y]:=by rw [Í,f];rfl
  rw [Int.one_mul,Ó,<- Bx.jA,Bx.rK,<- Bm.O8,<- j];show#[rfl,_,rfl]
 .rintro b _ ⟨rfl,o,rfl⟩;symm;rw [Õ];show q
inductive sp_f70(K:Ϗ)(vs:ϊ V)(H:Hp)(Q:VK)(E:XK):Prop
 | mk (a b:Nat) (c:vs=[.int a, .int b]) (d:Q (.int (Bm.pop (a^^^b):Nat)) H)
abbrev HQ K(E:XK)(Eh:XK):=(aP (bA (sp_f66 K) (cM (aN XN aX b8))))
abbrev HR:ϊ ϐ:=sN ["one","other"]
theorem V4(h:sp_f70 K vs H Q E):RG (HQ K E) HR vs H Q:=by
 let#[a,b,rfl,q]:=h;show#[E0,?_];symm;rw [Bx.yf];show#[_,rfl,q]
inductive sp_f11(K:Ϗ)(vs:ϊ V)(H:Hp)(Q:VK)(E:XK):Prop
 | mk (p q:ό) (a b:ϊ V) (c:vs=[.ref p, .ref q]) (d:(SqL K H p a\/SqT K H p a)) (e:(SqL K H q b\/SqT K H q b)) (f:↑a=↑b) (g:Q .non H)
abbrev HS K(E:XK)(Eh:XK):=(bf (aU (aN tM (dF K aX) (dF K b8))) bO aV)
abbrev HW:ϊ ϐ:=sN ["one","other"]
theorem V5(h:sp_f11 K vs H Q E):RG (HS K E) HW vs H Q:=by
 let#[g,i,b,j,rfl,d,e,f,q]:=h;show#[E0,?_];have c: ∀{H:Hp}{Q:VK}{a:ό}{b:ϊ V},(SqL K H a b\/SqT K H a b)->Q (.int ↑b) H->vO K [.ref a] H Q:=λ h q=>h.elim (λ h=>bQ h q) λ h=>cX h q
 apply c d ?_;apply c e ?_;apply eQ (by rw [f]) ?_;apply q
inductive sp_f75(K:Ϗ)(vs:ϊ V)(H:Hp)(Q:VK)(E:XK):Prop
 | mk (p q:ό) (a b:ϊ Nat) (c:vs=[.ref p, .ref q]) (d:SqT K H p (nv a)) (e:(SqL K H q (nv b)\/SqT K H q (nv b))) (f:↑a=↑b) (g:↑a<=1000) (h: ∀H',Same H H'->Q (.int (Mm.b7 a b:Nat)) H')
abbrev HX K(E:XK)(Eh:XK):=(aA (cT (bA (sp_f11 K) (bK aX b8)))
  (aP (gA (Oj K) (cM (lF [none,none] (R6 K (bK aX b8)) (ie K 2 (bD (ak 0) (bD (ak 1) iK))) dB (bA (sp_f70 K) (bK aX b8)))))))
abbrev yV:ϊ ϐ:=sN ["one","other"]
theorem V6(h:sp_f75 K vs H Q E):RG (HX K E) yV vs H Q:=by
 let#[s,m,n,g,rfl,c,a,d,k,q]:=h;show#[E0,?_];apply#[_,_,_,_,rfl, .inr c,a,by rw [Qb,Qb,d],?_];symm;let#[e,a]: ∃e,DG K H m (nv g) e:=a.elim (λ h=>#[true,h]) λ h=>#[false,h]
 show YD (λ i:Nat=>V.int (i:Int)) (λ i:Nat=>V.int (i:Int)) c a d (d9 k) (λ x y=>V.int ((Bm.pop (x^^^y):Nat):Int)) ?_ ?_
 .intro i x y p j o r f b A l;show cU (SqT.of b) rfl ?_;apply#[x,y,rfl,l _ (Same.refl _)]
 .intro p j f b;apply R8 (ns:=List.zipWith (λ x y=>((Bm.pop (x^^^y):Nat):Int)) n g) (SqL.of ?_) ?_
  .rw [b,List.map_zipWith]
  .rw [Mm.wJ];show q _ f
inductive sp_f18(K:Ϗ)(vs:ϊ V)(H:Hp)(Q:VK)(E:XK):Prop
 | mk (p:ό) (a:ϊ Nat) (y:Nat) (b:vs=[.ref p, .int y]) (c:SqL K H p (a.map λ i:Nat=>V.int (i:Int))) (d:↑a<=1000) (e: ∀H',Same H H'->Q (.str (tx (Mm.cI a y))) H')
abbrev HY K(E:XK)(Eh:XK):=(aP (qx K "str" (rJoin K) (tC (V.str (Str.ofString ""))) (cM (lF [none,!1] (bN K aX) (ak 0) dB (Xo (fJ K (aN QV (aN XM aX b8) (tI 1))) (tC (V.str (Str.ofString "#"))) (tC (V.str (Str.ofString "."))))))))
abbrev yW:ϊ ϐ:=sN ["strip","y"]
theorem V7(h:sp_f18 K vs H Q E):RG (HY K E) yW vs H Q:=by
 let#[p,a,y,rfl,f,g,q]:=h;show#[E0,?_];apply GK (λ i:Nat=>V.int (i:Int)) f () (λ x=>V.str (tx [if x.testBit y=true then 35 else 46])) (λ i x j A b=> ?_) λ k d=> ?_
 .symm;rw [Bx.Od,Ue,Ó];show PQ (λ c=> ?_) λ c=> ?_
  .rw [if_pos c] at b;apply b
  .rw [if_neg (by rw [c];decide)] at b;apply b
 .symm;show yN (ys:=(Mm.cI a y).map λ c=>tx [c]) (SqL.of ?_) ?_ ?_
  .rw [aa];unfold Mm.cI;rw [Å,Å];rfl
  .have e:(((Mm.cI a y).map λ c=>tx [c]).map (·.length))=(Mm.cI a y).map λ _=>1:=by
    rw [Å];show ÿ ?_;intro c _;show aM [c]
   rw [e,List.map_const',List.sum_replicate_nat,Qb,Mm.iC];change ↑a*1+↑a*0<=_;rfl'
  .rw [join_ones];show q _ (aq d _)
inductive sp_f68(K:Ϗ)(vs:ϊ V)(H:Hp)(Q:VK)(E:XK):Prop
 | mk (h:Nat) (p:ό) (a:ϊ Nat) (b:vs=[.int h, .ref p]) (c:SqL K H p (a.map λ i:Nat=>V.int (i:Int))) (d:↑a<=1000) (e:h<=60) (f: ∀r H',H r=none->Same H H'->H' r=!(.lst ((Mm.draw h a).map λ l=>V.str (tx l)))->Q (.ref r) H')
abbrev Ia K(E:XK)(Eh:XK):=(aP (lF [none,!1] (gF (cM aX)) (ak 0) dB (bA (sp_f18 K) (bK b8 aX))))
abbrev yX:ϊ ϐ:=sN ["height","strip"]
theorem V8(h:sp_f68 K vs H Q E):RG (Ia K E) yX vs H Q:=by
 let#[k,p,c,rfl,e,g,f,q]:=h;show#[E0,?_];apply Ra k () () () (λ y=>V.str (tx (Mm.cI c y))) (λ i b o a A l=> ?_) λ r b d a j=> ?_
 .symm;show#[_,c,i,rfl,a.seq e,g,λ n m=>l _ m]
 .show q r b d a ?_;rw [j];unfold Mm.draw;rw [Å];rfl
inductive sp_f27(K:Ϗ)(vs:ϊ V)(H:Hp)(Q:VK)(E:XK):Prop
 | mk (l:ϊ Nat) (w:Nat) (a:vs=[.str (tx l), .int w]) (b:↑l<=100000) (d:↑l=w) (e:(∀c∈l,c=35\/c=46)) (f:Q .non H)
abbrev Ib K(E:XK)(Eh:XK):=(aA (bf (aU (aN tM (dF K aX) b8)) bO aV)
  (cu (Ft aX) (ak 2) (bf (qD (aU (aN tM bJ (tC (V.str (Str.ofString "#"))))) (aU (aN tM bJ (tC (V.str (Str.ofString ".")))))) bO aV)))
abbrev Ie:ϊ ϐ:=sN ["line","wide","sign"]
theorem V9(h:sp_f27 K vs H Q E):RG (Ib K E) Ie vs H Q:=by
 let#[l,w,rfl,g,j,b,q]:=h;show#[E0,?_];apply jc (by rw [aM];show d9 g) ?_;symm;rw [aM];show eQ (by rw [j]) ?_;apply GP (λ i d e=>(An2 (H=e) (Ex1 λ o=>d=[!(.str (tx l)),!(.int (w:Int)),o]))) #[rfl,_,rfl] ?_ ?_
 .rintro i c d _ f ⟨rfl,o,rfl⟩;have a:l[i]? =!c:=by
   have:=f;rw [<- ø] at this;show this
  symm;rcases b c (Xs a) with rfl | rfl
  .show if false=true then _ else _
   apply#[rfl,_,rfl]
  .show if false=true then _ else _
   apply#[rfl,_,rfl]
 .rintro d _ ⟨rfl,o,rfl⟩;show q
inductive sp_f34(K:Ϗ)(vs:ϊ V)(H:Hp)(Q:VK)(E:XK):Prop
 | mk (p:ό) (a:ϊ (ϊ Nat)) (x:Nat) (b:vs=[.ref p, .int x]) (c:SqL K H p (a.map λ l=>V.str (tx l))) (d:↑a<=60) (e:(∀l∈a,x<↑l/\↑l<=100000)) (f: ∀H',Same H H'->Q (.int (Mm.Al a x:Nat)) H')
abbrev Ig K(E:XK)(Eh:XK):=(aP (bA (sp_f32 K) (cM (lF [none,none,!1] (zY K (cM aX)) (ie K 2 (bD (ak 0) (bD (ak 1) iK))) (aU (aN uX (aN oV b8 bJ) (tC (V.str (Str.ofString "#"))))) aX))))
abbrev yZ:ϊ ϐ:=sN ["lines","x"]
theorem Va(h:sp_f34 K vs H Q E):RG (Ig K E) yZ vs H Q:=by
 let#[p,b,x,rfl,o,w,r,q]:=h;show#[E0,?_];apply a0t (λ l=>V.str (tx l)) o () (λ y=>if decide ((b.getD y []).getD x 0=35)=true then !(V.int (y:Nat)) else none) ?_ ?_
 .intro i l t k e j a A B f g;let#[d,u]:=r l (Xs e);have n:(b.getD i []).getD x 0=l[x]:=by
   have m:b.getD i []=l:=by rw [Yf,e];rfl
   rw [m,Yf,Qr d];rfl
  show cU (SqT.of a) rfl ?_;apply lR (by rw [aM];rfl') (aQ (v:=l[x]) (by rw [gU];show Qr d)) ?_;symm;rw [show decide ((#[([l[x]].toArray)]:ϐ)=Str.ofString "#")=decide (l[x]=35) from Α.mpr (show tx [l[x]]=tx [35]↔_ by rw [gV];simp)];rw [n] at f g;show PQ (λ c=> ?_) λ c=> ?_
  .symm;show f _ _ (Same.refl _) (by rw [if_pos c])
  .show g _ (Same.refl _) (by rw [c];rfl)
 .intro t k j a;symm;rw [Mm.Y7] at a;show#[_,_,rfl,SqL.of a,λ y s=> ?_,q _ j];have:=(đ.mp s).1;have:y<↑b:=by simpa using this
  rfl'
inductive sp_f58(K:Ϗ)(vs:ϊ V)(H:Hp)(Q:VK)(E:XK):Prop
 | mk (p:ό) (a:ϊ (ϊ Nat)) (b:vs=[.ref p]) (c:SqL K H p (a.map λ l=>V.str (tx l))) (d:(∀l∈a,↑l<=100000)) (e:Mm.Good a) (f: ∀r H',H r=none->Same H H'->H' r=!(.lst ((Mm.yI a).map λ i:Nat=>V.int (i:Int)))->Q (.ref r) H')
abbrev Ih K(E:XK)(Eh:XK):=(aA (bf (fV (fJ K (bA (sp_f37 K) (cM (dF K aX))))) bO aV)
  (aA (aJ (dF K (aN (eG K) aX (tI 0))) (ak 1))
  (aA (cu (bN K aX) (ak 2) (cT (bA (sp_f27 K) (bK bJ b8))))
  (aP (lF [none,!0] (gF (cM b8)) (ak 0) dB (bA (sp_f34 K) (bK b8 aX)))))))
abbrev z6:ϊ ϐ:=sN ["lines","wide","line"]
theorem Vb(h:sp_f58 K vs H Q E):RG (Ih K E) z6 vs H Q:=by
 let#[p,k,rfl,c,f,y,q]:=h;show#[E0,?_];let#[u,J,s,w]:=id y;apply bQ c ?_;symm;rw [Qb];show⟨_,rfl,True.intro,?_⟩;rw [show hgt (V.int (↑k:Int))=true from by change(decide _&&decide _)=_;rw [Ø (),Ø ()];rfl];symm;let#[a,F,rfl]: ∃l r,k=l::r:=by
  cases k with
  | nil=>cases u
  | cons l r=>show#[l,r,rfl]
 apply gm c (aQ (j:=0) (v:=V.str (tx a)) rfl) ?_;symm;have g:=f a Ë;show jc (by rw [aM];show d9 g) ?_;rw [aM];apply cV (λ l=>V.str (tx l)) c (λ i e b=>(An2 (H=b) (Ex1 λ o=>e=[!(.ref p),!(.int (↑a:Nat)),o]))) #[rfl,_,rfl] (λ i e b z=>z.1▸c) ?_ ?_
 .rintro i l e _ d ⟨rfl,o,rfl⟩;have m:=Xs d;apply#[l,↑a,rfl,f l m,s l m,w l m,?_];apply#[rfl,_,rfl]
 .rintro e _ ⟨rfl,o,rfl⟩;apply Ra ↑a () () () (λ x=>V.int ((Mm.Al (a::F) x:Nat):Int)) (λ i b B n A D=> ?_) λ r b t n C=> ?_
  .symm;show#[_,_,i,rfl,n.seq c,(),λ l d=>#[by rw [s l d];show B,f l d],λ I G=>D _ G]
  .show q r b t n ?_;rw [C];unfold Mm.yI;rw [Å];rfl
abbrev Wz:=ό×ϐ×ϊ Nat×Int
def WyT(H:Hp)(z:Wz):Prop:= ∃ca,H z.1=!(.tup [.str z.2.1, .ref ca, .int z.2.2.2])/\H ca=!(.tup (nv z.2.2.1))
theorem WyT.same(h:WyT H z)(s:Same H H'):WyT H' z:=by
 let#[a,b,c]:=h;show#[a,s.get b,s.get c]
def LdT(H:Hp)(p:ό)(ws:ϳ):Prop:= ∃zs:ϊ Wz,zs.map (·.2)=ws/\H p=!(.lst (zs.map λ z:Wz=>V.ref z.1))/\ ∀z∈zs,WyT H z
theorem LdT.same{p:ό}(h:LdT H p a)(s:Same H H'):LdT H' p a:=by
 let#[f,b,c,d]:=h;show#[f,b,s.get c,λ z e=>(d z e).same s]
def aF(ls:ϵ)(ps:L1S):ϳ:=ps.filterMap λ p=>(Fo.lk ls p.1).map λ co=>(p.1,co,p.2)
theorem sZ(a:ϵ)(b:L1S)(p:ϐ×Int):aF a (b++[p])=aF a b++(match Fo.lk a p.1 with | none=>[] | some co=>[(p.1,co,p.2)]):=by
 unfold aF;rw [List.filterMap_append];congr 1;rw [Į,List.filterMap_nil]
 cases Fo.lk a p.1<;>rfl
inductive sp_f48(K:Ϗ)(vs:ϊ V)(H:Hp)(Q:VK)(E:XK):Prop
 | mk (d c:ό) (b:ϊ Lz) (a:L1S) (e:vs=[.ref d, .ref c]) (f:H d=!(.dK (b.map λ z:Lz=>((Sum.inr z.2.1:Key),V.ref z.2.2.1)))) (g:(∀z∈b,H z.2.2.1=!(.tup (nv z.2.2.2)))) (h:DrG K H c a) (i:↑a<=1000) (j: ∀p H',Same H H'->H p=none->LdT H' p (aF (b.map λ z:Lz=>(z.2.1,z.2.2.2)) a)->Q (.ref p) H')
abbrev Ii K(E:XK)(Eh:XK):=(aP (lF [none,none,!0] (oH K b8) (ie K 2 (bD (ak 0) (bD (ak 1) iK))) (tB (Fe aX bJ)) (dI (lY aX (jx bJ aX) b8))))
abbrev z7:ϊ ϐ:=sN ["letters","doors"]
theorem Vc(h:sp_f48 K vs H Q E):RG (Ii K E) z7 vs H Q:=by
 let#[R,Y,l,B,rfl,r,X,#[L,o,O,U],I,q]:=h;show#[E0,?_];have w:↑L=↑B:=by rw [<- o,Qb]
 apply Uv (λ z:ό×ϐ×Int=>V.ref z.1) (zs:=L) O (d9 (n6 w I)) (λ i C n=>(Ex1 λ (j:ϊ Wz)=>(An5 (C=j.map (λ z:Wz=>V.ref z.1)) (j.map (·.2)=aF (l.map λ z:Lz=>(z.2.1,z.2.2.2)) (B.take i)) (↑j<=i) (Same H n) (∀z∈j,WyT n z)))) #[[],rfl,rfl,by simp,Same.refl _,by simp] ?_ ?_ ?_ ?_
 .rintro i C n ⟨j,rfl,_,_,d,_⟩;show d.tup O
 .rintro i C n ⟨j,rfl,_,x,_⟩;rw [Qb];show x
 .rintro i ⟨b,s,a⟩ C n P ⟨j,rfl,v,x,d,D⟩;have G:B[i]? =!(s,a):=by rw [<- o,Wp,P];rfl
  have u:B.take (i+1)=B.take i++[(s,a)]:=by rw [Í,G];rfl
  have S:=d.get (U _ (Xs P));dsimp only at S;show cU (SqT.of S) rfl ?_;apply#[R,_,rfl,DGet.k (k:=Sum.inr s) (d.get r),?_]
  cases hlk:Fo.lk (l.map λ z:Lz=>(z.2.1,z.2.2.2)) s with
  | none=>
   have W:bM (l.map λ z:Lz=>((Sum.inr z.2.1:Key),V.ref z.2.2.1)) (Sum.inr s)=none:=fC (f:=λ z:Lz=>(Sum.inr z.2.1:Key)) (g:=λ z:Lz=>V.ref z.2.2.1) λ m=>by
    let#[z,A,e]:=Zs.mp m;let#[c,N]:=Fo.Hg (ls:=l.map λ z:Lz=>(z.2.1,z.2.2.2)) (s:=s) (by rw [Å];show Zs.mpr #[z,A,Ň e]);rw [hlk] at N
    cases N
   rw [W];symm;change if false=true then _ else _
   apply#[j,rfl,by rw [u,sZ,v];change _=_++(match Fo.lk (l.map λ z:Lz=>(z.2.1,z.2.2.2)) s with | none=>[] | some co=>[(s,co,a)]);rw [hlk,ù],Xc x _,d,D]
  | some co=>
   let#[z,A,T,M]:=yP hlk;rw [M];symm;change if true=true then _ else _
   apply#[R, .ref z.2.2.1,rfl,by rw [<- M];show DGet.k (k:=Sum.inr s) (d.get r),?_];symm;intro t J;show#[j++[(t,s,co,a)],by simp,?_,by simp;show x,d.new J,λ y my=> ?_]
   .rw [u,sZ,Jn,v];change _=_++(match Fo.lk (l.map λ z:Lz=>(z.2.1,z.2.2.2)) s with | none=>[] | some co=>[(s,co,a)]);rw [hlk];rfl
   .rcases Æ.mp my with my | my
    .show (D y my).same (aq J _)
    .rw [Zp.mp my];show#[z.2.2.1,aa,by rw [<- T];show aH J (d.get (X z A))]
 .rintro C n ⟨j,rfl,v,x,d,D⟩ p F;rw [ë (n6 (w.symm) (Ä _))] at v;show q p _ (d.new F) (d.free F) #[j,v,aa,λ z A=>(D z A).same (aq F _)]
def WsT(H:Hp)(p:ό)(wss:ϲ):Prop:= ∃rs:ϊ (ό×ϊ (ϴ)),rs.map (·.2)=wss/\H p=!(.lst (rs.map λ r=>V.ref r.1))/\ ∀r∈rs,LdT H r.1 r.2
theorem WsT.same{p:ό}(h:WsT H p wss)(s:Same H H'):WsT H' p wss:=by
 let#[e,a,b,c]:=h;show#[e,a,s.get b,λ r d=>(c r d).same s]
inductive sp_f56(K:Ϗ)(vs:ϊ V)(H:Hp)(Q:VK)(E:XK):Prop
 | mk (f c:ό) (h:Nat) (b:ϵ) (a:L2S) (d:ϊ Int) (e:vs=[.ref f, .ref c]) (g:FnF K H f h b) (i:Fo.Wf h b) (j:HsG K H c a d) (k:↑a<=1000) (l:(∀ps∈a,↑ps<=1000)) (m: ∀p H',Same H H'->H p=none->WsT H' p (a.map (aF b))->Q (.ref p) H')
abbrev Ij K(E:XK)(Eh:XK):=(aA (aJ (gA (j7 K) (cM (tX K aX 1))) (ak 2))
  (aP (lF [none,!2] (oH K (tX K b8 0)) (ak 0) dB (bA (sp_f48 K) (bK b8 aX)))))
abbrev z8:ϊ ϐ:=sN ["font","house","letters"]
theorem Vd(h:sp_f56 K vs H Q E):RG (Ij K E) z8 vs H Q:=by
 let#[f,ha,h,J,x,es,rfl,hF,U,#[d,e,S,W,M,N,X,a5],B,F,q]:=h;show#[E0,?_];let#[l,ob,a,Y,A,D,Z,O]:=id hF;have hl:↑a=↑J:=by rw [<- A,Qb]
 have s:↑S=↑x:=by rw [<- M,Qb]
 have C:(a.map (·.2.1)).Nodup:=by
  have:=dY U.up;rw [<- A,Å] at this;show this
 apply dX Y ?_;apply wV (zs:=a.map λ z:Lz=>(z.1,z.2.1,V.ref z.2.2.1)) D (by rw [Å];show Z) (λ z m=> ?_) (by rw [Å];show C) (by rw [Qb];have:=U.le;show d9 (n6 hl this)) λ t G=> ?_
 .obtain ⟨y,my,rfl⟩:=Zs.mp m;show SqT.of (O y my).1
 rw [Å];have g:Same H (upd H t (HO.dK (a.map ((λ z:ό×ϐ×V=>((Sum.inr z.2.1:Key),z.2.2))∘λ z:Lz=>(z.1,z.2.1,V.ref z.2.2.1))))):=aq G _;have n:upd H t (HO.dK (a.map ((λ z:ό×ϐ×V=>((Sum.inr z.2.1:Key),z.2.2))∘λ z:Lz=>(z.1,z.2.1,V.ref z.2.2.1)))) t=!(.dK (a.map λ z:Lz=>((Sum.inr z.2.1:Key),V.ref z.2.2.1))):=aa;generalize upd H t (HO.dK (a.map ((λ z:ό×ϐ×V=>((Sum.inr z.2.1:Key),z.2.2))∘λ z:Lz=>(z.1,z.2.1,V.ref z.2.2.1))))=H1 at g n;apply gn (g.get W) ?_;show Uv (λ r:ό×L1S=>V.ref r.1) (zs:=S) (g.tup N) (d9 (n6 s B)) (λ i u j=>(Ex1 λ (b:ϊ (ό×ϊ (ϴ)))=>(An4 (u=b.map (λ r=>V.ref r.1)) (b.map (·.2)=(x.take i).map (aF J)) (Same H1 j) (∀r∈b,LdT j r.1 r.2)))) #[[],rfl,rfl,Same.refl _,by simp] ?_ ?_ ?_ ?_
 .rintro i u j ⟨b,rfl,_,c,_⟩;show c.tup (g.tup N)
 .rintro i u j ⟨b,rfl,k,_⟩;have:=Ö List.length k;rw [Qb,Qb,Ð] at this;rw [Qb];show Y9 this
 .rintro i ⟨ra,w⟩ u j R ⟨b,rfl,k,c,I⟩;have o:x[i]? =!w:=by rw [<- M,Wp,R];rfl
  have L:=g.trans c;apply#[t,ra,a,w,rfl,c.get n,λ z mz=>L.get (O z mz).2,(X _ (Xs R)).same L,F w (Xs o),λ p H2 T v P=> ?_];symm;rw [A] at P;show#[b++[(p,aF J w)],by simp,by rw [Jn,k,Í,o,Jn];rfl,c.trans T,λ r mr=> ?_];rcases Æ.mp mr with mr | mr
  .show (I r mr).same T
  .rw [Zp.mp mr];show P
 .rintro u j ⟨b,rfl,k,c,I⟩ p v;rw [ë (n6 (s.symm) (Ä _))] at k;show q p _ ((g.trans c).new v) ((g.trans c).free v) #[b,k,aa,λ r mr=>(I r mr).same (aq v _)]
def cst(ys co:ϊ Nat):Nat:=Mm.b7 (co.take (min ↑co ↑ys)) (ys.take (min ↑co ↑ys))
def Ay(ys:ϊ Nat)(ls:ϵ):ϊ (ϐ×Nat):=ls.map λ p=>(p.1,cst ys p.2)
def Az(cs:ϊ (ϐ×Nat)):ϊ (Key×V):=cs.map λ p=>(Sum.inr p.1,V.int (p.2:Nat))
theorem z9{b:ϊ Nat}: ∀{ls:ϵ},Fo.lk ls s=!b->bM (Az (Ay a ls)) (Sum.inr s)=!(V.int (cst a b:Nat))
 | [],h=>by cases h
 | p::r,h=>by
  rw [Fo.gH] at h;change bM ((Sum.inr p.1,V.int (cst a p.2:Nat))::Az (Ay a r)) (Sum.inr s)=_;by_cases e:p.1=s
  .rw [if_pos e] at h
   cases h;rw [cJ (by change Sum.inr _=Sum.inr _;rw [e])]
  .rw [if_neg e] at h;rw [bY (by intro z;show e (Ň z))];show z9 h
inductive sp_f30(K:Ϗ)(vs:ϊ V)(H:Hp)(Q:VK)(E:XK):Prop
 | mk (f o:ό) (h:Nat) (a:ϵ) (b:ϊ Nat) (c:vs=[.ref f, .ref o]) (d:FnT K H f h a) (e:Fo.Wf h a) (g:SqT K H o (nv b)) (i:↑b<=1000) (j: ∀r H',Same H H'->H r=none->H' r=!(.dK (Az (Ay b a)))->Q (.ref r) H')
abbrev Ik K(E:XK)(Eh:XK):=(aA (aJ kO (ak 2))
  (aA (cu (oH K (tX K aX 1)) (ie K 2 (bD (ak 3) (bD (ak 4) iK))) (aA (aJ (gA pq (bK (dF K d7) (dF K b8))) (ak 5))
  (jY bJ cF (bA (sp_f75 K) (bK (BW (wk K) d7 dJ (gh gw)) (BW (wk K) b8 dJ (gh gw)))))))
  (aP bJ)))
abbrev Il:ϊ ϐ:=sN ["font","over","costs","sign","columns","wide"]
theorem Ve(h:sp_f30 K vs H Q E):RG (Ik K E) Il vs H Q:=by
 let#[f,o,h,a,c,rfl,hF,R,X,ac,q]:=h;show#[E0,?_];have I:(a.map (·.1)).Nodup:=R.up.imp λ G e=>by subst e;show œ _ G
 let#[l,zs,t1,v,t3,t4]:=id hF;have L:↑zs=↑a:=by rw [<- v,Qb]
 have F:=R.le;symm;intro r x;apply dX (aH x t1) ?_;have d: ∀p'∈[r],H p'=none:=λ p' J=>by rw [Zp.mp J];show x
 walk_at "ns";show sV (λ z:Lz=>V.ref z.1) ((aq x _).tup t3) (λ i B n=>(An3 (Sb [r] H n) (n r=!(.dK (Az (Ay c (a.take i))))) (Ex3 λ M N O=>B=[!(.ref f),!(.ref o),!(.ref r),M,N,O]))) #[Sb.of (aq x _),aa,_,_,_,rfl] ?_ ?_ ?_
 .rintro i B n ⟨t,_⟩;show(t.off d).tup t3
 .rintro i ⟨za,s,ca,b⟩ B n Y ⟨t,A,M,N,O,rfl⟩;have S:=t.off d;have mz:=Xs Y;let#[u1,P]:=t4 _ mz;dsimp only at u1 P;have j:a[i]? =!(s,b):=by rw [<- v,Wp,Y];rfl
  have c1:=R.c1 _ (Xs j);dsimp only at c1;have ab:i<↑a:=(À.mp j).1;have u:a.take (i+1)=a.take i++[(s,b)]:=by rw [Í,j];rfl
  have w:s∉(a.take i).map (·.1):=by
   have W:((a.take (i+1)).map (·.1)).Nodup:=Ă ((Ď _ _).map _) I;rw [u,Jn,à] at W;show λ m=>W.2.2 s m s (by simp) rfl
  show cU (SqT.of (S.get u1)) rfl ?_;apply cX (SqT.of (S.get P)) ?_;rw [Qb];apply cX (S.tup X) ?_;rw [Qb];symm;rw [show(if (↑c:Int)<(↑b:Int) then (↑c:Int) else (↑b:Int))=((min ↑b ↑c:Nat):Int) by split<;>rfl'];walk_at "ns";show Rc (SqT.of (S.get P)) λ p1 H1 s1 U=> ?_
  rw [yK (PP (min _ _)),Ó,nv,<- List.map_take] at U;apply Rc ((S.trans s1).tup X) λ p2 H2 s2 C=> ?_
  rw [yK (PP (min _ _)),Ó,nv,<- List.map_take] at C;apply#[p1,p2,b.take (min ↑b ↑c),c.take (min ↑b ↑c),rfl,s2.tup U,by first | show C | show .inr C,by rw [Ð,Ð];rfl',by rw [Ð];rfl',λ H3 s3=> ?_];have T:=(s1.trans s2).trans s3;have D:=T.get A;have hv:bM (Az (Ay c (a.take i))) (Sum.inr s)=none:=fC (f:=λ p:ϐ×Nat=>(Sum.inr p.1:Key)) (g:=λ p:ϐ×Nat=>V.int (p.2:Nat)) λ m=>by
   let#[p,Z,e]:=Zs.mp m;let#[y,my,rfl]:=Zs.mp Z;show w (Zs.mpr #[y,my,Ň e])
  apply#[r,_,rfl,DPut.k (k:=Sum.inr s) D (Û (by unfold Az Ay;rw [Qb,Qb,Ð];show Xd F:_<=40) (by decide)),?_];rw [dh _ hv];apply#[(t.same T).set (by simp),?_,_,_,_,rfl];rw [aa,u];unfold Ay Az;rw [Jn,Jn];rfl
 .rintro B n ⟨t,A,M,N,O,rfl⟩;rw [L,Õ] at A;apply q r n (t.off d) x A
section
variable{α:Type}[DecidableEq α]
def jn(L qs:ϊ α):ϊ α:=qs.foldl (λ L q=>if q∈L then L else L++[q]) L
def qe(L:ϊ α):jn L []=L:=rfl
theorem Di(L a:ϊ α)(q:α):jn L (a++[q])=if q∈jn L a then jn L a else jn L a++[q]:=by
 unfold jn;rw [Ļ];rfl
theorem qg: ∀(qs L:ϊ α),∃E,jn L qs=L++E
 | [],L=>#[[],by rw [qe,ù]]
 | q::qs,L=>by
  change ∃E,jn (if q∈L then L else L++[q]) qs=L++E;split
  .show qg qs L
  .obtain ⟨E,e⟩:=qg qs (L++[q]);show#[q::E,by rw [e,é];rfl]
theorem iG: ∀{qs L:ϊ α}{x:α},x∈jn L qs↔x∈L\/x∈qs
 | [],L,x=>by rw [qe];simp
 | q :: qs, L, x => by
  change x∈jn (if q∈L then L else L++[q]) qs↔_;rw [iG];split
  .rename_i h;constructor
   .rintro (m | m)
    .show .inl m
    .show .inr (É _ m)
   .rintro (m | m)
    .show .inl m
    .rcases È.mp m with rfl | m
     .show .inl h
     .show .inr m
  .rw [Æ,Zp,È,or_assoc]
theorem oh: ∀{qs L:ϊ α},L.Nodup->(jn L qs).Nodup
 | [],L,h=>h
 | q::qs,L,h=>by
  change(jn (if q∈L then L else L++[q]) qs).Nodup;split
  .show oh h
  .rename_i c;show oh (à.mpr #[h,by simp,λ a m b d e=>c ?_]);rw [Zp.mp d] at e;rw [<- e];show m
def cY(nx:α->ϊ α)(st:α):Nat->ϊ α
 | 0=>[st]
 | k+1=>match (cY nx st k)[k]? with
  | none=>cY nx st k
  | some p=>jn (cY nx st k) (nx p)
theorem iH{a:α->ϊ α}{b:α}{k:Nat}{p:α}(h:(cY a b k)[k]? =!p):cY a b (k+1)=jn (cY a b k) (a p):=by
 rw [cY,h]
theorem Im{a:α->ϊ α}{b:α}{k:Nat}(h:↑(cY a b k)<=k):cY a b (k+1)=cY a b k:=by
 rw [cY,ß h]
theorem t6(a:α->ϊ α)(b:α)(k:Nat): ∃E,cY a b (k+1)=cY a b k++E:=by
 cases h:(cY a b k)[k]? with
 | none=>show#[[],by rw [cY,h,ù]]
 | some p=>rw [iH h];show qg _ _
theorem qi(a:α->ϊ α)(b:α)(k:Nat): ∀j,∃E,cY a b (k+j)=cY a b k++E
 | 0=>#[[],by rw [π,ù]]
 | j+1=>by
  let#[E,e]:=qi a b k j;let#[F,f]:=t6 a b (k+j);show#[E++F,by rw [<- Ĺ,f,e,é]]
theorem gJ(a:α->ϊ α)(b:α): ∀k,(cY a b k).Nodup
 | 0=>by rw [cY];simp
 | k+1=>by
  cases h:(cY a b k)[k]? with
  | none=>rw [cY,h];show gJ a b k
  | some p=>rw [iH h];show oh (gJ a b k)
theorem jO{nx:α->ϊ α}{st:α}{k:Nat}(h:↑(cY nx st k)<=k): ∀j,cY nx st (k+j)=cY nx st k
 | 0=>rfl
 | j+1=>by
  have e:=jO h j;rw [<- Ĺ,Im (by rw [e];show Xc h _),e]
theorem wZ{a:α->ϊ α}{b:α}: ∀{k j:Nat}{p q:α},j<k->(cY a b k)[j]? =!p->q∈a p->q∈cY a b k:=λ {k j p q} h d g=>by
 let#[i,rfl]: ∃i,k=(j+1)+i:=#[k-(j+1),()];let#[E,e]:=qi a b (j+1) i;let#[F,f]:=t6 a b j;rw [e];show Ý _ ?_;by_cases c:j<↑(cY a b j)
 .have:(cY a b j)[j]? =!p:=by
   rw [e,f,é,ç c] at d;show d
  rw [iH this];show iG.mpr (.inr g)
 .have:=jO (nx:=a) (st:=b) (k:=j) (GC c) (1+i);rw [<- Ĺ] at this;rw [this,ß (GC c)] at d
  cases d
theorem fG{c:α->ϊ α}{d:α}{P:α->Prop}(a:P d)(b: ∀p q,P p->q∈c p->P q): ∀k,∀p∈cY c d k,P p
 | 0,p,m=>by rw [cY,Zp] at m;rw [m];show a
 | k+1,p,m=>by
  cases h:(cY c d k)[k]? with
  | none=>rw [cY,h] at m;show fG a b k p m
  | some p'=>
   rw [iH h] at m;rcases iG.mp m with m | m
   .show fG a b k p m
   .show b p' p (fG a b k p' (Xs h)) m
end
theorem jG(a b:ϐ):↑(a++b)=↑a+↑b:=by
 change↑(Str.append a b)=_;simp [Str.append,Str.length]
theorem eX{c:Type}[DecidableEq c]: ∀{l m:ϊ c},l.Nodup->(∀x∈l,x∈m)->↑l<=↑m
 | [],m,_,_=>æ _
 | x::l,m,hn,hs=>by
  have a:=hs x Ë;let#[d,f]:=û.mp hn;have:=eX (l:=l) (m:=m.erase x) f λ y b=>(List.mem_erase_of_ne (λ (e:y=x)=>d (by rw [<- e];show b))).mpr (hs y (É _ b))
  rw [List.length_erase_of_mem a] at this;have:=List.length_pos_of_mem a;rw [è];rfl'
def cL(wss:ϲ)(k:Nat):ϊ Int:=cY (λ r=>(wss.getD r.toNat []).map (·.2.2)) 0 k
theorem uG: ∀{ps:ϊ (Int×ϐ)}{r:Int},r∈ps.map (·.1)-> ∃t,(r,t)∈ps/\bM (ps.map λ p=>((Sum.inl p.1:Key),V.str p.2)) (Sum.inl r)=!(V.str t)
 | p::ps,r,m=>by
  rw [Ç];by_cases e:p.1=r
  .show #[p.2,by rw [<- e];show Ë,by rw [cJ (by rw [e])]]
  .obtain ⟨t,a,b⟩:=uG (ps:=ps) (r:=r) (by rcases È.mp m with z | z;show absurd z.symm e;show z);show#[t,É _ a,by rw [bY (by intro z;show e (Sum.inl.inj z))];show b]
theorem Qk{ps:ϊ (Int×ϐ)}(h:r∉ps.map (·.1)):bM (ps.map λ p=>((Sum.inl p.1:Key),V.str p.2)) (Sum.inl r)=none:=fC (f:=λ p:Int×ϐ=>(Sum.inl p.1:Key)) (g:=λ p=>V.str p.2) λ m=>by
 let#[p,a,e]:=Zs.mp m;show h (Zs.mpr #[p,a,Sum.inl.inj e])
inductive sp_f3(K:Ϗ)(vs:ϊ V)(H:Hp)(Q:VK)(E:XK):Prop
 | mk (b:ό) (a:ϲ) (c:vs=[.ref b]) (d:WsT H b a) (e:0<↑a) (f:↑a<=100) (g:(∀ws∈a,↑ws<=1000/\ ∀w∈ws,↑w.1<=1/\0<=w.2.2/\w.2.2<↑a)) (h: ∀r H' (N:Nat) (ps:ϊ (Int×ϐ)),Same H H'->H r=none->ps.map (·.1)=cL a N->H' r=!(.dK (ps.map λ p=>((Sum.inl p.1:Key),V.str p.2)))->↑(cL a N)<=N->(∀p∈ps,↑p.2<=↑ps)->Q (.ref r) H')
abbrev Ql K:=(aA (aJ (qx K "list" xX bJ (cM (tI 0))) (ak 3))
  (cu (bN K (aN (eG K) aX cF)) (ie K 3 (bD (ak 4) (bD (ak 5) (bD (ak 6) iK)))) (bf (tB (nR jV b8)) (aA (jY b8 jV (aN bc (jx b8 cF) d7))
  (cT (qx K "list" dM bJ (cM jV)))) aV)))
abbrev Rg K(E:XK)(Eh:XK):=(aA (aJ (QR [((tC (V.int 0)),(tC (V.str (Str.ofString ""))))]) (ak 1))
  (aA (aJ (jQ (cM (tI 0))) (ak 2))
  (aA (gP (aU (aN qK (dF K bJ) (tI 0))) (Ql K))
  (aP b8))))
abbrev Rh:ϊ ϐ:=sN ["ways","texts","waiting","here","sign","columns","room"]
theorem YK(h:sp_f3 K vs H Q E):RG (Rg K E) Rh vs H Q:=by
 let#[wa,a,rfl,hW,a8,a9,av,q]:=h;show#[E0,?_];have ai: ∀k,∀r∈cL a k,0<=r/\r<↑a:=λ k=>fG (P:=λ r:Int=>0<=r/\r<↑a) #[by decide,Xe a8] (λ p q' hp hq=>by
  let#[w,mw,rfl]:=Zs.mp hq;have:a.getD p.toNat []∈a:=by rw [Yf,Qr (Xb hp)];show Ï _
  show((av _ this).2 w mw).2) k
 have Y: ∀k,↑(cL a k)<=↑a:=λ k=>by
  have:=eX (l:=cL a k) (m:=(List.range ↑a).map λ i:Nat=>(i:Int)) (gJ _ _ k) λ r mr=>by
   let#[h0,h1]:=ai k r mr;show Zs.mpr #[r.toNat,í.mpr (Y8 h0 h1),An h0]
  rw [Qb,ö] at this;show this
 let#[rs,ae,a1,a2]:=id hW;have a7:↑rs=↑a:=by rw [<- ae,Qb]
 symm;intro d M;apply#[aa,[(Sum.inl 0,V.str (Str.ofString ""))],rfl,by simp,?_];have ab:Sb [d] H (upd (upd H d (HO.dK [])) d (HO.dK (jy [] [(Sum.inl 0,V.str (Str.ofString ""))]))):=(Sb.of (aq M _)).set (by simp);have F:upd (upd H d (HO.dK [])) d (HO.dK (jy [] [(Sum.inl 0,V.str (Str.ofString ""))])) d=!(.dK ([((0:Int),(Str.ofString ""))].map λ p=>((Sum.inl p.1:Key),V.str p.2))):=by rw [aa];rfl
 generalize upd (upd H d (HO.dK [])) d (HO.dK (jy [] [(Sum.inl 0,V.str (Str.ofString ""))]))=H0 at ab F;symm;intro t N;have n1:d≠t:=aY F N;have as:H t=none:=(ab.off λ p hp=>by rw [Zp.mp hp];show M).free N;have L: ∀p∈[d,t],H p=none:=λ p hp=>by
  simp only [È,å,ĥ] at hp;rcases hp with rfl | rfl
  .show M
  .show as
 symm;walk_at "ns";show uy (λ T A=>(An2 (Sb [d,t] H A) (Ex6 λ (k:Nat) (B:ϊ (Int×ϐ)) (o1 o2 o3 o4:ύ V)=>(An6 (k<=↑(cL a k)) (B.map (·.1)=cL a k) (∀p∈B,↑p.2<=↑B) (A d=!(.dK (B.map λ p=>((Sum.inl p.1:Key),V.str p.2)))) (A t=!(.lst (((cL a k).drop k).map V.int))) (T=[!(.ref wa),!(.ref d),!(.ref t),o1,o2,o3,o4]))))) (λ _ A=>match A t with | some (.lst l)=>(match A d with | some (.dK m)=>1000-(↑m-↑l) | _=>0) | _=>0) ⟨(Sb.more ab (by simp)).new N,0,[(0,Str.ofString "")],_,_,_,_,æ _,rfl,λ p mp=>by rw [Zp.mp mp];decide,aH N F,aa,rfl⟩ ?_ ?_
 .rintro T A ⟨sb,k,B,o1,o2,o3,o4,hk,J,ag,W,G,rfl⟩;have S':=sb.off L;have bg:↑B=↑(cL a k):=by rw [<- J,Qb]
  have bk:=Y k;apply bQ (SqL.of G) ?_;rw [Qb,ì];apply fL (λ c1=> ?_) λ c1=> ?_
  .have X:k<↑(cL a k):=()
   let#[r,hr]: ∃r,(cL a k)[k]? =!r:=#[_,Qr X];have a3:(cL a k).drop k=r::(cL a k).drop (k+1):=by rw [ı X,(À.mp hr).2]
   have mr:=Xs hr;let#[r0,r1]:=ai k r mr;let#[j,rfl]: ∃j:Nat,r=(j:Int):=#[r.toNat,Eq.symm (An r0)];let#[C,Z]: ∃C,rs[j]? =!C:=#[_,Qr (DK (Ub r1) a7)];have ar:a[j]? =!C.2:=by rw [<- ae,Wp,Z];rfl
   have a4:a.getD j []=C.2:=by rw [Yf,ar];rfl
   have af:cL a (k+1)=jn (cL a k) (C.2.map (·.2.2)):=by
    have:=iH hr;change cY _ _ (k+1)=_;rw [this];change jn _ ((a.getD ((j:Int)).toNat []).map _)=_;rw [Ó,a4];rfl
   let#[aw,bd]:=av C.2 (Xs ar);let#[zs,ez,ad,hz]:=a2 C (Xs Z);have bb:↑zs=↑C.2:=by rw [<- ez,Qb]
   apply fQ (SqL.of G) ?_;symm;rw [a3,Ç] at G;show Ux G ?_;symm;have n2:t≠d:=n1.symm;have O:upd A t (HO.lst (((cL a k).drop (k+1)).map V.int)) d=!(.dK (B.map λ p=>((Sum.inl p.1:Key),V.str p.2))):=by rw [au n1];show W
   have ac:=sb.set (p:=t) (o:=HO.lst (((cL a k).drop (k+1)).map V.int)) (by simp);have S1:=ac.off L;have R:upd A t (HO.lst (((cL a k).drop (k+1)).map V.int)) t=!(.lst (((cL a k).drop (k+1)).map V.int)):=aa;generalize upd A t (HO.lst (((cL a k).drop (k+1)).map V.int))=H1 at ac S1 O R;show qQ (S1.get a1) Z ?_;walk_at "ns";show cV (λ z:Wz=>V.ref z.1) (zs:=zs) (SqL.of (S1.get ad)) (λ i T I=>(An2 (Sb [d,t] H I) (Ex5 λ (b:ϊ (Int×ϐ)) (E:ϊ Int) (o2 o3 o4:ύ V)=>(An6 (b.map (·.1)=jn (cL a k) ((C.2.map (·.2.2)).take i)) (b.map (·.1)=cL a k++E) (∀p∈b,↑p.2<=↑b) (I d=!(.dK (b.map λ p=>((Sum.inl p.1:Key),V.str p.2)))) (I t=!(.lst (((cL a k).drop (k+1)++E).map V.int))) (T=[!(.ref wa),!(.ref d),!(.ref t),!(.int (j:Nat)),o2,o3,o4]))))) #[ac,B,[],_,_,_,by rw [List.take_zero,qe];show J,by rw [ù];show J,ag,O,by rw [ù];show R,rfl] ?_ ?_ ?_
   .rintro i T I ⟨y,_⟩;show SqL.of ((y.off L).get ad)
   .rintro i ⟨za,s,co,c⟩ T I hi ⟨y,b,E,o2,o3,o4,D,U,u,f,g,rfl⟩;have S2:=y.off L;let#[ca,v1,v2]:=hz _ (Xs hi);dsimp only at v1 v2;have ap:C.2[i]? =!(s,co,c):=by rw [<- ez,Wp,hi];rfl
    have al:=(bd _ (Xs ap)).1;dsimp only at al;have ax:(C.2.map (·.2.2)).take (i+1)=(C.2.map (·.2.2)).take i++[c]:=by rw [Í,Wp,ap];rfl
    have ah:↑b<=100:=by
     have h1:=eX (l:=b.map (·.1)) (m:=cL a (k+1)) (by rw [D];show oh (gJ _ _ k)) λ x mx=>by
      rw [D] at mx;rw [af];rcases iG.mp mx with m | m
      .show iG.mpr (.inl m)
      .show iG.mpr (.inr (ħ m))
     have h2:=Y (k+1);rw [Qb] at h1;show Ò h1 (Ò h2 a9)
    rw [ax,Di];show cU (SqT.of (S2.get v1)) rfl ?_;apply#[d,_,rfl,DGet.k (k:=Sum.inl c) f,?_];by_cases m:c∈jn (cL a k) ((C.2.map (·.2.2)).take i)
    .obtain ⟨tt,_,ev⟩:=uG (ps:=b) (r:=c) (by rw [D];show m);rw [ev,if_pos m];symm;change if (not true)=true then _ else _
     apply#[y,b,E,_,_,_,D,U,u,f,g,rfl]
    .have ev:=Qk (ps:=b) (r:=c) (by rw [D];show m);rw [ev,if_neg m];let#[tj,be,ay]:=uG (ps:=b) (r:=(j:Int)) (by rw [U];show Ý _ mr);have am:=u _ be;dsimp only at am;symm;change if (not false)=true then _ else _
     apply#[d,V.str tj,rfl,by rw [<- ay];show DGet.k (k:=Sum.inl (j:Int)) f,?_];apply fM () ?_;apply#[d,_,rfl,DPut.k (k:=Sum.inl c) f (Û (by rw [Qb];show d9 ah:_<=2000) (by decide)),?_];rw [dh _ ev];symm;have S: ∀w,upd I d w t=!(.lst (((cL a k).drop (k+1)++E).map V.int)):=λ w=>by rw [au n2];show g
     show fQ (SqL.of (S _)) ?_;apply jE (S _) (by rw [Qb,Â,ì];have:=Ö List.length U;rw [Qb,Â] at this;rfl') ?_;apply#[(y.set (by simp)).set (by simp),b++[(c,tj++s)],E++[c],_,_,_,by rw [Jn,D];rfl,by rw [Jn,U,é];rfl,λ p mp=> ?_,by rw [au n1,aa,Jn];rfl,by rw [aa,<- é,Jn (l₂:=[c])];rfl,rfl];rw [Â,â];rcases Æ.mp mp with mp | mp
     .have:=u p mp;show Xc this _
     .rw [Zp.mp mp];change↑(tj++s)<=_;rw [show↑(tj++s)=↑tj+↑s from jG _ _];show qkT am al
   .rintro T I ⟨y,b,E,o2,o3,o4,D,U,u,f,g,rfl⟩;rw [ë (by rw [Qb];show n6 (bb.symm) (Ä _)),<- af] at D;have eD:(cL a k).drop (k+1)++E=(cL a (k+1)).drop (k+1):=by
     rw [<- D,U,List.drop_append_of_le_length X]
    rw [eD] at g;have a6:↑b=↑(cL a (k+1)):=by rw [<- D,Qb]
    have a5:k+1<=↑(cL a (k+1)):=by
     rw [<- a6];have:=Ö List.length U;rw [Qb,Â] at this;rfl'
    have bi:=Y (k+1);show#[#[y,k+1,b,_,_,_,_,a5,D,u,f,g,rfl],?_];change(match I t with | some (.lst l)=>(match I d with | some (.dK m)=>1000-(↑m-↑l) | _=>0) | _=>0)<(match A t with | some (.lst l)=>(match A d with | some (.dK m)=>1000-(↑m-↑l) | _=>0) | _=>0);rw [g,f,G,W];dsimp only;simp only [Qb,è,ì];rw [show ↑b-(↑(cL a (k+1))-(k+1))=k+1 by rfl',show ↑B-(↑(cL a k)-(k+1)+1)=k by rfl'];show Nat.sub_lt_sub_left () (ĵ k)
  .symm;show q d A k B S' M J W () ag
 .rintro T H Q Q' hq ⟨v,hv,x,n,e,hl,i,j,e1,e2,k,e3,z⟩;show#[v,hv,x,n,e,hl,i,j,e1,e2,k,e3,hq _ _ z]
def nu(w:ϴ)(ah:Int)(ys:ϊ Nat):Int×Int×ϊ Nat:=if ↑w.2.1<=↑ys then (w.2.2,ah,ys.drop ↑w.2.1) else (ah,w.2.2,w.2.1.drop ↑ys)
def StT(K:Ϗ)(H:Hp)(a:ό)(st:Int×Int×ϊ Nat):Prop:= ∃c,H a=!(.tup [.int st.1, .int st.2.1, .ref c])/\H c=!(.tup (nv st.2.2))
theorem StT.same{K:Ϗ}(h:StT K H a st)(s:Same H H'):StT K H' a st:=by
 let#[c,b,d]:=h;show#[c,s.get b,s.get d]
inductive sp_f8(K:Ϗ)(vs:ϊ V)(H:Hp)(Q:VK)(E:XK):Prop
 | mk (b o:ό) (w:ϴ) (a:Int) (c:ϊ Nat) (d:vs=[.ref b, .int a, .ref o]) (e:WyT H (b,w)) (f:H o=!(.tup (nv c))) (g: ∀r H',Same H H'->H r=none->StT K H' r (nu w a c)->Q (.ref r) H')
abbrev Ri K(E:XK)(Eh:XK):=(aA (aJ (dF K (tX K aX 1)) (ak 3))
  (aA (bf (aU (aN nJ cF (dF K bJ))) (aP (dI (lY (tX K aX 2) b8 (BW (wk K) bJ (gh cF) dJ)))) aV)
  (aP (dI (lY b8 (tX K aX 2) (BW (wk K) (tX K aX 1) (gh (dF K bJ)) dJ))))))
abbrev Rj:ϊ ϐ:=sN ["way","ahead","over","wide"]
theorem YL(h:sp_f8 K vs H Q E):RG (Ri K E) Rj vs H Q:=by
 let#[t,o,#[s,j,k],n,l,rfl,#[p,e,i],f,q]:=h;show#[E0,?_];dsimp only at e i;apply dX e ?_;apply cX (SqT.of i) ?_;rw [Qb];apply cX (SqT.of f) ?_;rw [Qb];apply fL (λ c=> ?_) λ c=> ?_
 .symm;show jT e ?_;apply Hn f λ g m d b=> ?_
  rw [wN (PP _),Ó,nv,<- List.map_drop] at b;symm;intro r a;show q r _ (d.new a) (d.free a) ?_;unfold nu;rw [if_pos (show ↑j<=↑l by show qcL c)];show#[g,aa,aH a b]
 .symm;show jT e ?_;apply dX e ?_;apply cX (SqT.of f) ?_;rw [Qb];apply Hn i λ g m d b=> ?_
  rw [wN (PP _),Ó,nv,<- List.map_drop] at b;symm;intro r a;show q r _ (d.new a) (d.free a) ?_;unfold nu;rw [if_neg (show ¬↑j<=↑l by rfl')];show#[g,aa,aH a b]
def YM(wss:ϲ)(r:Int):ϊ ((ϴ)×(ϴ)×Int):=(List.range ↑(wss.getD r.toNat [])).flatMap λ j=>(List.range j).map λ k=>((wss.getD r.toNat []).getD k default,(wss.getD r.toNat []).getD j default,r)
def nO(wss:ϲ)(rs:ϊ Int):ϊ ((ϴ)×(ϴ)×Int):=rs.flatMap (YM wss)
abbrev Fz:=ό×ό×ό×ό×((ϴ)×(ϴ)×Int)
def FkA(K:Ϗ)(H:Hp)(z:Fz):Prop:=H z.1=!(.tup [.int (cst z.2.2.2.2.2.1.2.1 z.2.2.2.2.1.2.1:Nat), .ref z.2.1, .int z.2.2.2.2.2.2, .ref z.2.2.1, .ref z.2.2.2.1])/\StT K H z.2.1 (nu z.2.2.2.2.1 z.2.2.2.2.2.1.2.2 z.2.2.2.2.2.1.2.1)/\WyT H (z.2.2.1,z.2.2.2.2.1)/\WyT H (z.2.2.2.1,z.2.2.2.2.2.1)
theorem FkA.same{K:Ϗ}(h:FkA K H z)(s:Same H H'):FkA K H' z:=#[s.get h.1,h.2.1.same s,h.2.2.1.same s,h.2.2.2.same s]
theorem FkA.app{K:Ϗ}(h:FkA K H z)(e:H q=!(.lst ys)):FkA K (upd H q o) z:=by
 let#[a,#[c,b,g],#[d,i,j],#[f,k,l]]:=h;show#[gb a e,#[c,gb b e,gb g e],#[d,gb i e,gb j e],#[f,gb k e,gb l e]]
theorem Vf{c:ϳ}(h:wss[j]? =!c):YM wss (j:Int)=(List.range ↑c).flatMap λ b=>(List.range b).map λ a=>(c.getD a default,c.getD b default,(j:Int)):=by
 unfold YM;rw [Ó,Yf,h];rfl
def Xg(K:Ϗ)(H:Hp)(a:ό)(fs:ϊ ((ϴ)×(ϴ)×Int)):Prop:= ∃zs:ϊ Fz,zs.map (λ z:Fz=>z.2.2.2.2)=fs/\H a=!(.lst (zs.map λ z:Fz=>V.ref z.1))/\ ∀z∈zs,FkA K H z
inductive sp_f67(K:Ϗ)(vs:ϊ V)(H:Hp)(Q:VK)(E:XK):Prop
 | mk (f c:ό) (h:Nat) (b:ϵ) (a:ϲ) (d:vs=[.ref f, .ref c]) (e:FnF K H f h b) (g:Fo.Wf h b) (i:WsT H c a) (j:0<↑a) (k:↑a<=100) (l:(∀ws∈a,↑ws<=100/\ ∀w∈ws,Fo.lk b w.1=!w.2.1/\0<=w.2.2/\w.2.2<↑a)) (m: ∀p H' N,Same H H'->H p=none->↑(cL a N)<=N->Xg K H' p (nO a (cL a N))->Q (.ref p) H')
abbrev Io K:=(aA (cu (G8 (bA (sp_f3 K) (cM b8))) (ak 6) (cu (zY K (cM (aN (eG K) b8 jV))) (ie K 2 (bD (ak 7) (bD (ak 8) iK))) (cu (bN K (BW (BX K) (aN (eG K) b8 jV) dJ (gh uZ))) (ak 9) (aA (aJ (bA (sp_f8 K) (lY Rf (tX K Qj 2) (tX K Qj 1))) (ak 10))
  (cT (qx K "list" dM gw (cM (dI (dH (jx (jx bJ (tX K Qj 0)) (tX K Rf 0)) (DP Hr jV Rf Qj))))))))))
  (aP gw))
abbrev Ip K(E:XK)(Eh:XK):=(aA (aJ kO (ak 2))
  (aA (cu (oH K (tX K aX 1)) (ie K 2 (bD (ak 3) (bD (ak 4) iK))) (jY bJ cF (bA (sp_f30 K) (bK aX d7))))
  (aA (aJ (jQ iV) (ak 5))
  (Io K))))
abbrev Ir:ϊ ϐ:=sN ["font","ways","costs","sign","columns","found","room","place","later","way","stand"]
theorem Vg(h:sp_f67 K vs H Q E):RG (Ip K E) Ir vs H Q:=by
 let#[f,wa,h,M,c,rfl,hF,wf,hW,a9,c8,ae,q]:=h;show#[E0,?_];have c3:(M.map (·.1)).Nodup:=wf.up.imp λ c2 e=>by subst e;show œ _ c2
 let#[l,zs,t1,bk,t3,t4]:=id hF.t;have db:↑zs=↑M:=by rw [<- bk,Qb]
 have c0:=wf.le;have b5: ∀k,∀r∈cL c k,0<=r/\r<↑c:=λ k=>fG (P:=λ r:Int=>0<=r/\r<↑c) #[by decide,Xe a9] (λ p q' hp hq=>by
  let#[w,mw,rfl]:=Zs.mp hq;have:c.getD p.toNat []∈c:=by rw [Yf,Qr (Xb hp)];show Ï _
  show((ae _ this).2 w mw).2) k
 have c4: ∀k,↑(cL c k)<=↑c:=λ k=>by
  have:=eX (l:=cL c k) (m:=(List.range ↑c).map λ i:Nat=>(i:Int)) (gJ _ _ k) λ r mr=>by
   let#[h0,h1]:=b5 k r mr;show Zs.mpr #[r.toNat,í.mpr (qtC h1 a9),An h0]
  rw [Qb,ö] at this;show this
 symm;intro W ai;apply dX (aH ai t1) ?_;have a6: ∀p'∈[W],H p'=none:=λ p' al=>by rw [Zp.mp al];show ai
 walk_at "ns";show sV (λ z:Lz=>V.ref z.1) ((aq ai _).tup t3) (λ i v G=>(An2 (Sb [W] H G) (Ex3 λ (L:ϊ (ϐ×ό×ϊ Nat)) (o3 o4:ύ V)=>(An4 (L.map (λ k=>(k.1,k.2.2))=M.take i) (G W=!(.dK (L.map λ k=>((Sum.inr k.1:Key),V.ref k.2.1)))) (∀k∈L,k.2.1≠W/\G k.2.1=!(.dK (Az (Ay k.2.2 M)))) (v=[!(.ref f),!(.ref wa),!(.ref W),o3,o4,none,none,none,none,none,none]))))) #[Sb.of (aq ai _),[],_,_,rfl,aa,λ k mk=>(by cases mk),rfl] ?_ ?_ ?_
 .rintro i v G ⟨sb,_⟩;show(sb.off a6).tup t3
 .rintro i ⟨za,s,cz,co⟩ v G hi ⟨sb,L,o3,o4,D,Z,I,rfl⟩;have S:=sb.off a6;let#[u1,u2]:=t4 _ (Xs hi);dsimp only at u1 u2;have a7:M[i]? =!(s,co):=by rw [<- bk,Wp,hi];rfl
  have c1:=wf.c1 _ (Xs a7);dsimp only at c1;have cx:i<↑M:=(À.mp a7).1;have af:M.take (i+1)=M.take i++[(s,co)]:=by rw [Í,a7];rfl
  have bq:s∉(M.take i).map (·.1):=by
   have h1:((M.take (i+1)).map (·.1)).Nodup:=Ă ((Ď _ _).map _) c3;rw [af,Jn,à] at h1;show λ m=>h1.2.2 s m s (by simp) rfl
  have cy:↑L<=94:=by
   have:=Ö List.length D;rw [Qb,Ð] at this;show n6 this (d9 (Xd c0))
  show cU (SqT.of (S.get u1)) rfl ?_;apply#[f,cz,h,M,co,rfl,(hF.same S).t,wf,SqT.of (S.get u2),(),λ r U s2 hr er=> ?_];have b4:r≠W:=qR Z hr;have hv:bM (L.map λ k=>((Sum.inr k.1:Key),V.ref k.2.1)) (Sum.inr s)=none:=fC (f:=λ k:ϐ×ό×ϊ Nat=>(Sum.inr k.1:Key)) (g:=λ k:ϐ×ό×ϊ Nat=>V.ref k.2.1) λ m=>by
   let#[k,mk,e]:=Zs.mp m;show bq (by rw [<- D,Å];show Zs.mpr #[k,mk,Ň e])
  apply#[W,_,rfl,DPut.k (k:=Sum.inr s) (s2.get Z) (Û (by rw [Qb];show cy:_<=94) (by decide)),?_];rw [dh _ hv];apply#[(sb.same s2).set (by simp),L++[(s,r,co)],_,_,by rw [Jn,D,af];rfl,by rw [aa,Jn];rfl,λ k mk=> ?_,rfl];rcases Æ.mp mk with mk | mk
  .show #[(I k mk).1,by rw [au (I k mk).1];show s2.get (I k mk).2]
  .rw [Zp.mp mk];show#[b4,by rw [au b4];show er]
 .rintro v Hc ⟨sb,L,o3,o4,D,Z,ay,rfl⟩;rw [db,Õ] at D;have I: ∀k∈L,Hc k.2.1=!(.dK (Az (Ay k.2.2 M))):=λ k mk=>(ay k mk).2
  have SH:=sb.off a6;have bp:=hW.same SH;have a4: ∀ {s co},Fo.lk M s=!co-> ∃k∈L,k.2.2=co/\bM (L.map λ k=>((Sum.inr k.1:Key),V.ref k.2.1)) (Sum.inr s)=!(V.ref k.2.1):=by
   rw [<- D];clear Z I ay D;induction L with
   | nil=>intro s co h;cases h
   | cons k L ih=>
    intro s co h;rw [Ç,Fo.gH] at h;rw [Ç];by_cases e:k.1=s
    .rw [if_pos e] at h
     cases h;show#[k,Ë,rfl,by rw [cJ (by rw [e])]]
    .rw [if_neg e] at h;let#[k',m',e1,e2]:=ih h;show#[k',É _ m',e1,by rw [bY (by intro z;show e (Ň z))];show e2]
  symm;intro x a5;symm;walk_at "ns";have S0:Same Hc (upd Hc x (HO.lst [])):=aq a5 _;show#[wa,c,rfl,bp.same S0,a9,c8,λ ws bd=>#[by have:=(ae ws bd).1;show d9 this,λ w mw=>#[?_,((ae ws bd).2 w mw).2]],λ R H1 N ps s1 b6 bi cs hN _=> ?_]
  .obtain ⟨n,en⟩:=wf.sg _ (Fo.cH ((ae ws bd).2 w mw).1);dsimp only at en;rw [en];show Ä 1
  have b9:Hc R=none:=S0.free b6;have bv:x≠R:=aY aa b6;have bg:H1 x=!(.lst []):=s1.get aa;have S1:Same Hc H1:=S0.trans s1;have y: ∀p'∈[x,R],Hc p'=none:=λ p' al=>by
   simp only [È,å,ĥ] at al;rcases al with rfl | rfl
   .show a5
   .show b9
  have b0:↑ps=↑(cL c N):=by rw [<- bi,Qb]
  have dk:=c4 N;show Hl (.inl cs) (λ od i v G=>(An5 (Sb [x,R] Hc G) (G R=!(.frz od (.dK (ps.map λ p=>((Sum.inl p.1:Key),V.str p.2))))) (Xg K G x (nO c ((cL c N).take i))) (↑(nO c ((cL c N).take i))<=i*10000) (Ex5 λ (o6 o7 o8 o9 d:ύ V)=>v=[!(.ref f),!(.ref wa),!(.ref W),o3,o4,!(.ref x),o6,o7,o8,o9,d]))) (λ od U C e2=>#[λ b o n q'=>C b o (λ z=>n (by simp only [Zp] at z;rw [z];simp)) (S1 b o q'),e2,#[[],rfl,C.get (by simpa using bv) bg,λ z m=>(by cases m)],æ _,_,_,_,_,_,rfl]) (λ od i v G h=>by let#[_,h,_]:=h;show h) ?_ ?_
  .rintro od i z v G hz ⟨ar,aw,hT,bn,o6,o7,o8,o9,d,rfl⟩;let#[p,hp,rfl]: ∃p,ps[i]? =!p/\z=((Sum.inl p.1:Key),V.str p.2):=by
    rw [Wp] at hz;let#[p,hp,e]:=Î.mp hz;show#[p,hp,e.symm]
   have a8:(cL c N)[i]? =!p.1:=by rw [<- bi,Wp,hp];rfl
   let#[r0,r1]:=b5 N p.1 (Xs a8);let#[j,hj]: ∃j:Nat,p.1=(j:Int):=#[p.1.toNat,Eq.symm (An r0)];have cx:i<↑(cL c N):=(À.mp a8).1;let#[rs,w1,w2,w3]:=id bp;have dl:↑rs=↑c:=by rw [<- w1,Qb]
   let#[u,am]: ∃u,rs[j]? =!u:=#[_,Qr ()];have ce:c[j]? =!u.2:=by rw [<- w1,Wp,am];rfl
   let#[T,a2,z1,z2]:=w3 u (Xs am);let#[c9,ci]:=ae u.2 (Xs ce);have da:↑T=↑u.2:=by rw [<- a2,Qb]
   have af:nO c ((cL c N).take (i+1))=nO c ((cL c N).take i)++(List.range ↑u.2).flatMap λ b=>(List.range b).map λ a=>(u.2.getD a default,u.2.getD b default,(j:Int)):=by
    rw [Í,a8];unfold nO;rw [Δ];congr 1;change [p.1].flatMap _=_;rw [ρ,hj,Vf ce]
   rw [af];generalize hA:nO c ((cL c N).take i)=A at hT bn ⊢;change ak 6 (V.int p.1) _ _ _;rw [hj];symm;have S':=ar.off y;show qQ (S'.get w2) am ?_;walk_at "ns";show Uy (λ z:Wz=>V.ref z.1) (xs:=T) (SqL.of (S'.get z1)) (λ b v U=>(An5 (Sb [x,R] Hc U) (U R=!(.frz od (.dK (ps.map λ p=>((Sum.inl p.1:Key),V.str p.2))))) (Xg K U x (A++(List.range b).flatMap λ b=>(List.range b).map λ a=>(u.2.getD a default,u.2.getD b default,(j:Int)))) (↑(A++(List.range b).flatMap λ b=>(List.range b).map λ a=>(u.2.getD a default,u.2.getD b default,(j:Int)))<=i*10000+b*100) (Ex4 λ (o7 o8 o9 d:ύ V)=>v=[!(.ref f),!(.ref wa),!(.ref W),o3,o4,!(.ref x),!(.int (j:Nat)),o7,o8,o9,d]))) #[ar,aw,by rw [List.range_zero,List.flatMap_nil,ù];show hT,by rw [List.range_zero,List.flatMap_nil,ù];show Xc bn _,_,_,_,_,rfl] ?_ ?_ ?_
   .rintro b v U ⟨C,_⟩;show SqL.of ((C.off y).get z1)
   .rintro b ⟨wb,sw,Y,O⟩ tp v U hb ⟨C,F,ag,ad,o7,o8,o9,d,rfl⟩ ap;have bb:u.2[b]? =!(sw,Y,O):=by rw [<- a2,Wp,hb];rfl
    have dg:b<↑u.2:=(À.mp bb).1;have cp:u.2.getD b default=(sw,Y,O):=by rw [Yf,bb];rfl
    have bo:=z2 _ (Xs hb);let#[cb,b1,b2]:=id bo;dsimp only at b1 b2;have br:=((ci _ (Xs bb)).1);dsimp only at br;let#[kb,dc,cr,ct]:=a4 br;have dd:tp≠R:=qR F ap;have be:=C.new (o:= .tup [.int (b:Int), .ref wb]) ap;show cU (SqT.of aa) rfl ?_;symm;have ab:upd U tp (.tup [.int (b:Int), .ref wb]) R=!(.frz od (.dK (ps.map λ p=>((Sum.inl p.1:Key),V.str p.2)))):=by rw [au dd.symm];show F
    have ah:Xg K (upd U tp (.tup [.int (b:Int), .ref wb])) x (A++(List.range b).flatMap λ b=>(List.range b).map λ a=>(u.2.getD a default,u.2.getD b default,(j:Int))):=by
     let#[us,u1,u2,u3]:=ag;show#[us,u1,aH ap u2,λ z mz=>(u3 z mz).same (aq ap _)]
    generalize upd U tp (.tup [.int (b:Int), .ref wb])=H3 at be ab ah ⊢;rw [ł,Δ,ρ,<- é,cp];generalize hB:A++(List.range b).flatMap (λ b=>(List.range b).map λ a=>(u.2.getD a default,u.2.getD b default,(j:Int)))=B at ah ad ⊢;have S3:=be.off y;show qQ (S3.get w2) am ?_;apply Ha (SqL.of (S3.get z1)) λ sl J=> ?_
    rw [yK (PP _),Ó,<- List.map_take];walk_at "ns";have S4:Same H3 (upd H3 sl (HO.lst ((T.take b).map λ z:Wz=>V.ref z.1))):=aq J _;have dp:sl≠R:=qR ab J;have cj:sl≠x:=λ e=>by let#[us,u1,u2,u3]:=ah;rw [e,u2] at J;cases J
    have df:Hc sl=none:=S3.free J;have de: ∀p'∈[x,R],upd H3 sl (HO.lst ((T.take b).map λ z:Wz=>V.ref z.1)) p'≠none->True:=λ _ _ _=>trivial
    have cm:=be.new (o:=HO.lst ((T.take b).map λ z:Wz=>V.ref z.1)) J;have a1:upd H3 sl (HO.lst ((T.take b).map λ z:Wz=>V.ref z.1)) sl=!(.lst ((T.take b).map λ z:Wz=>V.ref z.1)):=aa;have ax:=S4.get ab;have bl:Xg K (upd H3 sl (HO.lst ((T.take b).map λ z:Wz=>V.ref z.1))) x B:=by
     let#[us,u1,u2,u3]:=ah;show#[us,u1,S4.get u2,λ z mz=>(u3 z mz).same S4]
    generalize upd H3 sl (HO.lst ((T.take b).map λ z:Wz=>V.ref z.1))=H4 at S4 cm a1 ax bl ⊢;show cV (λ z:Wz=>V.ref z.1) (zs:=T.take b) (SqL.of a1) (λ a v H5=>(An5 (Sb [x,R] Hc H5) (H5 sl=!(.lst ((T.take b).map λ z:Wz=>V.ref z.1))) (H5 R=!(.frz od (.dK (ps.map λ p=>((Sum.inl p.1:Key),V.str p.2))))) (Xg K H5 x (B++(List.range a).map λ a=>(u.2.getD a default,(sw,Y,O),(j:Int)))) (Ex2 λ (o9 d:ύ V)=>v=[!(.ref f),!(.ref wa),!(.ref W),o3,o4,!(.ref x),!(.int (j:Nat)),!(.int (b:Nat)),!(.ref wb),o9,d]))) #[cm,a1,ax,by rw [List.range_zero,ď,ù];show bl,_,_,rfl] ?_ ?_ ?_
    .rintro a v H5 ⟨_,h,_⟩;show SqL.of h
    .rintro a ⟨wq,sq,X,rq⟩ v H5 ha ⟨as,av,ac,⟨us,u1,u2,u3⟩,o9,d,rfl⟩;have cv:a<b:=by
      have:=(À.mp ha).1;rw [Ð] at this;rfl'
     have b3:T[a]? =!(wq,sq,X,rq):=by rw [List.getElem?_take,if_pos cv] at ha;show ha
     have cf:u.2[a]? =!(sq,X,rq):=by rw [<- a2,Wp,b3];rfl
     have cn:u.2.getD a default=(sq,X,rq):=by rw [Yf,cf];rfl
     have a3:=z2 _ (Xs b3);let#[cc,q1,q2]:=id a3;dsimp only at q1 q2;have bs:=((ci _ (Xs cf)).1);dsimp only at bs;have S5:=as.off y;have c6:↑us<=1000000:=by
      have:=Ö List.length u1;rw [Qb,Â,Qb,ö] at this;rfl'
     apply jT (S5.get b1) ?_;apply dX (S5.get b1) ?_;apply#[wq,cb,(sq,X,rq),O,Y,rfl,a3.same S5,S5.get b2,λ st H6 s6 dn hS=> ?_];have S6:=S5.trans s6;apply fQ (SqL.of (s6.get u2)) ?_;apply gn (S6.get b1) ?_;apply#[W, .ref kb.2.1,rfl,by rw [<- ct];show DGet.k (k:=Sum.inr sw) (S6.get Z),?_];apply gn (S6.get q1) ?_;apply#[kb.2.1,V.int (cst Y X:Nat),rfl,by have:=DGet.k (k:=Sum.inr sq) (S6.get (I kb dc));rw [cr,z9 bs] at this;show this,?_];symm;intro tq c5;have s7:Same H6 (upd H6 tq (HO.tup [.int (cst Y X:Nat), .ref st, .int (j:Nat), .ref wq, .ref wb])):=aq c5 _;have e7:upd H6 tq (HO.tup [.int (cst Y X:Nat), .ref st, .int (j:Nat), .ref wq, .ref wb]) tq=!(.tup [.int (cst Y X:Nat), .ref st, .int (j:Nat), .ref wq, .ref wb]):=aa;generalize upd H6 tq (HO.tup [.int (cst Y X:Nat), .ref st, .int (j:Nat), .ref wq, .ref wb])=H7 at s7 e7 ⊢;have u7:=s7.get (s6.get u2);apply jE u7 (by rw [Qb];show c6) ?_;symm;have hz:FkA K H7 (tq,st,wq,wb,((sq,X,rq),(sw,Y,O),(j:Int))):=#[e7,hS.same s7,(a3.same S6).same s7,(bo.same S6).same s7];show#[((as.same s6).same s7).set (by simp),by rw [au cj];show s7.get (s6.get av),by rw [au bv.symm];show s7.get (s6.get ac),#[us++[(tq,st,wq,wb,((sq,X,rq),(sw,Y,O),(j:Int)))],by rw [Jn,u1,ł,Jn,<- é,List.map_singleton,List.map_singleton,cn],by rw [aa,Jn];rfl,λ z mz=> ?_],_,_,rfl];rcases Æ.mp mz with mz | mz
     .show (((u3 z mz).same s6).same s7).app u7
     .rw [Zp.mp mz];show hz.app u7
    .rintro v H5 ⟨as,av,ac,bm,o9,d,rfl⟩;have eb:↑(T.take b)=b:=by rw [Ð];rfl'
     rw [eb] at bm;show#[as,ac,bm,by rw [Â,Qb,ö];rfl',_,_,_,_,rfl]
   .rintro v U ⟨C,F,ag,ad,o7,o8,o9,d,rfl⟩;rw [da] at ag ad;show#[C,F,ag,(),_,_,_,_,_,rfl]
  .rintro od v G ⟨ar,aw,hT,_,o6,o7,o8,o9,d,rfl⟩;rw [ë (by rw [Qb];show n6 (b0.symm) (Ä _))] at hT;apply q x G N (SH.trans (ar.off y)) (SH.free a5) hN hT
def Iu(ls:ϵ)(st:Int×Int×ϊ Nat)(w:ϴ):ϐ×Nat×(Int×Int×ϊ Nat):=(w.1,cst st.2.2 w.2.1,nu w st.2.1 st.2.2)
def SpT(K:Ϗ)(H:Hp)(a:ό)(x:ϐ×Nat×(Int×Int×ϊ Nat)):Prop:= ∃c,H a=!(.tup [.str x.1, .int (x.2.1:Nat), .ref c])/\StT K H c x.2.2
theorem SpT.same{K:Ϗ}{x:ϐ×Nat×(Int×Int×ϊ Nat)}(h:SpT K H a x)(s:Same H H'):SpT K H' a x:=by
 let#[c,b,d]:=h;show#[c,s.get b,d.same s]
def SsT(K:Ϗ)(H:Hp)(a:ό)(xs:ϊ (ϐ×Nat×(Int×Int×ϊ Nat))):Prop:= ∃zs:ϊ (ό×ϐ×Nat×(Int×Int×ϊ Nat)),zs.map (·.2)=xs/\H a=!(.lst (zs.map λ z=>V.ref z.1))/\ ∀z∈zs,SpT K H z.1 z.2
inductive sp_f46(K:Ϗ)(vs:ϊ V)(H:Hp)(Q:VK)(E:XK):Prop
 | mk (g e f:ό) (d:ϵ) (a:ϲ) (b:Int×Int×ϊ Nat) (c:ϳ) (r:Nat) (h:vs=[.ref g, .ref e, .ref f]) (i:WsT H g a) (j:H e=!(.dK (Az (Ay b.2.2 d)))) (k:StT K H f b) (l:b.1=(r:Int)) (m:a[r]? =!c) (n:(∀w∈c,Fo.lk d w.1=!w.2.1)) (o:↑c<=1000) (q: ∀p H',Same H H'->H p=none->SsT K H' p (c.map (Iu d b))->Q (.ref p) H')
abbrev Iv K(E:XK)(Eh:XK):=(aP (lF [none,!1,!2] (bN K (aN (eG K) aX (tX K bJ 0))) (ak 0) dB (dI (lY (tX K aX 0) (jx b8 (tX K aX 0)) (bA (sp_f8 K) (lY aX (tX K bJ 1) (tX K bJ 2)))))))
abbrev zb:ϊ ϐ:=sN ["ways","costs","stand"]
theorem Vh(h:sp_f46 K vs H Q E):RG (Iv K E) zb vs H Q:=by
 let#[wa,X,sa,R,ac,#[s0,J,y],l,r,rfl,#[S,U,w2,w3],o,#[sc,x,M],P,u,C,I,q]:=h;show#[E0,?_];dsimp only at x M P o;subst P;let#[w,e]: ∃w,S[r]? =!w:=#[_,Qr (by have:=(À.mp u).1;rw [<- U,Qb] at this;show this)];have A:w.2=l:=by
  have:(S.map (·.2))[r]? =!w.2:=by rw [Wp,e];rfl
  rw [U,u] at this;show(Þ this).symm
 let#[L,d,W,z2]:=w3 w (Xs e);rw [A] at d;have v:↑L=↑l:=by rw [<- d,Qb]
 apply gn x ?_;apply qQ w2 e ?_;show wQ (λ z:Wz=>V.ref z.1) (zs:=L) (SqL.of W) (d9 (n6 v I)) (λ i vs g=>(An2 (Same H g) (Ex1 λ (c:ϊ (ό×ϐ×Nat×(Int×Int×ϊ Nat)))=>(An3 (vs=c.map (λ z=>V.ref z.1)) (c.map (·.2)=(l.take i).map (Iu R ((r:Int),J,y))) (∀z∈c,SpT K g z.1 z.2))))) #[Same.refl _,[],rfl,rfl,λ z m=>(by cases m)] ?_ ?_ ?_ ?_
 .rintro i vs g ⟨b,_⟩;show SqL.of (b.get W)
 .rintro i vs g ⟨_,c,rfl,j,_⟩;have:=Ö List.length j;rw [Qb,Qb,Ð] at this;rw [Qb];show Y9 this
 .rintro i ⟨za,s,n,a⟩ vs g N ⟨b,c,rfl,j,G⟩;have t:l[i]? =!(s,n,a):=by rw [<- d,Wp,N];rfl
  have B:l.take (i+1)=l.take i++[(s,n,a)]:=by rw [Í,t];rfl
  have Z:=z2 _ (Xs N);let#[Y,v1,v2]:=id Z;dsimp only at v1 v2;have O:=C _ (Xs t);dsimp only at O;apply gn (b.get v1) ?_;apply gn (b.get v1) ?_;apply#[X,V.int (cst y n:Nat),rfl,by have:=DGet.k (k:=Sum.inr s) (b.get o);rw [z9 O] at this;show this,?_];apply dX (b.get x) ?_;apply jT (b.get x) ?_;apply#[za,sc,(s,n,a),J,y,rfl,#[Y,b.get v1,b.get v2],b.get M,λ sb H2 T ab F=> ?_];symm;intro tp f;show#[(b.trans T).new f,c++[(tp,Iu R ((r:Int),J,y) (s,n,a))],by rw [Jn];rfl,by rw [Jn,j,B,Jn];rfl,λ z mz=> ?_];rcases Æ.mp mz with mz | mz
  .show (G z mz).same (T.new f)
  .rw [Zp.mp mz];show#[sb,aa,F.same (aq f _)]
 .rintro vs g ⟨b,c,rfl,j,G⟩ p D;rw [ë (n6 (v.symm) (Ä _))] at j;show q p _ (b.new D) (b.free D) #[c,j,aa,λ z mz=>(G z mz).same (aq D _)]
abbrev Sd:=Int×Int×ϊ Nat
variable{ev:Sd->Prop}{F':Sd->Nat×Nat->Prop}{W':Nat×Nat->Sd->Prop}{B:Nat->Sd->Sd->Prop}
def iI(x:Sd):Sk:=(x.1,x.2.1,x.2.2.map λ n:Nat=>(n:Int))
theorem xf: ∀{c d:ϊ Nat},(c.map λ n:Nat=>(n:Int))=(d.map λ n:Nat=>(n:Int))->c=d
 | [],[],_=>rfl
 | [],_::_,h=>by cases h
 | _::_,[],h=>by cases h
 | x::c,y::d,h=>by
  rw [Ç,Ç] at h;injection h with h1 h2
  rw [xf h2,show x=y by show PN h1]
theorem uH{x y:Sd}(h:iI x=iI y):x=y:=by
 let#[a,b,c]:=x;let#[d,e,f]:=y;have g:a=d:=Ö (λ z:Sk=>z.1) h;have i:b=e:=Ö (λ z:Sk=>z.2.1) h;have j:c=f:=xf (Ö (λ z:Sk=>z.2.2) h);rw [g,i,j]
theorem StT.a{K:Ϗ}{a:ό}{b:Sd}(h:StT K H a b):uY H a (iI b):=by
 let#[c,d,e]:=h;show#[c,d,by rw [e];unfold nv iI;rw [Å];rfl]
theorem StT.keep{K:Ϗ}{p:ό}{k:Sd}(h:StT K H b k)(e:H p=!o)(f: ∀l,o≠ .tup l):StT K (upd H p o') b k:=by
 let#[c,a,d]:=h;show#[c,by rw [au (fj a e λ z=>f _ z.symm)];show a,by rw [au (fj d e λ z=>f _ z.symm)];show d]
theorem SsT.same{K:Ϗ}{b:ϊ (ϐ×Nat×Sd)}(h:SsT K H a b)(s:Same H H'):SsT K H' a b:=by
 let#[g,c,d,e]:=h;show#[g,c,s.get d,λ z f=>(e z f).same s]
theorem SsT.keep{K:Ϗ}{p:ό}(h:SsT K H a f)(e:H p=!o)(d: ∀l,o≠ .tup l)(n:a≠p):SsT K (upd H p o') a f:=by
 let#[q,i,j,k]:=h;show#[q,i,by rw [au n];show j,λ z m=> ?_];let#[c,b,g]:=k z m;show#[c,by rw [au (fj b e λ z=>d _ z.symm)];show b,g.keep e d]
def vd(ys:ϊ Nat):ϊ Key:=ys.map λ n:Nat=>(Sum.inl (n:Int):Key)
theorem zc(a:ϊ Nat):(vd a).map kV=nv a:=by unfold vd nv;rw [Å];rfl
theorem uI: ∀{c d:ϊ Nat},vd c=vd d->c=d
 | [],[],_=>rfl
 | [],_::_,h=>by cases h
 | _::_,[],h=>by cases h
 | x::c,y::d,h=>by
  unfold vd at h;rw [Ç,Ç] at h;injection h with a h2
  have a:=Sum.inl.inj a;rw [uI h2,show x=y by show PN a]
theorem Iw{b:ϊ Nat}: ∀{cs:ϊ (ϊ Nat×ό)},b∈cs.map (·.1)-> ∃a,(b,a)∈cs/\bM (cs.map λ c=>(vd c.1,V.ref c.2)) (vd b)=!(V.ref a)
 | c::cs,m=>by
  rw [Ç];by_cases e:c.1=b
  .show #[c.2,by rw [<- e];show Ë,by rw [cJ (by rw [e])]]
  .obtain ⟨a,d,f⟩:=Iw (cs:=cs) (by rcases È.mp m with z | z;show absurd z.symm e;show z);show⟨a,É _ d,by rw [bY (λ z=>e (uI z))];show f⟩
theorem Ba: ∀{cs:ϊ (ϊ Nat×ό)},a∉cs.map (·.1)->bM (cs.map λ c=>(vd c.1,V.ref c.2)) (vd a)=none
 | [],_=>rfl
 | c::cs,m=>by
  rw [Ç,bY (λ z=>m (by rw [Ç,uI z];show Ë))];show Ba λ z=>m (É _ z)
abbrev Uz:=(ό×ϐ×Nat×Sd)×ό
theorem zf{K:Ϗ}{H:Hp}: ∀{us:ϊ (ό×ϐ×Nat×Sd)},(∀z∈us,SpT K H z.1 z.2)-> ∃ps:ϊ Uz,ps.map (·.1)=us/\ ∀p∈ps,H p.1.1=!(.tup [.str p.1.2.1, .int (p.1.2.2.1:Nat), .ref p.2])/\StT K H p.2 p.1.2.2.2
 | [],_=>#[[],rfl,λ p m=>(by cases m)]
 | u::us,h=>by
  let#[ps,d,e]:=zf λ z f=>h z (É _ f)
  let#[c,a,b]:=h u Ë;show#[(u,c)::ps,by rw [Ç,d],λ p mp=> ?_];rcases È.mp mp with rfl | mp
  .show #[a,b]
  .show e p mp
def Nf(wss:ϲ)(st:Sd):ϊ Sd:=(wss.getD st.1.toNat []).map λ w=>nu w st.2.1 st.2.2
def lW(z:(ϴ)×(ϴ)×Int):Sd:=nu z.1 z.2.1.2.2 z.2.1.2.1
def Iz(wss:ϲ)(N:Nat):ϊ Sd:=(nO wss (cL wss N)).map lW
def InU(n:Nat)(ls:ϵ)(x:Sd):Prop:=(0<=x.1/\x.1<n)/\(0<=x.2.1/\x.2.1<n)/\ ∃p∈ls,∃d,d<9/\x.2.2=p.2.drop d
def UL(n:Nat)(ls:ϵ):ϊ Sd:=(List.range n).flatMap λ a:Nat=>(List.range n).flatMap λ b:Nat=>ls.flatMap λ p=>(List.range 9).map λ d:Nat=>((a:Int),(b:Int),p.2.drop d)
theorem uJ{a b:Type}(f:a->ϊ b)(k:Nat)(h: ∀x,↑(f x)=k): ∀l:ϊ a,↑(l.flatMap f)=↑l*k
 | []=>by simp
 | x::l=>by rw [ĭ,Â,h,uJ f k h l,è,Nat.add_mul,Nat.one_mul,ķ]
theorem IK(n:Nat)(c:ϵ):↑(UL n c)=n*n*(↑c*9):=by
 unfold UL;rw [uJ _ (n*(↑c*9)) λ a=>by rw [uJ _ (↑c*9) λ b=>by rw [uJ _ 9 λ p=>by rw [Qb,ö]],ö],ö,Nat.mul_assoc]
theorem InU.mem{b:ϵ}{x:Sd}(h:InU n b x):x∈UL n b:=by
 let#[#[a,c],#[f,j],p,i,d,g,e]:=h;show ï.mpr #[x.1.toNat,í.mpr (Y8 a c),ï.mpr #[x.2.1.toNat,í.mpr (),ï.mpr #[p,i,Zs.mpr #[d,í.mpr g,?_]]]];rw [<- e,Ě a,Ě f]
def WOk(ls:ϵ)(n:Nat)(wss:ϲ):Prop:= ∀ws∈wss,∀w∈ws,((w.1,w.2.1)∈ls/\1<=↑w.2.1/\↑w.2.1<=8)/\0<=w.2.2/\w.2.2<n
theorem WOk.at{b:ϵ}{n:Nat}(h:WOk b n a){r:Nat}{w:ϴ}(m:w∈a.getD r []):((w.1,w.2.1)∈b/\1<=↑w.2.1/\↑w.2.1<=8)/\0<=w.2.2/\w.2.2<n:=by
 by_cases c:r<↑a
 .rw [Yf,Qr c] at m;show h _ (Ï c) w m
 .rw [Yf,ß (GC c)] at m
  cases m
theorem IV{b:ϵ}(g:((w.1,w.2.1)∈b/\1<=↑w.2.1/\↑w.2.1<=8)/\0<=w.2.2/\w.2.2<n){a:Int}(e:0<=a/\a<n)(h: ∃p∈b,↑p.2<=8/\ ∃d,f=p.2.drop d):InU n b (nu w a f):=by
 let#[#[m,k,i],r]:=g;let#[p,j,l,d,rfl]:=h;unfold nu;split
 .rename_i c;rw [ì] at c;show#[r,e,p,j,d+↑w.2.1,(),by change(p.2.drop d).drop _=_;rw [List.drop_drop]]
 .rename_i c;show#[e,r,_,m,↑(p.2.drop d),Ô (qnT c) (d9 i),rfl]
theorem Vi(f: ∀p∈a,↑p.2<=8)(h:WOk a n wss)(x y:Sd)(g:InU n a x)(m:y∈Nf wss x):InU n a y:=by
 let#[w,i,rfl]:=Zs.mp m;let#[_,c,p,b,d,_,e]:=g;show IV (h.at i) c #[p,b,f p b,d,e]
theorem Vj{i:ϵ}(h:WOk i n wss)(N:Nat)(x:Sd)(m:x∈Iz wss N):InU n i x:=by
 let#[z,s,rfl]:=Zs.mp m;let#[r,_,q]:=ï.mp s;let#[b,p,o]:=ï.mp q;let#[a,d,rfl]:=Zs.mp o;have e:=í.mp p;have d:=í.mp d;have g: ∀k,k<↑(wss.getD r.toNat [])->(wss.getD r.toNat []).getD k default∈wss.getD r.toNat []:=by
  generalize wss.getD r.toNat []=l;intro k f;rw [Yf,Qr f];show Ï f
 have j:=h.at (g a (Ô d (ñ e)));have c:=h.at (g b e);show IV j c.2 #[_,c.1.1,c.1.2.2,0,rfl]
def YQ(ls:ϵ)(ds:L2S):Prop:=0<↑ds/\↑ds<=50/\(∀ps∈ds,↑ps<=42/\ ∀p∈ps,0<=p.2/\p.2<↑ds)/\↑ds*↑ds*(↑ls*9)<=20000
theorem Bb{h:Nat}(k:Fo.Wf h a)(j:YQ a ds):WOk a ↑ds (ds.map (aF a)):=λ m e w i=>by
 let#[f,d,rfl]:=Zs.mp e;let#[p,c,g]:=î.mp (show w∈f.filterMap _ from i);let#[l,b,rfl]:=Î.mp g;have:=Fo.cH b;show#[#[this,k.c1 _ this],(j.2.2.1 f d).2 p c]
abbrev Gz:=ό×Sd×ό
variable{zs:ϊ Gz}
def cP(zs:ϊ Gz):ϊ (ό×Sk×V):=zs.map λ z:Gz=>(z.1,iI z.2.1,V.ref z.2.2)
def GzT(K:Ϗ)(H:Hp)(ls:ϵ)(wss:ϲ)(z:Gz):Prop:=StT K H z.1 z.2.1/\SsT K H z.2.2 ((wss.getD z.2.1.1.toNat []).map (Iu ls z.2.1))
theorem GzT.same{K:Ϗ}(h:GzT K H a wss z)(s:Same H H'):GzT K H' a wss z:=#[h.1.same s,h.2.same s]
theorem zg{K:Ϗ}{b:ϵ}(h: ∀z∈zs,GzT K H b wss z): ∀p∈cP zs,uY H p.1 p.2.1:=λ p c=>by
 let#[z,d,rfl]:=Zs.mp c;show(h z d).1.a
theorem jH{x:Sd}(h:x∉zs.map (·.2.1)):dC (cP zs) (iI x)=none:=sY.mpr λ m=>by
 unfold cP at m;rw [Å] at m;let#[z,a,e]:=Zs.mp m;show h (Zs.mpr #[z,a,uH e])
theorem qj{x:Sd}(h:x∈zs.map (·.2.1)): ∃v,dC (cP zs) (iI x)=!v:=Ho (by
 unfold cP;rw [Å];let#[z,a,e]:=Zs.mp h;show Zs.mpr #[z,a,by rw [<- e];rfl])
theorem uK(d: ∀ws∈a,↑ws<=42): ∀rs:ϊ Int,↑(nO a rs)<=↑rs*1764
 | []=>by simp [nO]
 | r :: rs => by
  have b:=uK d rs;unfold nO at b ⊢;rw [ĭ,Â,è];have i:↑(YM a r)<=1764:=by
   unfold YM;have f:↑(a.getD r.toNat [])<=42:=by
    by_cases c:r.toNat<↑a
    .rw [Yf,Qr c];show d _ (Ï c)
    .rw [Yf,ß (GC c)];simp
   have e: ∀(m:Nat)(g:Nat->Nat->(ϴ)×(ϴ)×Int),m<=42->↑((List.range m).flatMap λ j=>(List.range j).map λ k=>g j k)<=m*42:=by
    intro m g h;induction m with
    | zero=>simp
    | succ m b=>
     rw [ł,Δ,Â,ρ,Qb,ö];have:=b (ñ h);rfl'
   have:=e _ (λ j k=>((a.getD r.toNat []).getD k default,(a.getD r.toNat []).getD j default,r)) f;rfl'
  rfl'
inductive sp_f36(K:Ϗ)(vs:ϊ V)(H:Hp)(Q:VK)(E:XK):Prop
 | mk (f c:ό) (h:Nat) (a:ϵ) (b:L2S) (d:ϊ Int) (e:vs=[.ref f, .ref c]) (g:FnF K H f h a) (i:Fo.Wf h a) (j:HsG K H c b d) (k:YQ a b) (l: ∀r H' N (zs:ϊ Gz),Same H H'->H r=none->↑(cL (b.map (aF a)) N)<=N->H' r=!(cD r (cP zs))->(∀z∈zs,GzT K H' a (b.map (aF a)) z)->↑zs<=20000->(zs.map (·.2.1)).Nodup->(∀x,x∈zs.map (·.2.1)↔Mm.Rch (Iz (b.map (aF a)) N) (Nf (b.map (aF a))) x)->Q (.ref r) H')
abbrev IW K:=(aA (bf (tB (nR (tX K jV 2) cF)) (jY cF (tX K jV 2) (bA (sp_f30 K) (bK aX (tX K jV 2)))) aV)
  (aA (Ae d7 jV (bA (sp_f46 K) (lY bJ (jx cF (tX K jV 2)) jV)))
  (cT (qx K "list" lB gw (cM (lF [none] (bN K (mZ d7 jV)) (ak 0) dB (tX K aX 2)))))))
abbrev J0 K:=(aA (aJ Ad (ak 4))
  (aA (aJ (lF [none] (bN K (bA (sp_f67 K) (bK aX bJ))) (ak 0) dB (tX K aX 1)) (ak 5))
  (aA (gP (aU (aN qK (dF K gw) (tI 0))) (aA (aJ (NT K "list" Tj gw) (ak 6))
  (bf (tB (uo jV d7)) (IW K) aV)))
  (aP d7))))
abbrev J1 K(E:XK)(Eh:XK):=(aA (aJ (bA (sp_f56 K) (bK aX b8)) (ak 2))
  (aA (aJ yc (ak 3))
  (J0 K)))
abbrev uL:ϊ ϐ:=sN ["font","house","ways","costs","found","waiting","stand"]
theorem Vk(h:sp_f36 K vs H Q E):RG (J1 K E) uL vs H Q:=by
 let#[f,ha,h,U,ds,es,rfl,hF,wf,hH,sz,q]:=h;show#[E0,?_];have ah:=Bb wf sz;have cr: ∀p∈U,↑p.2<=8:=λ p mp=>(wf.c1 p mp).2
 let#[b3,a7,c5,c6]:=id sz;have ag: ∀ws∈ds.map (aF U),↑ws<=42:=λ ws ac=>by
  let#[Z,a5,rfl]:=Zs.mp ac;show Ò (ĸ ..) (c5 Z a5).1
 have b1: ∀ws∈ds.map (aF U),∀w∈ws,Fo.lk U w.1=!w.2.1:=λ ws ac w mw=>by
  let#[Z,a5,rfl]:=Zs.mp ac;let#[p,mp,ep]:=î.mp (show w∈Z.filterMap _ from mw);let#[O,ai,rfl]:=Î.mp ep;show ai
 apply#[f,ha,h,U,ds,es,rfl,hF,wf,hH,d9 a7,λ Z a5=>by have:=(c5 Z a5).1;show d9 this,λ wa H1 s1 dt hW=> ?_];have cx:↑(ds.map (aF U))=↑ds:=Qb _;generalize ds.map (aF U)=wss at ah ag hW q cx b1;rw [<- cx] at ah b3 a7 c6;symm;intro O br;symm;intro g bs;have S1:Same H1 (upd (upd H1 O (HO.dT [])) g (cD g [])):=(aq br _).new bs;have F:upd (upd H1 O (HO.dT [])) g (cD g []) O=!(.dT []):=aH bs aa;have G:upd (upd H1 O (HO.dT [])) g (cD g []) g=!(cD g []):=aa;have bi:H1 g=none:=(aq br _).free bs;generalize upd (upd H1 O (HO.dT [])) g (cD g [])=H2 at S1 F G;apply#[f,wa,h,U,wss,rfl,(hF.same s1).same S1,wf,hW.same S1,b3,d9 a7,λ ws ac=>#[by have:=ag ws ac;show d9 this,λ w mw=>#[b1 ws ac w mw,(ah ws ac w mw).2]],λ fk H3 N s3 dp hN hT=> ?_];let#[fz,cb,c8,cf]:=hT;have db:↑(cL wss N)<=↑wss:=by
  have dc: ∀k,∀r∈cL wss k,0<=r/\r<↑wss:=λ k=>fG (P:=λ r:Int=>0<=r/\r<↑wss) #[by decide,Xe b3] (λ p q' hp hq=>by
   let#[w,mw,rfl]:=Zs.mp hq;show(ah.at mw).2) k
  have:=eX (l:=cL wss N) (m:=(List.range ↑wss).map λ i:Nat=>(i:Int)) (gJ _ _ N) λ r mr=>by
   let#[h0,h1]:=dc N r mr;show Zs.mpr #[r.toNat,í.mpr (Y8 h0 h1),An h0]
  rw [Qb,ö] at this;show this
 have cn:↑fz<=88200:=by
  have h1:=uK ag (cL wss N);rw [<- cb,Qb] at h1;have:=Ş 1764 (Ò db a7);show Ò h1 this
 show GK (λ z:Fz=>V.ref z.1) (zs:=fz) (SqL.of c8) (d9 cn) (λ z:Fz=>V.ref z.2.1) ?_ λ D aw=> ?_
 .rintro i z hi A hA;let#[z1,_]:=cf z (Xs hi);apply dW (SqT.of z1) (aQ (j:=1) (v:= .ref z.2.1) rfl) hA
 have S3:=(S1.trans s3).new (o:=HO.lst (fz.map λ z:Fz=>V.ref z.2.1)) aw;have a8:upd H3 D (HO.lst (fz.map λ z:Fz=>V.ref z.2.1)) O=!(.dT []):=aH aw (s3.get F);have bb:upd H3 D (HO.lst (fz.map λ z:Fz=>V.ref z.2.1)) g=!(cD g []):=aH aw (s3.get G);have am:upd H3 D (HO.lst (fz.map λ z:Fz=>V.ref z.2.1)) D=!(.lst ((fz.map λ z:Fz=>(z.2.1,lW z.2.2.2.2)).map λ z:ό×Sd=>V.ref z.1)):=by rw [aa,Å];rfl
 have ar: ∀z∈fz.map λ z:Fz=>(z.2.1,lW z.2.2.2.2),StT K (upd H3 D (HO.lst (fz.map λ z:Fz=>V.ref z.2.1))) z.1 z.2:=λ z mz=>by
  let#[y,my,rfl]:=Zs.mp mz;show(cf y my).2.1.same (aq aw _)
 have cy:H1 D=none:=(S1.trans s3).free aw;generalize upd H3 D (HO.lst (fz.map λ z:Fz=>V.ref z.2.1))=H4 at S3 a8 bb am ar;have b9:(fz.map λ z:Fz=>(z.2.1,lW z.2.2.2.2)).map (·.2)=Iz wss N:=by rw [Å];unfold Iz;rw [<- cb,Å];rfl
 have b6:↑(fz.map λ z:Fz=>(z.2.1,lW z.2.2.2.2))<=88200:=by rw [Qb];show cn
 generalize fz.map (λ z:Fz=>(z.2.1,lW z.2.2.2.2))=fs at am ar b9 b6;symm;walk_at "ns";have bv: ∀p∈[O,g,D],H1 p=none:=λ p hp=>by
  simp only [È,å,ĥ] at hp;rcases hp with rfl | rfl | rfl
  .show br
  .show bi
  .show cy
 have SH:=s1;show q9 (λ m σ W=>(An2 (Sb [O,g,D] H1 W) (Ex4 λ (C:ϊ Gz) (fs:ϊ (ό×Sd)) (cs:ϊ (ϊ Nat×ό)) (o6:ύ V)=>(An11 (W g=!(cD g (cP C))) (∀z∈C,z.2.2≠D/\GzT K W U wss z) (W D=!(.lst (fs.map λ z:ό×Sd=>V.ref z.1))) (∀z∈fs,StT K W z.1 z.2) (W O=!(.dT (cs.map λ c=>(vd c.1,V.ref c.2)))) (∀c∈cs,W c.2=!(.dK (Az (Ay c.1 U)))) (Mm.Clo (Iz wss N) (Nf wss) (C.map (·.2.1)) (fs.map (·.2))) (↑cs<=↑C) (↑fs<=88200+42*↑C) (m=(20000-↑C)*43+↑fs) (σ=[!(.ref f),!(.ref ha),!(.ref wa),!(.ref O),!(.ref g),!(.ref D),o6]))))) _ #[Sb.of S3,[],fs,[],none,bb,λ z m=>(by cases m),am,ar,a8,λ c m=>(by cases m),by rw [b9];show Mm.Clo.start _ _,Ä _,Xc b6 _,rfl,rfl] ?_ ?_
 .rintro m σ W Nx ⟨sb,C,fs,cs,o6,a3,ax,L,cp,ai,cm,hC,a4,bk,rfl,rfl⟩ bq;have S':=sb.off bv;have b0: ∀x,Mm.Rch (Iz wss N) (Nf wss) x->InU ↑wss U x:=λ x hx=>Mm.Rch.all (Vj ah N) (Vi cr ah) hx
  have cz:↑C<=20000:=by
   have:=eX hC.nd λ x mx=>(b0 x (hC.rF x mx)).mem
   rw [IK,Qb] at this;show Ò this c6
  apply ux L ?_;apply fL (λ c1=> ?_) λ c1=> ?_
  .obtain ⟨R,⟨S,s⟩,rfl⟩: ∃(R:ϊ (ό×Sd))(y:ό×Sd),fs=R++[y]:=#[fs.dropLast,fs.getLast (λ e=>by rw [e] at c1;simp at c1),(Ń _).symm];rw [Jn] at hC L;rw [Â,â] at bk bq c1;have cw:=cp _ (Ü _ (Zp.mpr rfl));have c9: ∀z∈R,StT K W z.1 z.2:=λ z mz=>cp z (Ý _ mz)
   dsimp only at cw;have bn:=b0 s (hC.rW s (Ü _ (Zp.mpr rfl)));apply fQ (SqL.of L) ?_;apply s_pop L ?_;symm;have n1:g≠D:=jd a3 L;have n2:O≠D:=jd ai L;have n3:O≠g:=jd ai a3;have a2:=sb.set (p:=D) (o:=HO.lst (R.map λ z:ό×Sd=>V.ref z.1)) (by simp);have G:upd W D (HO.lst (R.map λ z:ό×Sd=>V.ref z.1)) g=!(cD g (cP C)):=by rw [au n1];show a3
   have F:upd W D (HO.lst (R.map λ z:ό×Sd=>V.ref z.1)) O=!(.dT (cs.map λ c=>(vd c.1,V.ref c.2))):=by rw [au n2];show ai
   have ad:upd W D (HO.lst (R.map λ z:ό×Sd=>V.ref z.1)) D=!(.lst (R.map λ z:ό×Sd=>V.ref z.1)):=aa;have nt: ∀{xs:ϊ V} l,HO.lst xs≠ .tup l:=λ l z=>by cases z
   have J: ∀z∈C,z.2.2≠D/\GzT K (upd W D (HO.lst (R.map λ z:ό×Sd=>V.ref z.1))) U wss z:=λ z mz=>#[(ax z mz).1,(ax z mz).2.1.keep L nt,(ax z mz).2.2.keep L nt (ax z mz).1]
   have Y:StT K (upd W D (HO.lst (R.map λ z:ό×Sd=>V.ref z.1))) S s:=cw.keep L nt;have af: ∀z∈R,StT K (upd W D (HO.lst (R.map λ z:ό×Sd=>V.ref z.1))) z.1 z.2:=λ z mz=>(c9 z mz).keep L nt
   have ae: ∀c∈cs,upd W D (HO.lst (R.map λ z:ό×Sd=>V.ref z.1)) c.2=!(.dK (Az (Ay c.1 U))):=λ c mc=>by rw [au (jd (cm c mc) L)];show cm c mc
   generalize upd W D (HO.lst (R.map λ z:ό×Sd=>V.ref z.1))=H5 at a2 G F ad J Y af ae ⊢;have S5:=a2.off bv;show#[g,_,rfl,SGet.of G (zg λ z mz=>(J z mz).2) Y.a,?_];by_cases m:s∈C.map (·.2.1)
   .obtain ⟨v,ev⟩:=qj m;rw [ev];symm;change if (not true)=true then _ else _
    apply bq _ _ _ (Xf rfl) #[a2,C,R,cs,_,G,J,ad,af,F,ae,hC.skip m,a4,ñ bk,rfl,rfl]
   .have ev:=jH m;rw [ev];symm;change if (not false)=true then _ else _
    rw [if_pos (show(not false)=true from rfl)];have df:↑s.2.2<=8:=by
     let#[_,_,p,mp,d,_,e]:=bn;rw [e,ì];have:=cr p mp;show Ò (Nat.sub_le _ _) this
    walk_at "ns";with_reducible show mH (λ σ H6=>(An2 (Sb [O,g,D] H1 H6) (Ex2 λ (cs:ϊ (ϊ Nat×ό)) (ca:ό)=>(An11 (H6 g=!(cD g (cP C))) (∀z∈C,z.2.2≠D/\GzT K H6 U wss z) (H6 D=!(.lst (R.map λ z:ό×Sd=>V.ref z.1))) (∀z∈R,StT K H6 z.1 z.2) (StT K H6 S s) (H6 O=!(.dT (cs.map λ c=>(vd c.1,V.ref c.2)))) (∀c∈cs,H6 c.2=!(.dK (Az (Ay c.1 U)))) (↑cs<=↑C+1) ((s.2.2,ca)∈cs) (bM (cs.map λ c=>(vd c.1,V.ref c.2)) (vd s.2.2)=!(V.ref ca)) (σ=[!(.ref f),!(.ref ha),!(.ref wa),!(.ref O),!(.ref g),!(.ref D),!(.ref S)]))))) ?_ ?_
    .rintro σ H6 ⟨c3,bo,ca,b5,ay,bd,cq,as,B,be,cj,b2,ab,rfl⟩;have S6:=c3.off bv;let#[sc,e1,e2]:=id as;let#[#[i1,i2],_,_]:=id bn;let#[r,hr]: ∃r:Nat,s.1=(r:Int):=#[s.1.toNat,()];have cv:wss[r]? =!(wss.getD s.1.toNat []):=by
      rw [hr,Ó,Yf,Qr ()];rfl
     have c0:=Xs cv;have dk:=ag _ c0;apply jT e1 ?_;apply#[O, .ref ca,rfl,by rw [<- ab];show DGet.t (k:=vd s.2.2) B (by rw [zc];show e2),?_];apply#[wa,ca,S,U,wss,s,_,r,rfl,hW.same S6,be _ b2,as,hr,cv,b1 _ c0,(),λ X H7 s7 dd ci=> ?_];symm;have I:=s7.get b5;have ce:=s7.get bd;have b4:=s7.get B;have bm:=as.same s7;have dg:X≠D:=qR bd dd;show#[g,_,rfl,SPut.of I (zg λ z mz=>(ay z mz).2.same s7) bm.a (by unfold cP;rw [Qb];rfl'),?_];rw [pZ ev];have a1: ∀{P:PySem.Heap->Prop} l,HO.ext P≠ .tup l:=λ l z=>by cases z
     have cc:cP C++[(S,iI s,V.ref X)]=cP (C++[(S,s,X)]):=by unfold cP;rw [Jn];rfl
     have c4:=(c3.same s7).set (p:=g) (o:=cD g (cP C++[(S,iI s,V.ref X)])) (by simp);have al:upd H7 g (cD g (cP C++[(S,iI s,V.ref X)])) g=!(cD g (cP C++[(S,iI s,V.ref X)])):=aa;have ap:upd H7 g (cD g (cP C++[(S,iI s,V.ref X)])) D=!(.lst (R.map λ z:ό×Sd=>V.ref z.1)):=by rw [au n1.symm];show ce
     have a9:upd H7 g (cD g (cP C++[(S,iI s,V.ref X)])) O=!(.dT (bo.map λ c=>(vd c.1,V.ref c.2))):=by rw [au n3];show b4
     have av:StT K (upd H7 g (cD g (cP C++[(S,iI s,V.ref X)]))) S s:=bm.keep I a1;have bl: ∀z∈R,StT K (upd H7 g (cD g (cP C++[(S,iI s,V.ref X)]))) z.1 z.2:=λ z mz=>((cq z mz).same s7).keep I a1
     have bg: ∀c∈bo,upd H7 g (cD g (cP C++[(S,iI s,V.ref X)])) c.2=!(.dK (Az (Ay c.1 U))):=λ c mc=>by
      have:=s7.get (be c mc);rw [au (jd this I)];show this
     have c2: ∀ {a xs},SsT K H7 a xs->a≠g:=λ h=>by
      let#[us,_,u2,_]:=h;show jd u2 I
     have M: ∀z∈C++[(S,s,X)],z.2.2≠D/\GzT K (upd H7 g (cD g (cP C++[(S,iI s,V.ref X)]))) U wss z:=λ z mz=>by
      rcases Æ.mp mz with mz | mz
      .have h7:=(ay z mz).2.same s7;show#[(ay z mz).1,h7.1.keep I a1,h7.2.keep I a1 (c2 h7.2)]
      .rw [Zp.mp mz];show#[dg,av,ci.keep I a1 (c2 ci)]
     generalize upd H7 g (cD g (cP C++[(S,iI s,V.ref X)]))=H8 at c4 al ap a9 av bl bg M ⊢;apply fQ (SqL.of ap) ?_;apply#[g, .ref X,rfl,by rw [<- Df (b:=S) (v:=V.ref X) ev];show SGet.of al (by rw [cc];show zg λ z mz=>(M z mz).2) av.a,?_];symm;let#[us,u1,u2,u3]:=(M _ (Ü _ (Zp.mpr rfl))).2.2;dsimp only at u1 u2;have dq:↑us=↑(wss.getD s.1.toNat []):=by
      have:=Ö List.length u1;rw [Qb,Qb] at this;show this
     let#[Z,ep,ct]:=zf u3;have dl:↑Z=↑us:=by rw [<- ep,Qb]
     show GK (λ p:Uz=>V.ref p.1.1) (zs:=Z) (SqL.of (by rw [u2,<- ep,Å];rfl)) () (λ p:Uz=>V.ref p.2) ?_ λ nl da=> ?_
     .rintro i p hi A hA;apply dW (SqT.of (ct p (Xs hi)).1) (aQ (j:=2) (v:= .ref p.2) rfl) hA
     have s9:Same H8 (upd H8 nl (HO.lst (Z.map λ p:Uz=>V.ref p.2))):=aq da _;have e9:upd H8 nl (HO.lst (Z.map λ p:Uz=>V.ref p.2)) nl=!(.lst (Z.map λ p:Uz=>V.ref p.2)):=aa;generalize upd H8 nl (HO.lst (Z.map λ p:Uz=>V.ref p.2))=H9 at s9 e9 ⊢;have T:=s9.get ap;apply pO T e9 (by rw [Qb,Qb];rfl') ?_;symm;have de:(Z.map λ p:Uz=>(p.2,p.1.2.2.2)).map (·.2)=Nf wss s:=by
      rw [Å];have:Z.map ((λ x:ό×Sd=>x.2)∘λ p:Uz=>(p.2,p.1.2.2.2))=(Z.map (·.1)).map (λ u:ό×ϐ×Nat×Sd=>u.2.2.2):=by rw [Å];rfl
      rw [this,ep];have:=Ö (List.map λ x:ϐ×Nat×Sd=>x.2.2) u1;rw [Å,Å] at this;show this
     show bq ((20000-↑(C++[(S,s,X)]))*43+↑(R++Z.map λ p:Uz=>(p.2,p.1.2.2.2))) _ _ ?_ #[(c4.same s9).set (by simp),C++[(S,s,X)],R++Z.map (λ p:Uz=>(p.2,p.1.2.2.2)),bo,_,by rw [au n1,<- cc];show s9.get al,λ z mz=>#[(M z mz).1,((M z mz).2.1.same s9).keep T nt,((M z mz).2.2.same s9).keep T nt (M z mz).1],by rw [aa,Jn,Å];rfl,λ z mz=> ?_,by rw [au n2];show s9.get a9,λ c mc=>by have:=s9.get (bg c mc);rw [au (jd this T)];show this,?_,by rw [Â,â];show cj,?_,rfl,rfl]
     .rw [Â,â,Â,Qb];have:↑C<20000:=by
       have h1:=eX (hC.take m).nd λ x mx=>(b0 x ((hC.take m).rF x mx)).mem
       rw [IK,Â,â,Qb] at h1;rfl'
      rfl'
     .rcases Æ.mp mz with mz | mz
      .show ((bl z mz).same s9).keep T nt
      .obtain ⟨p,mp,rfl⟩:=Zs.mp mz;show((ct p mp).2.same s9).keep T nt
     .rw [Jn,Jn,de];show hC.take m
     .rw [Â,Qb,Â,â];rfl'
    .intro Nj hJ;let#[sc,e1,e2]:=id Y;apply jT e1 ?_;apply#[O,_,rfl,DGet.t (k:=vd s.2.2) F (by rw [zc];show e2),?_];by_cases mc:s.2.2∈cs.map (·.1)
     .obtain ⟨ca,b2,ab⟩:=Iw mc;rw [ab];symm;change if (not true)=true then _ else _
      apply hJ _ _ #[a2,cs,ca,G,J,ad,af,Y,F,ae,Xc a4 _,b2,ab,rfl]
     .have bp:=Ba mc;rw [bp];symm;change if (not false)=true then _ else _
      apply jT e1 ?_;apply#[f,sc,h,U,s.2.2,rfl,((hF.same s1).same S5).t,wf,SqT.of e2,d9 df,λ ca H6 s6 dn ab=> ?_];apply jT (s6.get e1) ?_;symm;have B:=s6.get F;have a6: ∀{xs:ϊ (ϊ Key×V)} l,HO.dT xs≠ .tup l:=λ l z=>by cases z
      show#[O,_,rfl,DPut.t (k:=vd s.2.2) B (by rw [zc];show s6.get e2) (Û (by rw [Qb];show Ò a4 cz:_<=20000) (by decide)),?_];rw [dh _ bp];apply hJ _ _ #[(a2.same s6).set (by simp),cs++[(s.2.2,ca)],ca,by rw [au n3.symm];show s6.get G,λ z mz=>#[(J z mz).1,((J z mz).2.1.same s6).keep B a6,((J z mz).2.2.same s6).keep B a6 ?_],by rw [au n2.symm];show s6.get ad,λ z mz=>((af z mz).same s6).keep B a6,(Y.same s6).keep B a6,by rw [aa,Jn];rfl,λ c mc'=> ?_,by rw [Â,â];show Ė a4,by simp,by rw [Jn];show(rE _ _ _ _ bp).trans (if_pos rfl),rfl]
      .obtain ⟨us,_,u2,_⟩:=(J z mz).2.2;show jd (s6.get u2) B
      .rcases Æ.mp mc' with mc' | mc'
       .have:=s6.get (ae c mc');rw [au (jd this B)];show this
       .rw [Zp.mp mc'];rw [au (jd ab B)];show ab
  .have e0:fs=[]:=List.eq_nil_of_length_eq_zero (qn1 c1);subst e0;apply q g W N C (s1.trans S') (s1.free bi) hN a3 (λ z mz=>(ax z mz).2) cz hC.nd hC.fin
 .rintro σ H Q Q' hq ⟨v,hv,x,n,e,hl,i,j,e1,e2,k,e3,z⟩;show#[v,hv,x,n,e,hl,i,j,e1,e2,k,e3,hq _ _ z]
abbrev J2(st:Sd->ϊ (ϐ×Nat×Sd))(xs:ϊ Sd)(c:Nat)(x y:Sd):Prop:=x∈xs/\ ∃s,(s,c,y)∈st x
abbrev Rk(ls:ϵ)(wss:ϲ)(x:Sd):ϊ (ϐ×Nat×Sd):=(wss.getD x.1.toNat []).map (Iu ls x)
abbrev Bq:=ό×Nat×ό×Sd
variable{u:Bq}
def BqT(K:Ϗ)(H:Hp)(b:Bq):Prop:=H b.1=!(.tup [.int (b.2.1:Nat), .ref b.2.2.1])/\StT K H b.2.2.1 b.2.2.2
theorem gW{a b:Type}{f:a->b}: ∀{l:ϊ a}{x y:a},(l.map f).Nodup->x∈l->y∈l->f x=f y->x=y
 | z::l,x,y,h,mx,my,e=>by
  rw [Ç,û] at h;rcases È.mp mx with ex | mx<;>rcases È.mp my with ey | my
  .rw [ex,ey]
  .show absurd (Zs.mpr #[y,my,by rw [<- e,ex]]) h.1
  .show absurd (Zs.mpr #[x,mx,by rw [e,ey]]) h.1
  .show gW h.2 mx my e
theorem fO{p:ό}(s:Sb a H H1)(h:p∈a\/H p=none):Sb a H (upd H1 p o):=λ b u c e=>by
 rw [au (λ z=>by
  rcases h with h | h
  .show c (z▸h)
  .rw [z,h] at e;cases e)]
 show s b u c e
structure BkC(K:Ϗ)(H H':Hp)(ba:ό)(gz bz:ϊ Gz)(U:ό->ϊ Bq)(P:Nat->Sd->Sd->Prop)(m:Nat):Prop where
 d:H' ba=!(cD ba (cP bz))
 k:bz.map (λ b=>(b.1,b.2.1))=gz.map (λ z=>(z.1,z.2.1))
 n:(bz.map (·.2.2)).Nodup
 f: ∀b∈bz,H b.2.2=none/\b.2.2≠ba
 c: ∀b∈bz,H' b.2.2=!(.lst ((U b.2.2).map λ u=>V.ref u.1))/\(∀u∈U b.2.2,BqT K H' u)/\ ∀c x,(c,x)∈(U b.2.2).map (λ u=>(u.2.1,u.2.2.2))↔P c x b.2.1
 s:(bz.map λ b=>↑(U b.2.2)).sum<=m
theorem BqT.same{K:Ϗ}(h:BqT K H u)(s:Same H H'):BqT K H' u:=#[s.get h.1,h.2.same s]
theorem BqT.keep{K:Ϗ}{p:ό}(h:BqT K H u)(e:H p=!o)(a: ∀l,o≠ .tup l):BqT K (upd H p o') u:=
 #[by rw [au (λ z=>by have:=h.1;rw [z,e] at this;show a _ (Þ this))];show h.1,h.2.keep e a]
theorem BkC.same{K:Ϗ}(h:BkC K H H1 ba gz bz U P m)(s:Same H1 H2):BkC K H H2 ba gz bz U P m:=
 ⟨s.get h.d,h.k,h.n,h.f,λ b e=>by
  let#[a,c,d]:=h.c b e;show⟨s.get a,λ u f=>(c u f).same s,d⟩,h.s⟩
theorem BkC.imp{K:Ϗ}{a:Nat}(h:BkC K H H1 ba gz bz U P m)(j: ∀c x,∀b∈bz,P c x b.2.1↔P' c x b.2.1)(i:m<=a):BkC K H H1 ba gz bz U P' a:=
 ⟨h.d,h.k,h.n,h.f,λ b d=>by
  let#[e,f,g]:=h.c b d;show⟨e,f,λ c x=>(g c x).trans (j c x b d)⟩,Ò h.s i⟩
theorem J3{a:Type}{f:a->Nat}: ∀{l:ϊ a}{x:a},x∈l->f x<=(l.map f).sum
 | z::l,x,m=>by
  rw [Ç,ġ];rcases È.mp m with e | m
  .rw [e];show Nat.le_add_right _ _
  .have:=J3 (f:=f) m;show qsR this _
theorem Bc{d:Type}{U:ό->ϊ d}{u:d}: ∀{bz:ϊ Gz},(bz.map (·.2.2)).Nodup->(bz.map λ b=>↑(if b.2.2=a then U b.2.2++[u] else U b.2.2)).sum<=(bz.map λ b=>↑(U b.2.2)).sum+1/\(a∉bz.map (·.2.2)->(bz.map λ b=>↑(if b.2.2=a then U b.2.2++[u] else U b.2.2)).sum=(bz.map λ b=>↑(U b.2.2)).sum)
 | [],_=>#[by simp,λ _=>rfl]
 | v::bz,h=>by
  rw [Ç,û] at h;let#[f,c]:=Bc (U:=U) (u:=u) (a:=a) h.2;simp only [Ç,ġ];by_cases e:v.2.2=a
  .have:=c (by rw [<- e];show h.1);rw [if_pos e,Â,â];show#[(),λ n=>absurd (È.mpr (.inl e.symm)) n]
  .rw [if_neg e];show#[(),λ n=>by rw [c (λ m=>n (É _ m))]]
theorem BkC.add{K:Ϗ}(h:BkC K H H1 ba gz bz U P m)(A:(bz.map (·.2.1)).Nodup){b:Gz}(d:b∈bz)(t:BqT K H1 u):
  BkC K H (upd H1 b.2.2 (.lst (((U b.2.2).map λ u=>V.ref u.1)++[V.ref u.1]))) ba gz bz (λ a=>if a=b.2.2 then U a++[u] else U a) (λ c x y=>P c x y\/(c=u.2.1/\x=u.2.2.2/\y=b.2.1)) (m+1):=by
 let#[f,j,k]:=h.c b d;show#[by rw [au (Ne.symm (h.f b d).2)];show h.d,h.k,h.n,h.f,λ v g=> ?_,Ò (Bc h.n).1 (Ż h.s 1)];by_cases e:v=b
 .subst e;rw [if_pos rfl];show#[by rw [aa,Jn];rfl,λ w mw=> ?_,λ c x=> ?_]
  .rcases Æ.mp mw with mw | mw
   .show (j w mw).keep f (λ l q=>by cases q)
   .rw [Zp.mp mw];show t.keep f (λ l q=>by cases q)
  .rw [Jn,Æ,k];constructor
   .rintro (h | h)
    .show .inl h
    .rw [Ç,ď,Zp] at h;show .inr #[congrArg Prod.fst h,Ö Prod.snd h,rfl]
   .rintro (h | ⟨r,s,_⟩)
    .show .inl h
    .show .inr (by rw [r,s];simp)
 .obtain ⟨n,o,p⟩:=h.c v g;have i:v.2.2≠b.2.2:=λ z=>e (gW h.n g d z)
  rw [if_neg i];show#[by rw [au i];show n,λ w mw=>(o w mw).keep f (λ l q=>by cases q),λ c x=> ?_];rw [p];show#[.inl,λ h=>h.elim id λ h=>absurd (gW A g d h.2.2) e]
theorem BkC.key{K:Ϗ}(h:BkC K H H1 ba gz bz U P m){b:Gz}(c:b∈bz): ∃y∈gz,y.1=b.1/\y.2.1=b.2.1:=by
 have:(b.1,b.2.1)∈gz.map (λ z=>(z.1,z.2.1)):=by rw [<- h.k];show Zs.mpr #[b,c,rfl]
 let#[y,d,a]:=Zs.mp this;show#[y,d,(Prod.mk.inj a).1,(Prod.mk.inj a).2]
theorem BkC.sb{K:Ϗ}{o:ό}{x:HO}(h:BkC K H H1 ba gz bz U P m)(s:Sb [o] H1 H2)(e:H1 o=!(.frz g x)):BkC K H H2 ba gz bz U P m:=by
 have d: ∀{a:ό}{u:HO},(∀g x,u≠ .frz g x)->H1 a=!u->H2 a=!u:=λ q f=>s.get (λ m=>by
  rw [Zp.mp m,e] at f;show q _ _ (Þ f).symm) f
 show#[d (λ _ _ z=>by cases z) h.d,h.k,h.n,h.f,λ b r=> ?_,h.s];let#[i,j,k]:=h.c b r;show#[d (λ _ _ z=>by cases z) i,λ u t=> ?_,k];let#[l,c,n,p]:=j u t;show#[d (λ _ _ z=>by cases z) l,c,d (λ _ _ z=>by cases z) n,d (λ _ _ z=>by cases z) p]
theorem zj(h:(cP zs)[i]? =!z): ∃g,zs[i]? =!g/\z=(g.1,iI g.2.1,V.ref g.2.2):=by
 unfold cP at h;rw [Wp] at h
 cases e:zs[i]? with
 | none=>rw [e] at h;cases h
 | some g=>rw [e] at h;show#[g,rfl,(Þ h).symm]
theorem YS{y z:Gz}(h:(zs.map (·.2.1)).Nodup)(f:zs[i]? =!y)(g:zs[j]? =!z)(e:y.2.1=z.2.1):i=j:=by
 let#[a,b]:=À.mp f;let#[c,d]:=À.mp g;have:=(List.nodup_iff_pairwise_ne.mp h);rcases ŵ i j with l | l | l
 .show absurd (by rw [ú,ú,b,d];show e) (Β.mp h i j (by rw [Qb];show a) (by rw [Qb];show c) l)
 .show l
 .show absurd (by rw [ú,ú,b,d];show e.symm) (Β.mp h j i (by rw [Qb];show c) (by rw [Qb];show a) l)
theorem jP(f:(zs.map (·.2.1)).Nodup)(d:z∈zs):dC (cP zs) (iI z.2.1)=!(V.ref z.2.2):=by
 let#[v,c]:=qj (Zs.mpr #[z,d,rfl]);let#[b,g]:=De c;let#[y,h,a]:=Zs.mp g;have e:y=z:=gW f h d (uH (Ö (λ p:ό×Sk×V=>p.2.1) a));subst e;rw [c];show Ö some (Ö (λ p:ό×Sk×V=>p.2.2) a).symm
inductive sp_f21(K:Ϗ)(vs:ϊ V)(H:Hp)(Q:VK)(E:XK):Prop
 | mk (b:ό) (a:ϊ Gz) (c:Sd->ϊ (ϐ×Nat×Sd)) (d:vs=[.ref b]) (f:Rd H b (cD b (cP a))) (g:(∀z∈a,StT K H z.1 z.2.1/\SsT K H z.2.2 (c z.2.1)/\↑(c z.2.1)<=42)) (h:(a.map (·.2.1)).Nodup) (i:↑a<=20000) (j:(∀z∈a,∀e∈c z.2.1,e.2.2∈a.map (·.2.1))) (k: ∀od ba H' (bz:ϊ Gz) (U:ό->ϊ Bq),Sb [b] H H'->H' b=!(.frz od (cD b (cP a)))->H ba=none->BkC K H H' ba a bz U (J2 c (a.map (·.2.1))) 900000->Q (.ref ba) H')
abbrev J4 K:=(aA (cu (yx aX) (ak 2) (Ae b8 bJ (jQ iV)))
  (aA (cu (Ag aX) (ie K 2 (bD (ak 2) (bD (ak 3) iK))) (cu (bN K cF) (ie K 3 (bD (ak 4) (bD (ak 5) (bD (ak 6) iK)))) (cT (qx K "list" dM (mZ b8 jV) (cM (dI (bK gw bJ)))))))
  (aP b8)))
abbrev J5 K(E:XK)(Eh:XK):=(aA (aJ Ad (ak 1))
  (J4 K))
abbrev J6:ϊ ϐ:=sN ["onward","backward","stand","steps","sign","cost","later"]
theorem Vl(h:sp_f21 K vs H Q E):RG (J5 K E) J6 vs H Q:=by
 let#[k,t,st,rfl,hO,hG,hN,hL,hC,q]:=h;show#[E0,?_];symm;intro D Z;symm;have S0:Same H (upd H D (cD D [])):=aq Z _;have a8:Rd (upd H D (cD D [])) k (cD k (cP t)):=by
  rcases hO with e | ⟨F,e⟩
  .show .inl (S0.get e)
  .show .inr #[F,S0.get e]
 have a2:k≠D:=λ z=>by
  rcases hO with e | ⟨F,e⟩<;>(rw [z,Z] at e;cases e)
 have al: ∀{d:Hp},Sb [k] H d-> ∀{a:ό}{l:ϊ V},H a=!(.tup l)->d a=!(.tup l):=λ C a l e=>C.get (λ m=>by
  rw [Zp.mp m] at e;rcases hO with g | ⟨F,g⟩<;>(rw [g] at e;cases e)) e
 have S: ∀{d:Hp},Sb [k] H d-> ∀{a:ό}{x:Sd},StT K H a x->StT K d a x:=λ C a x h=>by
  let#[c,L,e2]:=h;show#[c,al C L,al C e2]
 have ag: ∀{d:Hp}{o:HO},Sb [k] H d->d k=!o-> ∀{p:ό},d p=none->H p=none:=λ {d o} C eo {p} M=>by
  cases e:H p with
  | none=>rfl
  | some u=>
   by_cases z:p=k
   .rw [z,eo] at M;cases M
   .rw [C.get (by simpa using z) e] at M;cases M
 show Hl a8 (λ F i I d=>(Ex1 λ (B:ϊ Gz)=>(An4 (BkC K H d D (t.take i) B (λ _=>[]) (λ _ _ _=>False) 0) (Sb [k] H d) (d k=!(.frz F (cD k (cP t)))) (Ex5 λ N O R o4 o5=>I=[!(.ref k),!(.ref D),N,O,R,o4,o5])))) ?_ ?_ ?_ ?_
 .intro F H1 C L;show#[[],#[?_,rfl,by simp,by simp,by simp,by simp],λ b o nb e=>C b o nb (S0.get e),L,_,_,_,_,_,rfl];show C.get (by simpa using Ne.symm a2) aa
 .rintro F i I d ⟨B,_,_,e,_⟩;show e
 .rintro F i z I d hi ⟨B,A,C,eo,N,O,R,o4,o5,rfl⟩;let#[g,hg,rfl]:=zj hi;have mg:=Xs hg;symm;intro p M;symm;have ab:=ag C eo M;have T:Same d (upd d p (.lst [])):=aq M _;have a9:i<↑t:=(À.mp hg).1;have a5:↑B<=20000:=by
   have:=Ö List.length A.k;rw [Qb,Qb,Ð] at this;show n6 this (Xd hL)
  have ah: ∀b∈B,StT K H b.1 b.2.1:=λ b mb=>by
   let#[y,my,ey]:=A.key mb;have:=(hG y (ħ my)).1;rw [ey.1,ey.2] at this;show this
  have ev:dC (cP B) (iI g.2.1)=none:=jH λ m=>by
   let#[b,mb,eb]:=Zs.mp m;let#[y,my,ey]:=A.key mb;let#[n,hn,bb]:=List.mem_take_iff_getElem.mp my;have h1:t[n]? =!y:=by rw [Qr (),bb]
   have:=YS hN h1 hg (ey.2.trans eb);rfl'
  show#[D,_,rfl,SPut.of (T.get A.d) (λ q mq=> ?_) ((S C (hG g mg).1).same T).a (by unfold cP;rw [Qb];show d9 a5),?_]
  .obtain ⟨b,mb,rfl⟩:=Zs.mp mq;show((S C (ah b mb)).same T).a
  rw [pZ ev];have a3:p≠D:=qR A.d M;have a6:cP B++[(g.1,iI g.2.1,V.ref p)]=cP (B++[(g.1,g.2.1,p)]):=by unfold cP;rw [Jn];rfl
  have af:t.take (i+1)=t.take i++[g]:=by rw [Í,hg];rfl
  have bk: ∀{P:PySem.Heap->Prop} l,HO.ext P≠ .tup l:=λ l z=>by cases z
  apply#[B++[(g.1,g.2.1,p)],#[by rw [aa,a6],?_,?_,λ b mb=> ?_,λ b mb=> ?_,by rw [Jn,List.sum_append];show Ò (Ż A.s _) (by simp)],fO (fO C (.inr ab)) (.inr Z),by rw [au a2];show T.get eo,_,_,_,_,_,rfl]
  .rw [af,Jn,Jn,A.k];rfl
  .rw [Jn,à];show#[A.n,by simp,λ a ma c mc e=> ?_];let#[b,mb,rfl]:=Zs.mp ma;let#[L,_]:=A.c b mb;rw [Ç,ď,Zp] at mc;rw [e,mc,M] at L;cases L
  .rcases Æ.mp mb with mb | mb
   .show A.f b mb
   .rw [Zp.mp mb];show#[ab,a3]
  .rcases Æ.mp mb with mb | mb
   .obtain ⟨L,e2,e3⟩:=A.c b mb;show#[by rw [au (A.f b mb).2];show T.get L,λ u mu=>((e2 u mu).same T).keep (T.get A.d) bk,e3]
   .rw [Zp.mp mb];show#[by rw [au a3,aa];rfl,λ u mu=>(by cases mu),λ c x=>by simp]
 .rintro F I d ⟨B,A,C,eo,N,O,R,o4,o5,rfl⟩;symm;have ad:t.take ↑(cP t)=t:=by unfold cP;rw [Qb];show Õ
  rw [ad] at A;have hk:=A.k;have av:(B.map (·.2.1)).Nodup:=by
   have:=Ö (List.map Prod.snd) hk;rw [Å,Å] at this;rw [show B.map (·.2.1)=t.map (·.2.1) from this];show hN
  have ah: ∀b∈B,StT K H b.1 b.2.1:=λ b mb=>by
   let#[y,my,ey]:=A.key mb;have:=(hG y my).1;rw [ey.1,ey.2] at this;show this
  show UG (.inr #[F,eo]) (λ F i I d=>(Ex1 λ U=>(An4 (BkC K H d D t B U (J2 st ((t.take i).map (·.2.1))) (42*i)) (Sb [k] H d) (d k=!(.frz F (cD k (cP t)))) (Ex5 λ N O R o4 o5=>I=[!(.ref k),!(.ref D),N,O,R,o4,o5])))) ?_ ?_ ?_ ?_
  .intro ac H1 G L;show#[_,(A.sb G eo).imp (λ c x b mb=>by simp) (Ä _),λ b o nb e=>G b o nb (C b o nb e),L,_,_,_,_,_,rfl]
  .rintro F i I d ⟨_,_,_,e,_⟩;show e
  .rintro ac i z p I H1 hi ⟨U,Y,G,W,N,O,R,o4,o5,rfl⟩ M;let#[g,hg,rfl]:=zj hi;have mg:=Xs hg;have ab:=ag G W M;have T:Same H1 (upd H1 p (.tup [.ref g.1, .ref g.2.2])):=aq M _;have ar:=Y.same T;have ai:Sb [k] H (upd H1 p (.tup [.ref g.1, .ref g.2.2])):=fO G (.inr ab);have am:=T.get W;show cU (SqT.of aa) rfl ?_;symm;let#[us,u1,u2,u3]:=(hG g mg).2.1;let#[ps,ep,bd]:=zf u3;have ae:ps.map (λ p:Uz=>p.1.2)=st g.2.1:=by
    rw [<- u1,<- ep,Å];rfl
   have bl:↑ps<=42:=by
    have:=Ö List.length ae;rw [Qb] at this;have:=(hG g mg).2.2;rfl'
   have bi:g.2.2≠k:=λ z=>by
    rw [z] at u2;rcases hO with e | ⟨F,e⟩<;>(rw [e] at u2;cases u2)
   have aw: ∀{d:Hp},Sb [k] H d->SqL K d g.2.2 (ps.map λ p:Uz=>V.ref p.1.1):=λ C=>SqL.of (by
    rw [C.get (by simpa using bi) u2,<- ep,Å];rfl)
   generalize upd H1 p (.tup [.ref g.1, .ref g.2.2])=H2 at ar ai am ⊢;have af:t.take (i+1)=t.take i++[g]:=by rw [Í,hg];rfl
   show cV (λ p:Uz=>V.ref p.1.1) (zs:=ps) (aw ai) (λ j I d=>(Ex1 λ U=>(An4 (BkC K H d D t B U (λ c x y=>(x∈(t.take i).map (·.2.1)/\ ∃s,(s,c,y)∈st x)\/(x=g.2.1/\ ∃s,(s,c,y)∈(ps.take j).map (λ p:Uz=>p.1.2))) (42*i+j)) (Sb [k] H d) (d k=!(.frz ac (cD k (cP t)))) (Ex3 λ N O R=>I=[!(.ref k),!(.ref D),!(.ref g.1),!(.ref g.2.2),N,O,R]))))
    #[_,ar.imp (λ c x b mb=>by simp) (Ä _),ai,am,_,_,_,rfl] ?_ ?_ ?_
   .rintro j I H3 ⟨_,_,v,_⟩;show aw v
   .rintro j u I H3 hj ⟨U,J,v,X,N,O,R,rfl⟩;let#[p1,p2]:=bd u (Xs hj);show cU (SqT.of (al v p1)) rfl ?_;symm;have bm:j<↑ps:=(À.mp hj).1;have a9:i<↑t:=(À.mp hg).1;have mu:u.1.2∈st g.2.1:=by rw [<- ae];show Zs.mpr #[u,Xs hj,rfl]
    let#[b,mb,eb]: ∃b∈B,b.2.1=u.1.2.2.2:=by
     have hm:=hC g mg _ mu;have:=Ö (List.map Prod.snd) hk;rw [Å,Å] at this;rw [<- show B.map (·.2.1)=t.map (·.2.1) from this] at hm;let#[b,mb,eb]:=Zs.mp hm;show#[b,mb,eb]
    show⟨D, .ref b.2.2,rfl,by rw [<- jP av mb,eb];show SGet.of J.d (λ q mq=>by
     let#[b',a1,rfl]:=Zs.mp mq;show(S v (ah b' a1)).a) (S v p2).a,?_⟩
    let#[v1,v2,v3]:=J.c b mb;have v4:=Ò (J3 (f:=λ b:Gz=>↑(U b.2.2)) mb) J.s;show fQ (SqL.of v1) ?_;symm;intro r hr;have be:=ag v X hr;have S4:Same H3 (upd H3 r (.tup [.int (u.1.2.2.1:Nat), .ref g.1])):=aq hr _;have as:=J.same S4;have ax:BqT K (upd H3 r (.tup [.int (u.1.2.2.1:Nat), .ref g.1])) (r,u.1.2.2.1,g.1,g.2.1):=#[aa,(S v (hG g mg).1).same S4];have ay:=S4.get v1;have a4:Sb [k] H (upd H3 r (.tup [.int (u.1.2.2.1:Nat), .ref g.1])):=fO v (.inr be);have ap:=S4.get X;generalize upd H3 r (.tup [.int (u.1.2.2.1:Nat), .ref g.1])=H4 at as ax ay a4 ap ⊢;apply jE ay (by rw [Qb];rfl') ?_;symm;have bg:k≠b.2.2:=λ z=>by
     have:=(A.f b mb).1;rw [<- z] at this;rcases hO with e | ⟨F,e⟩<;>(rw [this] at e;cases e)
    have a7:ps.take (j+1)=ps.take j++[u]:=by rw [Í,hj];rfl
    show#[_,(as.add av mb ax).imp (λ c x b' a1=> ?_) (Ä _),fO a4 (.inr (A.f b mb).1),by rw [au bg];show ap,_,_,_,rfl];rw [a7,Jn,or_assoc];show or_congr Iff.rfl ?_;simp only [Æ,Ç,ď,Zp];constructor
    .rintro (⟨h1,s,h2⟩ | ⟨h1,h2,h3⟩)
     .show #[h1,s, .inl h2]
     .show #[h2,u.1.2.1, .inr (by rw [h1,h3,eb])]
    .rintro ⟨h1,s,h2 | h2⟩
     .show .inl #[h1,s,h2]
     .have L:=Ö (λ w:ϐ×Nat×Sd=>w.2.1) h2;have e2:=Ö (λ w:ϐ×Nat×Sd=>w.2.2) h2;show .inr #[L,h1,e2.trans eb.symm]
   .rintro I H3 ⟨U,J,v,X,N,O,R,rfl⟩;apply#[U,J.imp (λ c x b mb=> ?_) (),v,X,_,_,_,_,_,rfl];change _↔(x∈(t.take (i+1)).map (·.2.1)/\ ∃s,(s,c,b.2.1)∈st x);rw [Õ,ae,af,Jn,Æ,Ç,ď,Zp,or_and_right];show or_congr Iff.rfl #[λ h=>#[h.1,by rw [h.1];show h.2],λ h=>#[h.1,by rw [<- h.1];show h.2]]
  .rintro ac I H1 ⟨U,Y,G,W,N,O,R,o4,o5,rfl⟩;symm;rw [ad] at Y;show q ac D H1 B U G W Z (Y.imp (λ _ _ _ _=>Iff.rfl) (by unfold cP;rw [Qb];rfl'))
def nA(es:ϊ Int)(st:Sd):ϑ:=decide (↑st.2.2=0)&&(decide (st.1∈es)&&decide (st.2.1∈es))
inductive sp_f52(K:Ϗ)(vs:ϊ V)(H:Hp)(Q:VK)(E:XK):Prop
 | mk (c a:ό) (d:Sd) (b:ϊ Int) (e:vs=[.ref c, .ref a]) (f:StT K H c d) (g:SqT K H a (b.map V.int)) (h:Q (.bl (nA b d)) H)
abbrev J7 K(E:XK)(Eh:XK):=(aP (jq (aN uX (dF K (tX K aX 2)) (tI 0)) (jq (aN (QL K false) (tX K aX 0) b8) (aN (QL K false) (tX K aX 1) b8))))
abbrev J8:ϊ ϐ:=sN ["stand","ends"]
theorem Vm(h:sp_f52 K vs H Q E):RG (J7 K E) J8 vs H Q:=by
 let#[k,j,a,b,rfl,#[c,f,i],g,q]:=h;show#[E0,?_];apply jT f ?_;apply cX (SqT.of i) ?_;rw [show↑(nv a.2.2)=↑a.2.2 from Qb _];symm;by_cases d:↑a.2.2=0
 .show kh (Eq.trans (qdE d) rfl) ?_;apply gn f ?_;apply Hf (.inr g) rfl (lO _) ?_;rw [nY];by_cases e:a.1∈b
  .rw [Ø e];apply dX f ?_;apply Hf (.inr g) rfl (lO _) ?_;rw [nY];have:nA b a=decide (a.2.1∈b):=by unfold nA;rw [Ø d,Ø e];rfl
   rw [<- this];show q
  .rw [Ú e];symm;have:nA b a=false:=by unfold nA;rw [Ø d,Ú e];rfl
   rw [<- this];show q
 .show iD () ?_;have:nA b a=false:=by unfold nA;rw [Ú d];rfl
  rw [<- this];show q
abbrev Qz:=(Ϻ)×ό×ϊ (ό×Sd)
def jk(k:Ϻ):ϊ Key:=[Sum.inl (k.1:Int),Sum.inl (k.2:Int)]
theorem uM(h:jk k=jk l):k=l:=by
 let#[a,b]:=k;let#[c,d]:=l;unfold jk at h;injection h with h1 h2
 injection h2 with h3 _
 injection h1 with h1
 injection h3 with h3
 dsimp only at h1 h3;rw [show a=c by show PN h1,show b=d by show PN h3]
def mK(ws:ϊ Qz):ϊ (ϊ Key×V):=ws.map λ w=>(jk w.1,V.ref w.2.1)
structure WtT(K:Ϗ)(H:Hp)(wa:ό)(ws:ϊ Qz):Prop where
 d:H wa=!(.dT (mK ws))
 l: ∀w∈ws,H w.2.1=!(.lst (w.2.2.map λ z=>V.ref z.1))
 n:(ws.map (·.2.1)).Nodup
 k:(ws.map (·.1)).Nodup
 s: ∀w∈ws,∀z∈w.2.2,StT K H z.1 z.2
def Wait(ws:ϊ Qz)(k:Ϻ)(x:Sd):Prop:= ∃w∈ws,w.1=k/\x∈w.2.2.map (·.2)
def xg(ws:ϊ Qz)(k:Ϻ)(z:ό×Sd):ϊ Qz:=ws.map λ w=>if w.1=k then (w.1,w.2.1,w.2.2++[z]) else w
theorem Vn(a:ϊ Qz)(k:Ϻ)(z:ό×Sd):mK (xg a k z)=mK a:=by
 unfold mK xg;rw [Å];show ÿ λ w _=> ?_
 change(jk (if w.1=k then (w.1,w.2.1,w.2.2++[z]) else w).1,V.ref (if w.1=k then (w.1,w.2.1,w.2.2++[z]) else w).2.1)=_;split<;>rfl
theorem mL(a:ϊ Qz)(k:Ϻ)(z:ό×Sd):(xg a k z).map (·.1)=a.map (·.1)/\(xg a k z).map (·.2.1)=a.map (·.2.1):=by
 unfold xg;rw [Å,Å];show#[List.map_congr_left λ w _=>by change(if w.1=k then (w.1,w.2.1,w.2.2++[z]) else w).1=_;split<;>rfl,ÿ λ w _=>by change(if w.1=k then (w.1,w.2.1,w.2.2++[z]) else w).2.1=_;split<;>rfl]
theorem Dk{b:ϊ Qz}(h:k∈b.map (·.1))(l:Ϻ)(x:Sd):Wait (xg b k z) l x↔Wait b l x\/(l=k/\x=z.2):=by
 constructor
 .rintro ⟨w,a,rfl,mx⟩;let#[v,c,rfl]:=Zs.mp a;by_cases e:v.1=k
  .rw [if_pos e] at mx ⊢;rw [Jn,Æ] at mx;rcases mx with mx | mx
   .show .inl #[v,c,rfl,mx]
   .show .inr #[e,by simpa using mx]
  .rw [if_neg e] at mx ⊢;show .inl #[v,c,rfl,mx]
 .rintro (⟨w,a,rfl,mx⟩ | ⟨rfl,rfl⟩)
  .show #[_,Zs.mpr #[w,a,rfl],?_,?_]
   .split<;>rfl
   .split
    .rw [Jn,Æ];show .inl mx
    .show mx
  .obtain ⟨w,a,rfl⟩:=Zs.mp h;show#[_,Zs.mpr #[w,a,rfl],by rw [if_pos rfl],by rw [if_pos rfl,Jn];simp]
theorem ou{k:Ϻ}: ∀{ws:ϊ Qz}{w:Qz},(ws.map (·.1)).Nodup->w∈ws->w.1=k->bM (mK ws) (jk k)=!(V.ref w.2.1)
 | v::ws,w,hn,m,e=>by
  rw [Ç,û] at hn;change bM ((jk v.1,V.ref v.2.1)::mK ws) (jk k)=_;by_cases h:v.1=k
  .rcases È.mp m with rfl | m
   .rw [h];simp [bM]
   .show absurd (Zs.mpr #[w,m,e.trans h.symm]) hn.1
  .rcases È.mp m with rfl | m
   .show absurd e h
   .have:=ou hn.2 m e;rw [<- this];have a:jk v.1≠jk k:=λ z=>h (uM z)
    simp [bM,a]
theorem xj{k:Ϻ}: ∀{ws:ϊ Qz},k∉ws.map (·.1)->bM (mK ws) (jk k)=none
 | [],_=>rfl
 | v::ws,h=>by
  rw [Ç,È,not_or] at h;change bM ((jk v.1,V.ref v.2.1)::mK ws) (jk k)=_;have:=xj h.2;rw [<- this];have a:jk v.1≠jk k:=λ z=>h.1 (uM z).symm
  simp [bM,a]
inductive sp_f49(K:Ϗ)(vs:ϊ V)(H:Hp)(Q:VK)(E:XK):Prop
 | mk (e g f:ό) (c:ϊ Qz) (r:Ϻ) (d:ϊ Bq) (h:vs=[.ref e, .ref g, .ref f]) (i:WtT K H e c) (j:H g=!(.tup [.int (r.1:Nat), .int (r.2:Nat)])) (k:H f=!(.lst (d.map λ b=>V.ref b.1))) (n:f∉c.map (·.2.1)) (o:(∀b∈d,BqT K H b)) (p:↑c+↑d<=1000000) (q:(∀w∈c,↑w.2.2+↑d<=1000000)) (s: ∀H' (a:ϊ Qz),WtT K H' e a->Sb (e::c.map (·.2.1)) H H'->(∀w∈a,w.2.1∈c.map (·.2.1)\/H w.2.1=none)->(∀l x,Wait a l x↔Wait c l x\/ ∃b∈d,l=(r.1+b.2.1,r.2+1)/\x=b.2.2.2)->↑a<=↑c+↑d->(∀m,(∀w∈c,↑w.2.2<=m)-> ∀w∈a,↑w.2.2<=m+↑d)->Q .non H')
abbrev J9 K(E:XK)(Eh:XK):=(cu (bN K bJ) (ie K 2 (bD (ak 3) (bD (ak 4) iK))) (cT (qx K "list" dM (Gn aX (dI (bK (aN bZ (tX K b8 0) cF) (aN bZ (tX K b8 1) (tI 1)))) (jQ iV)) (cM d7))))
abbrev Ja:ϊ ϐ:=sN ["waiting","rest","backs","cost","earlier"]
theorem Vo(h:sp_f49 K vs H Q E):RG (J9 K E) Ja vs H Q:=by
 let#[t,ra,ba,u,r,C,rfl,hw,hr,hb,nb,hB,ah,ab,q]:=h;show#[E0,?_];symm;have Z: ∀{j:Hp},Sb (t::u.map (·.2.1)) H j-> ∀{a:ό}{l:ϊ V},H a=!(.tup l)->j a=!(.tup l):=λ s a l e=>s.get (λ m=>by
  rcases È.mp m with rfl | m
  .rw [hw.d] at e;cases e
  .obtain ⟨w,mw,rfl⟩:=Zs.mp m;rw [hw.l w mw] at e;cases e) e
 have ad:ba≠t:=jd hb hw.d;have I: ∀{j:Hp},Sb (t::u.map (·.2.1)) H j->j ba=!(.lst (C.map λ b=>V.ref b.1)):=λ s=>s.get (λ m=>(È.mp m).elim ad nb) hb
 show cV (λ b:Bq=>V.ref b.1) (zs:=C) (SqL.of hb) (λ i σ j=>(Ex1 λ (g:ϊ Qz)=>(An8 (WtT K j t g) (Sb (t::u.map (·.2.1)) H j) (∀w∈g,w.2.1∈u.map (·.2.1)\/H w.2.1=none) (∀l x,Wait g l x↔Wait u l x\/ ∃b∈C.take i,l=(r.1+b.2.1,r.2+1)/\x=b.2.2.2) (↑g<=↑u+i) (∀m,(∀w∈u,↑w.2.2<=m)-> ∀w∈g,↑w.2.2<=m+i) (∀w∈u,w.2.1∈g.map (·.2.1)) (Ex2 λ o1 o2=>σ=[!(.ref t),!(.ref ra),!(.ref ba),o1,o2]))))
  #[u,hw,Sb.of (Same.refl _),λ w m=> .inl (Zs.mpr #[w,m,rfl]),λ l x=>by simp,Ä _,λ m h w mw=>h w mw,λ w m=>Zs.mpr #[w,m,rfl],none,none,rfl] ?_ ?_ ?_
 .rintro i σ j ⟨g,_,s,_⟩;show SqL.of (I s)
 .rintro i b σ j hi ⟨g,f,s,R,O,hn,U,A,o1,o2,rfl⟩;let#[b1,b2]:=hB b (Xs hi);have ag:i<↑C:=(À.mp hi).1;show cU (SqT.of (Z s b1)) rfl ?_;apply#[t,rfl, .inr #[_, .inl f.d],?_];apply gn (Z s hr) ?_;apply dX (Z s hr) ?_;symm;intro p hp;symm;intro d hd;symm;have ek:((r.1:Int)+(b.2.1:Int))=((r.1+b.2.1:Nat):Int)/\((r.2:Int)+1)=((r.2+1:Nat):Int):=#[rfl,rfl];rw [ek.1,ek.2] at hd ⊢;have Sp:Same j (upd j p (.tup [.int ((r.1+b.2.1:Nat):Int), .int ((r.2+1:Nat):Int)])):=aq hp _;have S:=Sp.new (o:= .lst []) hd;have ac:p≠d:=aY aa hd;have n:j d=none:=Sp.free hd;have P:H d=none:=by
   cases e:H d with
   | none=>rfl
   | some o=>
    exfalso;by_cases m:d∈t::u.map (·.2.1)
    .rcases È.mp m with z | m
     .rw [z,f.d] at n;cases n
     .obtain ⟨w,mw,rfl⟩:=Zs.mp m;let#[v,mv,ev]:=Zs.mp (A w mw);have:=f.l v mv;rw [show v.2.1=w.2.1 from ev,n] at this
      cases this
    .rw [s.get m e] at n;cases n
  have hE:StT K j b.2.2.1 b.2.2.2:=by
   let#[c,e1,e2]:=b2;show#[c,Z s e1,Z s e2]
  have N:C.take (i+1)=C.take i++[b]:=by rw [Í,hi];rfl
  show#[mK g,jk (r.1+b.2.1,r.2+1),p,S.get f.d,rfl,by rw [au ac,aa];rfl,Û (show↑(mK g)<=1000000 by unfold mK;rw [Qb];rfl') (by decide),λ v G=> ?_,λ G=> ?_]
  .obtain ⟨w,mw,M⟩: ∃w∈g,w.1=(r.1+b.2.1,r.2+1):=by
    by_cases m:(r.1+b.2.1,r.2+1)∈g.map (·.1)
    .show Zs.mp m
    .rw [xj m] at G;cases G
   rw [ou f.k mw M] at G
   cases G;have L:=S.get (f.l w mw);have T:↑w.2.2<=1000000:=by
    have:=U (1000000-↑C) (λ v mv=>by have:=ab v mv;rfl') w mw;rfl'
   show fQ (SqL.of L) ?_;apply jE L (by rw [Qb];show T) ?_;symm;have af:t≠w.2.1:=λ z=>by rw [<- z,S.get f.d] at L;cases L
   show#[xg g (r.1+b.2.1,r.2+1) (b.2.2.1,b.2.2.2),#[?_,?_,by rw [(mL ..).2];show f.n,by rw [(mL ..).1];show f.k,?_],fO (s.same S) ((R w mw).imp_left (É _)),?_,?_,by unfold xg;rw [Qb];show Ò hn (ñ (Xf rfl)),?_,λ v mv=>by rw [(mL ..).2];show A v mv,_,_,rfl]
   .rw [au af,Vn];show S.get f.d
   .intro v mv;let#[v0,k,rfl]:=Zs.mp mv;by_cases e:v0.1=(r.1+b.2.1,r.2+1)
    .rw [if_pos e];have:v0=w:=gW f.k k mw (e.trans M.symm);subst this;change upd _ v0.2.1 _ v0.2.1=_;rw [aa,Jn];rfl
    .rw [if_neg e,au (λ z=>e (by rw [gW f.n k mw z];show M))];show S.get (f.l v0 k)
   .intro v mv z mz;let#[v0,k,rfl]:=Zs.mp mv;have Y: ∀z∈v0.2.2,StT K (upd (upd (upd j p (.tup [.int ((r.1+b.2.1:Nat):Int), .int ((r.2+1:Nat):Int)])) d (.lst [])) w.2.1 (.lst ((w.2.2.map λ z=>V.ref z.1)++[V.ref b.2.2.1]))) z.1 z.2:=λ z mz=>((f.s v0 k z mz).same S).keep L (λ l q=>by cases q)
    by_cases e:v0.1=(r.1+b.2.1,r.2+1)
    .rw [if_pos e] at mz;rcases Æ.mp mz with mz | mz
     .show Y z mz
     .rw [Zp.mp mz];show(hE.same S).keep L (λ l q=>by cases q)
    .rw [if_neg e] at mz;show Y z mz
   .intro v mv;let#[v0,k,rfl]:=Zs.mp mv;have e:(if v0.1=(r.1+b.2.1,r.2+1) then (v0.1,v0.2.1,v0.2.2++[(b.2.2.1,b.2.2.2)]) else v0).2.1=v0.2.1:=by split<;>rfl
    rw [e];show R v0 k
   .intro l x;rw [Dk (Zs.mpr #[w,mw,M]),O,N];simp only [Æ,Zp];constructor
    .rintro ((h | ⟨c,J,h⟩) | h)
     .show .inl h
     .show .inr #[c, .inl J,h]
     .show .inr #[b, .inr rfl,h]
    .rintro (h | ⟨c,J | rfl,h⟩)
     .show .inl (.inl h)
     .show .inl (.inr #[c,J,h])
     .show .inr h
   .intro m F v mv;let#[v0,k,rfl]:=Zs.mp mv;have:=U m F v0 k;split
    .show ↑(v0.2.2++[_])<=_;rw [Â,â];show qfL (Ė this) rfl
    .rfl'
  .have nk:(r.1+b.2.1,r.2+1)∉g.map (·.1):=λ m=>by
    let#[w,mw,M]:=Zs.mp m;rw [ou f.k mw M] at G
    cases G
   have W:t≠d:=λ z=>by rw [<- z,f.d] at n;cases n
   have D:upd (upd (upd j p (.tup [.int ((r.1+b.2.1:Nat):Int), .int ((r.2+1:Nat):Int)])) d (.lst [])) t (.dT (mK g++[(jk (r.1+b.2.1,r.2+1),V.ref d)])) d=!(.lst []):=by rw [au (Ne.symm W),aa]
   show fQ (SqL.of D) ?_;apply jE D (æ _) ?_;symm;have nd:d∉g.map (·.2.1):=λ m=>by
    let#[v,mv,ev]:=Zs.mp m;have:=f.l v mv;rw [show v.2.1=d from ev,n] at this
    cases this
   have st: ∀{a:ό}{x:Sd},StT K j a x->StT K (upd (upd (upd (upd j p (.tup [.int ((r.1+b.2.1:Nat):Int), .int ((r.2+1:Nat):Int)])) d (.lst [])) t (.dT (mK g++[(jk (r.1+b.2.1,r.2+1),V.ref d)]))) d (.lst ([]++[V.ref b.2.2.1]))) a x:=λ h=>((h.same S).keep (S.get f.d) (λ l q=>by cases q)).keep D (λ l q=>by cases q)
   show#[g++[((r.1+b.2.1,r.2+1),d,[(b.2.2.1,b.2.2.2)])],#[?_,?_,?_,?_,?_],fO (fO (s.same S) (.inl Ë)) (.inr P),?_,?_,by rw [Â,â];show qfL (Ė hn) rfl,?_,λ v mv=>by rw [Jn];show Ý _ (A v mv),_,_,rfl]
   .rw [au W,aa];unfold mK;rw [Jn];rfl
   .intro v mv;rcases Æ.mp mv with mv | mv
    .have e1:=f.l v mv;have n1:v.2.1≠d:=λ z=>nd (Zs.mpr #[v,mv,z])
     have n2:v.2.1≠t:=jd e1 f.d;rw [au n1,au n2];show S.get e1
    .rw [Zp.mp mv];show aa
   .rw [Jn,à];show#[f.n,by simp,λ x B y X e=>nd (by rw [Ç,ď,Zp] at X;have:x=d:=e.trans X;rw [<- this];show B)]
   .rw [Jn,à];show#[f.k,by simp,λ x B y X e=>nk (by rw [Ç,ď,Zp] at X;have:x=(r.1+b.2.1,r.2+1):=e.trans X;rw [<- this];show B)]
   .intro v mv z mz;rcases Æ.mp mv with mv | mv
    .show st (f.s v mv z mz)
    .rw [Zp.mp mv] at mz;rw [Zp.mp mz];show st hE
   .intro v mv;rcases Æ.mp mv with mv | mv
    .show R v mv
    .rw [Zp.mp mv];show .inr P
   .intro l x;have ae:Wait (g++[((r.1+b.2.1,r.2+1),d,[(b.2.2.1,b.2.2.2)])]) l x↔Wait g l x\/(l=(r.1+b.2.1,r.2+1)/\x=b.2.2.2):=by
     constructor
     .rintro ⟨w,mw,rfl,B⟩;rcases Æ.mp mw with mw | mw
      .show .inl #[w,mw,rfl,B]
      .rw [Zp.mp mw] at B ⊢;show .inr #[rfl,by simpa using B]
     .rintro (⟨w,mw,rfl,B⟩ | ⟨rfl,rfl⟩)
      .show #[w,Ý _ mw,rfl,B]
      .show #[_,Ü _ (Zp.mpr rfl),rfl,by simp]
    rw [ae,O,N];simp only [Æ,Zp];constructor
    .rintro ((h | ⟨c,J,h⟩) | h)
     .show .inl h
     .show .inr #[c, .inl J,h]
     .show .inr #[b, .inr rfl,h]
    .rintro (h | ⟨c,J | rfl,h⟩)
     .show .inl (.inl h)
     .show .inl (.inr #[c,J,h])
     .show .inr h
   .intro m F v mv;rcases Æ.mp mv with mv | mv
    .have:=U m F v mv;rfl'
    .rw [Zp.mp mv];change 1<=_;show d9 (Ä 1)
 .rintro σ j ⟨g,f,s,R,O,hn,U,A,o1,o2,rfl⟩;rw [Õ] at O;apply q j g f s R O hn U
abbrev Qm(es:ϊ Int)(xs:ϊ Sd)(x:Sd):Prop:=x∈xs/\nA es x=true
def leP(k l:Ϻ):Prop:=k.1<l.1\/(k.1=l.1/\k.2<=l.2)
def leP.refl(k:Ϻ):leP k k:= .inr #[rfl,Ä _]
theorem leP.trans{m:Ϻ}(h:leP k l)(g:leP l m):leP k m:=by unfold leP at*;rfl'
theorem leP.up(k:Ϻ)(c:Nat):leP k (k.1+c,k.2+1):=by unfold leP;dsimp only;rfl'
theorem leP.zero(h:leP k (0,0)):k=(0,0):=by
 let#[a,b]:=k;unfold leP at h;dsimp only at h;rw [show a=0 by rfl',show b=0 by rfl']
structure Dj(ev:Sd->Prop)(B:Nat->Sd->Sd->Prop)(F:Sd->Nat×Nat->Prop)(W:Nat×Nat->Sd->Prop):Prop where
 e: ∀x,ev x->F x (0,0)\/W (0,0) x
 b: ∀c x y v,B c x y->F y v->(∃u,F x u/\leP u (v.1+c,v.2+1))\/W (v.1+c,v.2+1) x
 s: ∀x k,F x k\/W k x->(ev x/\k=(0,0))\/ ∃c y v,B c x y/\F y v/\k=(v.1+c,v.2+1)
 m: ∀x k,F x k-> ∀l y,W l y->leP k l
theorem Dj.skip(h:Dj ev B F W){x:Sd}{r:Ϻ}(b:F x k)(a: ∀l y,W l y↔W' l y\/(l=r/\y=x)):Dj ev B F W':=by
 have d:leP k r:=h.m x k b r x ((a _ _).mpr (.inr #[rfl,rfl]));show#[λ y m=> ?_,λ c z y v f j=> ?_,λ z l e=>h.s z l (e.imp id λ w=>(a _ _).mpr (.inl w)),λ z l e i y w=>h.m z l e i y ((a _ _).mpr (.inl w))]
 .rcases h.e y m with g | g
  .show .inl g
  .rcases (a _ _).mp g with g | ⟨g1,g2⟩
   .show .inr g
   .rw [<- g1] at d;rw [d.zero] at b;show .inl (by rw [g2];show b)
 .rcases h.b c z y v f j with g | g
  .show .inl g
  .rcases (a _ _).mp g with g | ⟨g1,g2⟩
   .show .inr g
   .show .inl #[k,by rw [g2];show b,by rw [g1];show d]
theorem Dj.take{F:Sd->Nat×Nat->Prop}{W o:Nat×Nat->Sd->Prop}(h:Dj ev B F W){x:Sd}{r:Ϻ}(n: ∀l y,W l y↔W' l y\/(l=r/\y=x))(t: ∀l y,W' l y->leP r l)(d: ∀y k,F' y k↔F y k\/(y=x/\k=r))(f: ∀l y,o l y↔W' l y\/ ∃c,B c y x/\l=(r.1+c,r.2+1)):Dj ev B F' o:=by
 have q:W r x:=(n _ _).mpr (.inr #[rfl,rfl]);show#[λ y m=> ?_,λ c z y v p m=> ?_,λ z l hz=> ?_,λ z l hz i y w=> ?_]
 .rcases h.e y m with g | g
  .show .inl ((d _ _).mpr (.inl g))
  .rcases (n _ _).mp g with g | ⟨a,b⟩
   .show .inr ((f _ _).mpr (.inl g))
   .show .inl ((d _ _).mpr (.inr #[b,a]))
 .rcases (d _ _).mp m with m | ⟨rfl,rfl⟩
  .rcases h.b c z y v p m with ⟨u,a,b⟩ | g
   .show .inl #[u,(d _ _).mpr (.inl a),b]
   .rcases (n _ _).mp g with g | ⟨a,b⟩
    .show .inr ((f _ _).mpr (.inl g))
    .show .inl #[r,(d _ _).mpr (.inr #[b,rfl]),by rw [a];show leP.refl _]
  .show .inr ((f _ _).mpr (.inr #[c,p,rfl]))
 .have e:F z l\/W l z->(ev z/\l=(0,0))\/ ∃c y v,B c z y/\F' y v/\l=(v.1+c,v.2+1):=λ g=>(h.s z l g).imp id λ ⟨c,y,v,a,b,s⟩=>#[c,y,v,a,(d _ _).mpr (.inl b),s]
  rcases hz with hz | hz
  .rcases (d _ _).mp hz with hz | ⟨rfl,rfl⟩
   .show e (.inl hz)
   .show e (.inr q)
  .rcases (f _ _).mp hz with hz | ⟨c,a,b⟩
   .show e (.inr ((n _ _).mpr (.inl hz)))
   .show .inr #[c,x,r,a,(d _ _).mpr (.inr #[rfl,rfl]),b]
 .have j:leP l r:=by
   rcases (d _ _).mp hz with hz | ⟨_,rfl⟩
   .show h.m z l hz r x q
   .show leP.refl _
  rcases (f _ _).mp w with w | ⟨c,_,rfl⟩
  .show j.trans (t _ _ w)
  .show j.trans (leP.up _ _)
theorem Bd{b:Type}{f g:b->Nat}{d:Nat}(h: ∀x,g x<=f x): ∀{l:ϊ b}{x:b},x∈l->g x+d<=f x->(l.map g).sum+d<=(l.map f).sum
 | z::l,x,m,e=>by
  have a: ∀l:ϊ b,(l.map g).sum<=(l.map f).sum:=λ l=>by
   induction l with
   | nil=>show Ä _
   | cons y l ih=>rw [Ç,Ç,ġ,ġ];have:=h y;show Nat.add_le_add this ih
  rw [Ç,Ç,ġ,ġ];rcases È.mp m with rfl | m
  .have:=a l;rfl'
  .have:=Bd h m e;have:=h z;rfl'
abbrev Fq:=ό×Sd×ό×(Ϻ)
def mO(fz:ϊ Fq):ϊ Gz:=fz.map λ f=>(f.1,f.2.1,f.2.2.1)
structure FdT(K:Ϗ)(H:Hp)(fa:ό)(fz:ϊ Fq):Prop where
 d:H fa=!(cD fa (cP (mO fz)))
 s: ∀f∈fz,StT K H f.1 f.2.1/\H f.2.2.1=!(.tup [.int (f.2.2.2.1:Nat), .int (f.2.2.2.2:Nat)])
 n:(fz.map (·.2.1)).Nodup
def jo(fz:ϊ Fq)(x:Sd)(k:Ϻ):Prop:= ∃f∈fz,f.2.1=x/\f.2.2.2=k
def nP(bz:ϊ Gz)(U:ό->ϊ Bq)(fz:ϊ Fq):Nat:=(bz.map λ b=>if b.2.1∈fz.map (·.2.1) then 0 else ↑(U b.2.2)).sum
theorem mQ{K:Ϗ}(h: ∀f∈fz,StT K H f.1 f.2.1): ∀p∈cP (mO fz),uY H p.1 p.2.1:=λ p c=>by
 let#[z,d,rfl]:=Zs.mp c;let#[f,b,rfl]:=Zs.mp d;show(h f b).a
theorem jf(a:ϊ Fq):(mO a).map (·.2.1)=a.map (·.2.1):=by unfold mO;rw [Å];rfl
theorem Vp{l:Ϻ}(h:HT.lexLt [(l.1:Int),(l.2:Int)] [(k.1:Int),(k.2:Int)]=false):leP k l:=by
 unfold leP;unfold HT.lexLt at h;split at h
 .unfold HT.lexLt at h;split at h
  .rfl'
  .have:=Œ h;rfl'
 .have:=Œ h;rfl'
def YT(es:ϊ Int)(gz:ϊ Gz)(z:ό×Sk×V):ύ V:=by
 classical
 show if ∃g∈gz,z=(g.1,iI g.2.1,V.ref g.2.2)/\nA es g.2.1=true then !(.ref z.1) else none
theorem Jb(m:g∈gz):YT a gz (g.1,iI g.2.1,V.ref g.2.2)=if nA a g.2.1=true then !(.ref g.1) else none:=by
 unfold YT;by_cases e:nA a g.2.1=true
 .rw [if_pos e,if_pos #[g,m,rfl,e]]
 .rw [if_neg e,if_neg];rintro ⟨y,d,c,b⟩;have:=uH (Ö (λ p:ό×Sk×V=>p.2.1) c);rw [this] at e;show e b
theorem Be: ∀{l:ϊ Gz},(∀g∈l,g∈a)->(cP l).filterMap (YT es a)=((l.filter λ g=>nA es g.2.1).map λ g=>(g.1,g.2.1)).map λ z:ό×Sd=>V.ref z.1
 | [],_=>rfl
 | g::l,h=>by
  have b:=Be (es:=es) (l:=l) λ x m=>h x (É _ m)
  change List.filterMap _ ((g.1,iI g.2.1,V.ref g.2.2)::cP l)=_;rw [Į,Jb (h g (Ë ..)),List.filter_cons,b];by_cases e:nA es g.2.1=true
  .rw [if_pos e,if_pos e];rfl
  .rw [if_neg e,if_neg e]
theorem Jc(a:ϊ Qz)(k:Ϻ):dN (mK a) (jk k)=mK (a.filter λ v=>decide (v.1≠k)):=by
 unfold dN mK;rw [List.filter_map];congr 1;show List.filter_congr λ v _=> ?_
 change decide (jk v.1≠jk k)=decide (v.1≠k);by_cases e:v.1=k
 .rw [e];simp
 .rw [Ø (show v.1≠k from e),Ø (show jk v.1≠jk k from λ z=>e (uM z))]
theorem WtT.pop{K:Ϗ}{i:ό}{d:ϊ Qz}(h:WtT K H i d){w:Qz}(g:w∈d): ∃c:ϊ Qz,WtT K (upd H i (.dT (dN (mK d) (jk w.1)))) i c/\w.2.1∉c.map (·.2.1)/\↑c+1<=↑d/\(∀v∈c,v∈d)/\ ∀l x,Wait d l x↔Wait c l x\/(l=w.1/\x∈w.2.2.map (·.2)):=by
 have k: ∀{n:ϊ (ϊ Key×V)} l,HO.dT n≠ .tup l:=λ l z=>by cases z
 have b: ∀v∈d.filter (λ v=>decide (v.1≠w.1)),v∈d/\v.1≠w.1:=λ v a=>#[(đ.mp a).1,ô (đ.mp a).2]
 show#[d.filter λ v=>decide (v.1≠w.1),#[by rw [aa,Jc],λ v a=> ?_,?_,?_,λ v a z j=>(h.s v (b v a).1 z j).keep h.d k],λ m=> ?_,?_,λ v a=>(b v a).1,λ l x=>#[?_,?_]]
 .have e:=h.l v (b v a).1;rw [au (λ z=>by rw [z,h.d] at e;cases e)];show e
 .show Ă (List.Sublist.map _ List.filter_sublist) h.n
 .show Ă (List.Sublist.map _ List.filter_sublist) h.k
 .obtain ⟨v,a,e⟩:=Zs.mp m;have:=gW h.n (b v a).1 g e;show(b v a).2 (by rw [this])
 .show List.length_filter_lt_length_iff_exists.mpr #[w,g,by simp]
 .rintro ⟨v,a,rfl,f⟩;by_cases e:v.1=w.1
  .rw [gW h.k a g e] at f ⊢;show .inr #[rfl,f]
  .show .inl #[v,đ.mpr #[a,Ø e],rfl,f]
 .rintro (⟨v,a,rfl,f⟩ | ⟨rfl,f⟩)
  .show #[v,(b v a).1,rfl,f]
  .show #[w,g,rfl,f]
inductive sp_f71(K:Ϗ)(vs:ϊ V)(H:Hp)(Q:VK)(E:XK):Prop
 | mk (b f:ό) (a:ϊ Gz) (c:Sd->ϊ (ϐ×Nat×Sd)) (g:ϊ Int) (h:vs=[.ref b, .ref f]) (i:Rd H b (cD b (cP a))) (j:(∀z∈a,StT K H z.1 z.2.1/\SsT K H z.2.2 (c z.2.1)/\↑(c z.2.1)<=42)) (k:(a.map (·.2.1)).Nodup) (l:↑a<=20000) (m:(∀z∈a,∀e∈c z.2.1,e.2.2∈a.map (·.2.1))) (n:SqT K H f (g.map V.int)) (o: ∀od d H' (fz:ϊ Fq),Sb [b] H H'->H' b=!(.frz od (cD b (cP a)))->H d=none->FdT K H' d fz->Dj (Qm g (a.map (·.2.1))) (J2 c (a.map (·.2.1))) (jo fz) (λ _ _=>False)->Q (.ref d) H')
abbrev Jd K:=(aA (gP (aU (aN qK (gA wB (cM d7)) (tI 0))) (aA (aJ (gA Gq (cM d7)) (ak 5))
  (aA (aJ (R4 d7 gw) (ak 6))
  (cu (bN K jV) (ak 7) (bf (tB (uo uZ cF)) (aA (Ae cF uZ gw)
  (cT (bA (sp_f49 K) (lY d7 gw (mZ bJ uZ))))) aV)))))
  (aP cF))
abbrev Je K(E:XK)(Eh:XK):=(aA (aJ (bA (sp_f21 K) (cM aX)) (ak 2))
  (aA (aJ Ad (ak 3))
  (aA (aJ (Ga (dI (bK (tI 0) (tI 0))) (lF [none,!1] (yx aX) (ak 0) (fJ K (bA (sp_f52 K) (bK aX b8))) aX)) (ak 4))
  (Jd K))))
abbrev zm:ϊ ϐ:=sN ["onward","ends","backward","found","waiting","rest","reached","stand"]
theorem Vq(h:sp_f71 K vs H Q E):RG (Je K E) zm vs H Q:=by
 let#[D,ea,J,st,Z,rfl,hO,hG,hN,hL,hC,hE,q]:=h;show#[E0,?_];apply#[D,J,st,rfl,hO,hG,hN,hL,hC,λ ee ba M bz U a5 ar ei hB=> ?_];symm;intro n aw;symm;intro F b4;symm;intro ta a2;have S1:Same M (upd M n (cD n [])):=aq aw _;have S2:=S1.new (o:= .dT []) b4;have S3:=S2.new (o:= .tup [.int 0, .int 0]) a2;have bk:upd (upd (upd M n (cD n [])) F (.dT [])) ta (.tup [.int 0, .int 0]) n=!(cD n []):=((aq b4 _).trans (aq a2 _)).get aa;have bn:upd (upd (upd M n (cD n [])) F (.dT [])) ta (.tup [.int 0, .int 0]) F=!(.dT []):=(aq a2 _).get aa;have bm:upd (upd (upd M n (cD n [])) F (.dT [])) ta (.tup [.int 0, .int 0]) ta=!(.tup [.int 0, .int 0]):=aa;have af:M F=none:=S1.free b4;have ca:n≠D:=qR ar aw;have cc:F≠D:=qR ar af;have ec:ta≠D:=λ z=>by rw [z,S2.get ar] at a2;cases a2
 generalize upd (upd (upd M n (cD n [])) F (.dT [])) ta (.tup [.int 0, .int 0])=H3 at S3 bk bn bm ⊢;have cr: ∀{r:Hp}{o:HO},Sb [D] M r->r D=!o-> ∀{p:ό},r p=none->M p=none:=λ {r o} sb eo {p} hp=>by
  cases e:M p with
  | none=>rfl
  | some u=>
   by_cases z:p=D
   .rw [z,eo] at hp;cases hp
   .rw [sb.get (by simpa using z) e] at hp;cases hp
 have tk: ∀{r:Hp},Sb [D] M r-> ∀{a:ό}{u:HO},(∀od x,u≠ .frz od x)->M a=!u->r a=!u:=λ sb a u hu ea=>sb.get (λ m=>by
  rw [Zp.mp m,ar] at ea;show hu _ _ (Þ ea).symm) ea
 have cj: ∀{r:Hp},Sb [D] H r-> ∀{a:ό}{l:ϊ V},H a=!(.tup l)->r a=!(.tup l):=λ sb a l e=>sb.get (λ m=>by
  rw [Zp.mp m] at e;rcases hO with g | ⟨od,g⟩<;>(rw [g] at e;cases e)) e
 have ci: ∀{r:Hp},Sb [D] M r-> ∀{z:Gz},z∈J->StT K r z.1 z.2.1:=λ sb z mz=>by
  let#[c,e1,e2]:=(hG z mz).1;show#[c,tk sb (λ _ _ z=>by cases z) (cj a5 e1),tk sb (λ _ _ z=>by cases z) (cj a5 e2)]
 have de: ∀{r:Hp},Sb [D] H r->SqT K r ea (Z.map V.int):=λ sb=>by
  rcases hE with (e | ⟨od,e⟩) | hK
  .show .inl (.inl (cj sb e))
  .show .inl (.inr #[od,sb.get (λ m=> ?_) e]);rw [Zp.mp m] at e;rcases hO with g | ⟨od',g⟩<;>(rw [g] at e;cases e)
  .show .inr hK
 apply YF (.inr #[ee,S3.get ar]) (by unfold cP;rw [Qb];show d9 hL) (YT Z J) λ ai H4 al cn=>#[λ i z hi A B hA cs=> ?_,λ la bb=> ?_]
 .obtain ⟨g,hg,rfl⟩:=zj hi;have mg:=Xs hg;rw [Jb mg] at hA cs;apply#[g.1,ea,g.2.1,Z,rfl,ci (λ b o nb e=>al b o nb (S3.get e)) mg,de (λ b o nb e=>al b o nb (S3.get (a5 b o nb e))),?_];symm;by_cases ev:nA Z g.2.1=true
  .rw [ev];apply hA _ (if_pos ev)
  .rw [ο.mpr ev];apply cs (if_neg ev)
 have cf:Sb [D] M H4:=λ b o nb e=>al b o nb (S3.get e)
 have S5:Same H4 (upd H4 la (.lst ((cP J).filterMap (YT Z J)))):=aq bb _;have bp:=cr cf cn bb;rw [Be λ g m=>m] at S5 ⊢;have am:=al.get (by simpa using ca) bk;have ab:=al.get (by simpa using cc) bn;have cq:=al.get (by simpa using ec) bm;have d8:la≠F:=qR ab bb;have ej:la≠n:=qR am bb;have cb:n≠F:=jd am ab;apply#[S5.get ab,jk (0,0),ta,rfl,S5.get cq,?_];symm;have ax: ∃(G:ϊ Qz),WtT K (upd (upd H4 la (.lst (((J.filter λ g=>nA Z g.2.1).map λ g=>(g.1,g.2.1)).map λ z:ό×Sd=>V.ref z.1))) F (.dT [(jk (0,0), .ref la)])) F G/\(∀w∈G,M w.2.1=none)/\↑G<=1/\(∀w∈G,↑w.2.2<=20000)/\ ∀k x,Wait G k x↔k=(0,0)/\x∈J.map (·.2.1)/\nA Z x=true:=by
  show#[[((0,0),la,(J.filter λ g=>nA Z g.2.1).map λ g=>(g.1,g.2.1))],#[by rw [aa];rfl,λ w T=> ?_,by simp,by simp,λ w T z mz=> ?_],λ w T=>by rw [Zp.mp T];show bp,Ä _,λ w T=> ?_,λ k x=> ?_]
  .rw [Zp.mp T,au d8,aa]
  .rw [Zp.mp T] at mz;let#[g,mg,rfl]:=Zs.mp mz;show((ci cf (đ.mp mg).1).same S5).keep (S5.get ab) (λ l z=>by cases z)
  .rw [Zp.mp T,Qb];show Ò (List.length_filter_le _ _) hL
  .constructor
   .rintro ⟨w,T,rfl,mx⟩;rw [Zp.mp T] at mx ⊢;dsimp only at mx ⊢;rw [Å] at mx;let#[g,mg,rfl]:=Zs.mp mx;show#[rfl,Zs.mpr #[g,(đ.mp mg).1,rfl],(đ.mp mg).2]
   .rintro ⟨rfl,mx,e⟩;let#[g,mg,rfl]:=Zs.mp mx;show#[_,Zp.mpr rfl,rfl,Zs.mpr #[(g.1,g.2.1),Zs.mpr #[g,đ.mpr #[mg,e],rfl],rfl]]
 have c5:Sb [D] M (upd (upd H4 la (.lst (((J.filter λ g=>nA Z g.2.1).map λ g=>(g.1,g.2.1)).map λ z:ό×Sd=>V.ref z.1))) F (.dT [(jk (0,0), .ref la)])):=fO (fO cf (.inr bp)) (.inr af);have bl:(upd (upd H4 la (.lst (((J.filter λ g=>nA Z g.2.1).map λ g=>(g.1,g.2.1)).map λ z:ό×Sd=>V.ref z.1))) F (.dT [(jk (0,0), .ref la)])) n=!(cD n []):=by rw [au cb];show S5.get am
 have cp:(upd (upd H4 la (.lst (((J.filter λ g=>nA Z g.2.1).map λ g=>(g.1,g.2.1)).map λ z:ό×Sd=>V.ref z.1))) F (.dT [(jk (0,0), .ref la)])) D=!(.frz ai (cD D (cP J))):=by rw [au (Ne.symm cc)];show S5.get cn
 generalize upd (upd H4 la (.lst (((J.filter λ g=>nA Z g.2.1).map λ g=>(g.1,g.2.1)).map λ z:ό×Sd=>V.ref z.1))) F (.dT [(jk (0,0), .ref la)])=H6 at ax c5 bl cp ⊢;let#[eg,dk,dl,dy,d1,cz]:=ax;have dg:nP bz U []<=900000:=by
  show Ò (ė ?_) hB.s;unfold nP;simp
 show q9 (λ m σ r=>(Ex2 λ (fz:ϊ Fq) (G:ϊ Qz)=>(An11 (FdT K r n fz) (WtT K r F G) (Sb [D] M r) (r D=!(.frz ai (cD D (cP J)))) (∀w∈G,M w.2.1=none) (Dj (Qm Z (J.map (·.2.1))) (J2 st (J.map (·.2.1))) (jo fz) (Wait G)) (∀f∈fz,f.2.1∈J.map (·.2.1)) (m=↑G+nP bz U fz) (↑G+nP bz U fz<=900001) (∀w∈G,↑w.2.2+nP bz U fz<=950000) (Ex3 λ o1 o2 o3=>σ=[!(.ref D),!(.ref ea),!(.ref ba),!(.ref n),!(.ref F),o1,o2,o3])))) _
  #[[],eg,#[bl,by simp,by simp],dk,c5,cp,dl,#[λ x hx=> .inr ((cz _ _).mpr #[rfl,hx.1,hx.2]),λ c x y v _ hF=> ?_,λ x k hk=> ?_,λ x k hk=> ?_],by simp,rfl,n6 (ķ _ _) (qkT dg dy),λ w T=>by have:=d1 w T;rfl',_,_,_,rfl] ?_ ?_
 .obtain ⟨f,mf,_⟩:=hF;cases mf
 .rcases hk with ⟨f,mf,_⟩ | hk
  .cases mf
  .obtain ⟨e1,e2⟩:=(cz _ _).mp hk;show .inl #[e2,e1]
 .obtain ⟨f,mf,_⟩:=hk;cases mf
 .rintro m σ r N ⟨fz,G,hF,hW,sb,eo,dp,hD,cy,rfl,dq,dt,o1,o2,o3,rfl⟩ df;apply yR hW.d ?_;rw [show↑(mK G)=↑G from Qb _];symm;by_cases a9:0<↑G
  .show kh (Xe a9) ?_;apply UT (kvs:=G.map λ w:Qz=>([(w.1.1:Int),(w.1.2:Int)],V.ref w.2.1)) (by rw [hW.d,Å];rfl) (λ z=>by rw [List.map_eq_nil_iff] at z;rw [z] at a9;cases a9) λ R k ah mk bq=> ?_
   rw [Å] at mk bq;let#[w,T,rfl]:=Zs.mp mk;replace ah:r R=!(.tup [.int (w.1.1:Nat), .int (w.1.2:Nat)]):=ah;have d2: ∀v∈G,leP w.1 v.1:=λ v I=>Vp (bq _ (Zs.mpr #[v,I,rfl]))
   apply#[F,rfl, .inr #[_, .inl hW.d],?_];apply#[mK G,jk w.1,R, .ref w.2.1,hW.d,rfl,ah,ou hW.k T rfl,?_];let#[c9,ct,d3,dz,Y,d4]:=hW.pop T;have nt: ∀{xs:ϊ (ϊ Key×V)} l,HO.dT xs≠ .tup l:=λ l z=>by cases z
   have c4:Sb [D] M (upd r F (.dT (dN (mK G) (jk w.1)))):=fO sb (.inr af);have cm:upd r F (.dT (dN (mK G) (jk w.1))) D=!(.frz ai (cD D (cP J))):=by rw [au (Ne.symm cc)];show eo
   have b3:FdT K (upd r F (.dT (dN (mK G) (jk w.1)))) n fz:=⟨by rw [au cb];show hF.d,λ f mf=>⟨(hF.s f mf).1.keep hW.d nt,by
    have e:=(hF.s f mf).2;rw [au (λ z=>by rw [z,hW.d] at e;cases e)];show e⟩,hF.n⟩
   have a7:upd r F (.dT (dN (mK G) (jk w.1))) w.2.1=!(.lst (w.2.2.map λ z=>V.ref z.1)):=by
    have e:=hW.l w T;rw [au (λ z=>by rw [z,hW.d] at e;cases e)];show e
   have br:upd r F (.dT (dN (mK G) (jk w.1))) R=!(.tup [.int (w.1.1:Nat), .int (w.1.2:Nat)]):=by
    rw [au (λ z=>by rw [z,hW.d] at ah;cases ah)];show ah
   have bs: ∀z∈w.2.2,StT K (upd r F (.dT (dN (mK G) (jk w.1)))) z.1 z.2:=λ z mz=>(hW.s w T z mz).keep hW.d nt
   generalize upd r F (.dT (dN (mK G) (jk w.1)))=H7 at ct c4 cm b3 a7 br bs ⊢;have d0:w.2.1≠n:=jd a7 b3.d;apply cV (λ z:ό×Sd=>V.ref z.1) (zs:=w.2.2) (SqL.of a7) (λ i σ r=>(Ex2 λ (d:ϊ Fq) (t:ϊ Qz)=>(An15 (FdT K r n d) (WtT K r F t) (Sb [D] M r) (r D=!(.frz ai (cD D (cP J)))) (∀v∈t,M v.2.1=none) (Dj (Qm Z (J.map (·.2.1))) (J2 st (J.map (·.2.1))) (jo d) (λ l x=>Wait t l x\/(l=w.1/\x∈(w.2.2.drop i).map (·.2)))) (∀f∈d,f.2.1∈J.map (·.2.1)) (∀l x,Wait t l x->leP w.1 l) (r w.2.1=!(.lst (w.2.2.map λ z=>V.ref z.1))) (w.2.1∉t.map (·.2.1)) (r R=!(.tup [.int (w.1.1:Nat), .int (w.1.2:Nat)])) (∀z∈w.2.2,StT K r z.1 z.2) (↑t+nP bz U d+1<=↑G+nP bz U fz) (∀v∈t,↑v.2.2+nP bz U d<=950000) (Ex1 λ o1=>σ=[!(.ref D),!(.ref ea),!(.ref ba),!(.ref n),!(.ref F),!(.ref R),!(.ref w.2.1),o1]))))
    #[fz,c9,b3,ct,c4,cm,λ v I=>dp v (Y v I),?_,cy,λ l x ⟨v,I,e,_⟩=>e▸d2 v (Y v I),a7,d3,br,bs,(),λ v I=>dt v (Y v I),_,rfl] ?_ ?_ ?_
   .have:(λ l x=>Wait c9 l x\/(l=w.1/\x∈(w.2.2.drop 0).map (·.2)))=Wait G:=by
     funext l x;rw [Ź];show propext (d4 l x).symm
    rw [this];show hD
   .rintro i σ H8 ⟨_,_,_,_,_,_,_,_,_,_,e,_⟩;show SqL.of e
   .rintro i z σ H8 hi ⟨d,t,C,W,bg,a8,O,ag,L,ac,b1,be,a1,X,bd,ay,ed,rfl⟩;have mz:=Xs hi;have dc:w.2.2.drop i=z::w.2.2.drop (i+1):=by
     let#[h1,h2]:=À.mp hi;rw [ı h1,h2]
    have b5: ∀l y,(Wait t l y\/(l=w.1/\y∈(w.2.2.drop i).map (·.2)))↔(Wait t l y\/(l=w.1/\y∈(w.2.2.drop (i+1)).map (·.2)))\/(l=w.1/\y=z.2):=λ l y=>by
     rw [dc,Ç,È,or_assoc];show or_congr Iff.rfl ?_;rw [and_or_left];show Or.comm
    apply#[n,_,rfl,SGet.of C.d (mQ λ f mf=>(C.s f mf).1) (X z mz).a,?_];by_cases m:z.2∈d.map (·.2.1)
    .obtain ⟨v,ev⟩:=qj (zs:=mO d) (by rw [jf];show m);rw [ev];symm;change if (not true)=true then _ else _
     symm;let#[f,mf,ef]:=Zs.mp m;show#[d,t,C,W,bg,a8,O,ag.skip #[f,mf,ef,rfl] b5,L,ac,b1,be,a1,X,bd,ay,_,rfl]
    have ev:=jH (zs:=mO d) (x:=z.2) (by rw [jf];show m);rw [ev];symm;change if (not false)=true then _ else _
    rw [if_pos (show(not false)=true from rfl)];have b6:z.2∈J.map (·.2.1):=by
     rcases ag.s z.2 w.1 (.inr ((b5 _ _).mpr (.inr #[rfl,rfl]))) with h | ⟨c,y,v,h,_⟩
     .show h.1.1
     .show h.1
    have cw:bz.map (·.2.1)=J.map (·.2.1):=by
     have:=Ö (List.map Prod.snd) hB.k;rw [Å,Å] at this;show this
    let#[b,mb,eb]: ∃b∈bz,b.2.1=z.2:=by
     rw [<- cw] at b6;let#[b,mb,eb]:=Zs.mp b6;show#[b,mb,eb]
    let#[c1,c2,c3]:=hB.c b mb;have dn:↑d<=20000:=by
     have:=eX C.n λ x mx=>by
      let#[f,mf,rfl]:=Zs.mp mx;show L f mf
     rw [Qb,Qb] at this;show Ò this hL
    apply#[n,_,rfl,SPut.of C.d (mQ λ f mf=>(C.s f mf).1) (X z mz).a (by unfold cP mO;rw [Qb,Qb];show d9 dn),?_];rw [pZ ev];have ce: ∀{P:PySem.Heap->Prop} l,HO.ext P≠ .tup l:=λ l z=>by cases z
    have dd:cP (mO d)++[(z.1,iI z.2,V.ref R)]=cP (mO (d++[(z.1,z.2,R,w.1)])):=by unfold cP mO;rw [Jn,Jn];rfl
    have c8: ∀{a:ό}{l:ϊ V},H8 a=!(.tup l)->upd H8 n (cD n (cP (mO d)++[(z.1,iI z.2,V.ref R)])) a=!(.tup l):=λ e=>by
     rw [au (λ z=>by rw [z,C.d] at e;cases e)];show e
    have S:Sb [D] M (upd H8 n (cD n (cP (mO d)++[(z.1,iI z.2,V.ref R)]))):=fO bg (.inr aw);have b2:upd H8 n (cD n (cP (mO d)++[(z.1,iI z.2,V.ref R)])) D=!(.frz ai (cD D (cP J))):=by rw [au (Ne.symm ca)];show a8
    have ae: ∀z'∈w.2.2,StT K (upd H8 n (cD n (cP (mO d)++[(z.1,iI z.2,V.ref R)]))) z'.1 z'.2:=λ z' b9=>(X z' b9).keep C.d ce
    have ad:=c8 a1;have as:FdT K (upd H8 n (cD n (cP (mO d)++[(z.1,iI z.2,V.ref R)]))) n (d++[(z.1,z.2,R,w.1)]):=by
     show#[by rw [aa,dd],λ f mf=> ?_,?_]
     .rcases Æ.mp mf with mf | mf
      .show #[(C.s f mf).1.keep C.d ce,c8 (C.s f mf).2]
      .rw [Zp.mp mf];show#[ae z mz,ad]
     .rw [Jn,à];show#[C.n,by simp,λ a ma c mc e=>m ?_];rw [Ç,ď,Zp] at mc;rw [<- show c=z.2 from mc,<- e];show ma
    have av:WtT K (upd H8 n (cD n (cP (mO d)++[(z.1,iI z.2,V.ref R)]))) F t:=⟨by rw [au (Ne.symm cb)];show W.d,λ v I=>by
     have e:=W.l v I;rw [au (λ z=>by rw [z,C.d] at e;cases e)];show e,W.n,W.k,λ v I y my=>(W.s v I y my).keep C.d ce⟩
    have ap:upd H8 n (cD n (cP (mO d)++[(z.1,iI z.2,V.ref R)])) w.2.1=!(.lst (w.2.2.map λ z=>V.ref z.1)):=by rw [au d0];show b1
    generalize upd H8 n (cD n (cP (mO d)++[(z.1,iI z.2,V.ref R)]))=H9 at S b2 ae ad as av ap ⊢;have eh:nP bz U (d++[(z.1,z.2,R,w.1)])+↑(U b.2.2)<=nP bz U d:=by
     unfold nP;show Bd (λ v=> ?_) mb ?_
     .by_cases h:v.2.1∈d.map (·.2.1)
      .rw [if_pos h,if_pos (by rw [Jn];show Ý _ h)];show Ä _
      .rw [if_neg h];split<;>rfl'
     .rw [if_pos (by rw [Jn,eb];simp),if_neg (by rw [eb];show m)];show n6 (ķ 0 _) (Ä _)
    apply⟨ba, .ref b.2.2,rfl,by
     rw [<- jP (by rw [cw];show hN) mb,eb];show SGet.of (tk S (λ _ _ z=>by cases z) hB.d) (λ p mp=>by
      let#[b',d5,rfl]:=Zs.mp mp;let#[y,my,ey]:=hB.key d5;have:=ci S my;rw [ey.1,ey.2] at this;show this.a) (ae z mz).a,?_⟩
    apply#[F,R,b.2.2,t,w.1,U b.2.2,rfl,av,ad,tk S (λ _ _ z=>by cases z) c1,λ mm=> ?_,λ u mu=> ?_,(),λ v I=>by have:=ay v I;rfl',λ a6 da cv b0 bo bv db cx=> ?_]
    .obtain ⟨v,I,e⟩:=Zs.mp mm;have:=O v I;rw [show v.2.1=b.2.2 from e,c1] at this;cases this
    .obtain ⟨g1,c,g2,g3⟩:=c2 u mu;show#[tk S (λ _ _ z=>by cases z) g1,c,tk S (λ _ _ z=>by cases z) g2,tk S (λ _ _ z=>by cases z) g3]
    symm;have a3: ∀{a:ό}{u:HO},H9 a=!u->a≠F->a∉t.map (·.2.1)->a6 a=!u:=λ e n1 n2=>b0.get (λ mm=>(È.mp mm).elim n1 n2) e
    have a4: ∀{a:ό}{u:HO},H9 a=!u->(∀xs,u≠ .lst xs)->(∀xs,u≠ .dT xs)->a6 a=!u:=λ {a u} e n1 n2=>a3 e (λ z=>by rw [z,av.d] at e;show n2 _ (Þ e).symm) (λ mm=>by
     let#[v,I,ea]:=Zs.mp mm;have:=av.l v I;rw [show v.2.1=a from ea,e] at this;show n1 _ (Þ this))
    have bi: ∀{a:ό}{l:ϊ V},H9 a=!(.tup l)->a6 a=!(.tup l):=λ e=>a4 e (λ _ z=>by cases z) (λ _ z=>by cases z)
    have c6: ∀{a:ό}{x:Sd},StT K H9 a x->StT K a6 a x:=λ h=>by
     let#[c,e1,e2]:=h;show#[c,bi e1,bi e2]
    show#[d++[(z.1,z.2,R,w.1)],da,#[a4 as.d (λ _ z=>by cases z) (λ _ z=>by cases z),λ f mf=>#[c6 (as.s f mf).1,bi (as.s f mf).2],as.n],cv,λ c o nb e=>b0 c o (λ mm=> ?_) (S c o nb e),a4 b2 (λ _ z=>by cases z) (λ _ z=>by cases z),λ v I=> ?_,ag.take b5 (λ l y h=> ?_) (λ y k=> ?_) (λ l y=> ?_),λ f mf=> ?_,λ l x h=> ?_,a3 ap (λ z=>by rw [z,av.d] at ap;cases ap) be,λ mm=> ?_,bi ad,λ z' b9=>c6 (ae z' b9),(),λ v I=> ?_,_,rfl]
    .rcases È.mp mm with rfl | mm
     .rw [af] at e;cases e
     .obtain ⟨v,I,rfl⟩:=Zs.mp mm;rw [O v I] at e;cases e
    .rcases bo v I with h | h
     .obtain ⟨v',d6,e⟩:=Zs.mp h;rw [<- show v'.2.1=v.2.1 from e];show O v' d6
     .show cr S b2 h
    .rcases h with h | ⟨rfl,_⟩
     .show ac l y h
     .show leP.refl _
    .unfold jo;constructor
     .rintro ⟨f,mf,e1,e2⟩;rcases Æ.mp mf with mf | mf
      .show .inl #[f,mf,e1,e2]
      .rw [Zp.mp mf] at e1 e2;show .inr #[e1.symm,e2.symm]
     .rintro (⟨f,mf,e⟩ | ⟨rfl,rfl⟩)
      .show #[f,Ý _ mf,e]
      .show #[_,Ü _ (Zp.mpr rfl),rfl,rfl]
    .have hx:(∃u∈U b.2.2,l=(w.1.1+u.2.1,w.1.2+1)/\y=u.2.2.2)↔ ∃c,(y∈J.map (·.2.1)/\ ∃s,(s,c,z.2)∈st y)/\l=(w.1.1+c,w.1.2+1):=by
      rw [<- eb];constructor
      .rintro ⟨u,mu,rfl,rfl⟩;show#[u.2.1,(c3 _ _).mp (Zs.mpr #[u,mu,rfl]),rfl]
      .rintro ⟨c,h,rfl⟩;let#[u,mu,e]:=Zs.mp ((c3 c y).mpr h);show#[u,mu,by rw [<- (Prod.mk.inj e).1],(Prod.mk.inj e).2.symm]
     rw [bv,<- hx,or_assoc,or_assoc];show or_congr Iff.rfl Or.comm
    .rcases Æ.mp mf with mf | mf
     .show L f mf
     .rw [Zp.mp mf];show b6
    .rcases (bv l x).mp h with h | ⟨u,_,rfl,_⟩
     .show ac l x h
     .show leP.up _ _
    .obtain ⟨v,I,e⟩:=Zs.mp mm;rcases bo v I with h | h
     .show be (by rw [<- show v.2.1=w.2.1 from e];show h)
     .rw [show v.2.1=w.2.1 from e,ap] at h;cases h
    .have:=cx (950000-nP bz U d) (λ v I=>by have:=ay v I;rfl') v I;rfl'
   .rintro σ H8 ⟨d,t,C,W,bg,a8,O,ag,L,ac,b1,be,a1,X,bd,ay,ed,rfl⟩;apply df _ _ _ (Nat.lt_of_succ_le bd) #[d,t,C,W,bg,a8,O,?_,L,rfl,Ò (ñ bd) dq,ay,_,_,_,rfl];have:(λ l x=>Wait t l x\/(l=w.1/\x∈(w.2.2.drop ↑w.2.2).map (·.2)))=Wait t:=by
     funext l x;rw [List.drop_length];simp
    rw [this] at ag;show ag
  .have e0:G=[]:=List.eq_nil_of_length_eq_zero (qn0 a9);subst e0;show iD (by rw [ů];rfl') ?_;apply q ai n r fz (λ b o nb e=>sb b o nb (a5 b o nb e)) eo ?_ hF ?_
   .cases e:H n with
    | none=>rfl
    | some u=>
     exfalso;by_cases z:n=D
     .show ca z
     .rw [a5.get (by simpa using z) e] at aw;cases aw
   .have:Wait []=λ _ _=>False:=by
     funext l x;show propext #[λ ⟨w,T,_⟩=>(by cases T),False.elim]
    rw [this] at hD;show hD
 .rintro σ H Q Q' hq ⟨v,hv,a,c0,e,ha,i,j,e1,e2,k,e3,z⟩;show#[v,hv,a,c0,e,ha,i,j,e1,e2,k,e3,hq _ _ z]
inductive sp_f72(K:Ϗ)(vs:ϊ V)(H:Hp)(Q:VK)(E:XK):Prop
 | mk (g:ό) (a d c:ϐ) (b:ϑ) (h:vs=[.ref g, .str c, .bl b]) (i:H g=!(.tup [.str a, .str d])) (j:↑a+↑c<=1000000) (k: ∀r H' e f,Same H H'->H' r=!(.tup [.str e, .str f])->↑e<=max ↑d (↑a+↑c)->↑f<=max ↑d (↑a+↑c)->Q (.ref r) H')
abbrev Jf K(E:XK)(Eh:XK):=(aA (aJ (aN bc (tX K aX 0) b8) (ak 3))
  (aP (Xo (fJ K bJ) (dI (bK (tX K aX 1) cF)) (dI (bK cF (tX K aX 1))))))
abbrev Jg:ϊ ϐ:=sN ["texts","sign","passes","longer"]
theorem Vr(h:sp_f72 K vs H Q E):RG (Jf K E) Jg vs H Q:=by
 let#[j,e,i,f,b,rfl,a,g,q]:=h;show#[E0,?_];have c:↑(e++f)=↑e+↑f:=jG _ _;apply gn a ?_;apply fM g ?_;apply PQ (λ _=> ?_) λ _=> ?_
 .symm;show dX a ?_;symm;intro r d;show q r _ _ _ (aq d _) aa (Nat.le_max_left _ _) (by rw [c];show Nat.le_max_right _ _)
 .symm;show dX a ?_;symm;intro r d;show q r _ _ _ (aq d _) aa (by rw [c];show Nat.le_max_right _ _) (Nat.le_max_left _ _)
theorem Jh{N M:Nat}(a:↑(cL wss N)<=N)(b:↑(cL wss M)<=M):cL wss N=cL wss M:=by
 rcases Nat.le_total N M with h | h
 .obtain ⟨j,rfl⟩:=Nat.exists_eq_add_of_le h;show(jO a j).symm
 .obtain ⟨j,rfl⟩:=Nat.exists_eq_add_of_le h;show jO b j
inductive sp_f4(K:Ϗ)(vs:ϊ V)(H:Hp)(Q:VK)(E:XK):Prop
 | mk (d:ό) (a:ϲ) (z:Fz) (N:Nat) (f:vs=[.ref d, .ref z.1]) (g:WsT H d a) (h:0<↑a) (i:↑a<=100) (j:(∀ws∈a,↑ws<=1000/\ ∀w∈ws,↑w.1<=1/\0<=w.2.2/\w.2.2<↑a)) (k:FkA K H z) (l:↑(cL a N)<=N) (m:z.2.2.2.2.2.2∈cL a N) (n:↑z.2.2.2.2.1.1<=1) (o:↑z.2.2.2.2.2.1.1<=1) (e: ∀r H' b c,Same H H'->H' r=!(.tup [.str b, .str c])->↑b<=200->↑c<=200->Q (.ref r) H')
abbrev Rm K(E:XK)(Eh:XK):=(aA (aJ (jx (bA (sp_f3 K) (cM aX)) (tX K b8 2)) (ak 2))
  (aA (aJ (tX K b8 3) (ak 3))
  (aA (aJ (tX K b8 4) (ak 4))
  (aP (bA (sp_f72 K) (lY (dI (bK bJ (aN bc bJ (tX K d7 0)))) (tX K cF 0) (aN qK (dF K (tX K cF 1)) (dF K (tX K d7 1)))))))))
abbrev Rn:ϊ ϐ:=sN ["ways","fork","text","way","later"]
theorem YW(h:sp_f4 K vs H Q E):RG (Rm K E) Rn vs H Q:=by
 let#[wa,b,z,N,rfl,hW,c,g,k,hz,Z,F,ac,ad,q]:=h;show#[E0,?_];let#[y,f2,#[c1,A,L],#[c2,B,O]]:=id hz;dsimp only at A L B O;apply#[wa,b,rfl,hW,c,g,k,λ td J M s n ae e x Y D=> ?_];have u:cL b M=cL b N:=Jh Y Z;let#[a,mt,W]:=uG (ps:=s) (r:=z.2.2.2.2.2.2) (by rw [e,u];show F);have S:↑s<=100:=by
  have C:↑s=↑(cL b M):=by rw [<- e,Qb]
  have R:=eX (l:=cL b M) (m:=(List.range ↑b).map λ i:Nat=>(i:Int)) (gJ _ _ M) λ r mr=>by
   let#[X,C]:=fG (P:=λ r:Int=>0<=r/\r<↑b) #[by decide,Xe c] (λ p q' hp hq=>by
    let#[w,mw,rfl]:=Zs.mp hq;have:b.getD p.toNat []∈b:=by rw [Yf,Qr (Xb hp)];show Ï _
    show((k _ this).2 w mw).2) M r mr
   show Zs.mpr #[r.toNat,í.mpr (qtC C c),An X]
  rw [Qb,ö] at R;show n6 C (Ò R g)
 have I:=D _ mt;dsimp only at I;apply jT (n.get y) ?_;show#[td,_,rfl, .inl #[_,_, .inl x,rfl,W.symm],?_];apply dW (SqT.of (n.get y)) (aQ (j:=3) (v:= .ref z.2.2.1) rfl) ?_;apply dW (SqT.of (n.get y)) (aQ (j:=4) (v:= .ref z.2.2.2.1) rfl) ?_;apply gn (n.get B) ?_;apply fM () ?_;symm;intro t G;symm;have d:=n.new (o:= .tup [.str a, .str (a++z.2.2.2.2.2.1.1)]) G;have f:upd J t (.tup [.str a, .str (a++z.2.2.2.2.2.1.1)]) t=!(.tup [.str a, .str (a++z.2.2.2.2.2.1.1)]):=aa;generalize upd J t (.tup [.str a, .str (a++z.2.2.2.2.2.1.1)])=H2 at d f ⊢;show gn (d.get A) ?_;apply dX (d.get A) ?_;apply cX (SqT.of (d.get L)) ?_;apply dX (d.get B) ?_;apply cX (SqT.of (d.get O)) ?_;symm;have ab:↑(a++z.2.2.2.2.2.1.1)=↑a+↑z.2.2.2.2.2.1.1:=jG _ _;show#[t,a,_,_,_,rfl,f,(),λ r T t0 t1 s3 U l0 l1=> ?_];show q r T t0 t1 (d.trans s3) U () ()
theorem Vs(n:Nat):Sh n .none:=#[by simp [PyData.canLay0],by simp [PyData.depth]]
theorem a0z{x y:PyData}(b:Sh n x)(c:Sh n y)(e:Sh n z):Sh (n+1) (.tuple [x,y,z]):=gR λ d a=>by
 simp only [È,å,ĥ] at a;rcases a with rfl | rfl | rfl<;>assumption
theorem rEqD.intsT{K:Ϗ}{c:ϊ Int}(e:SqT K H a (c.map V.int))(f:SqT K H b (ms.map V.int))(q:Q (.bl (decide (c=ms))) H):rEqD K (.ref a) (.ref b) H Q:=by
 have d: ∀c:ϊ Int,Sh 1 (.tuple (c.map PyData.int)):=λ c=>gR λ x g=>by
  let#[y,_,rfl]:=Zs.mp g;show eU _ _
 show#[_,_,Dp.intsT e,Dp.intsT f,(d c).shaped (by decide),(d ms).shaped (by decide),?_];rw [show PyData.eqv (.tuple (c.map PyData.int)) (.tuple (ms.map PyData.int))=decide (c=ms) by simp only [PyData.eqv];show jB c ms];show q
theorem rNeD.intsT{K:Ϗ}{c:ϊ Int}(e:SqT K H a (c.map V.int))(f:SqT K H b (ms.map V.int))(q:Q (.bl (not (decide (c=ms)))) H):rNeD K (.ref a) (.ref b) H Q:=by
 have d: ∀c:ϊ Int,Sh 1 (.tuple (c.map PyData.int)):=λ c=>gR λ x g=>by
  let#[y,_,rfl]:=Zs.mp g;show eU _ _
 show#[_,_,Dp.intsT e,Dp.intsT f,(d c).shaped (by decide),(d ms).shaped (by decide),?_];rw [show PyData.eqv (.tuple (c.map PyData.int)) (.tuple (ms.map PyData.int))=decide (c=ms) by simp only [PyData.eqv];show jB c ms];show q
inductive sp_f53(K:Ϗ)(vs:ϊ V)(H:Hp)(Q:VK)(E:XK):Prop
 | mk (e c d:ό) (a:ϊ (ό×ϐ×Nat×Sd)) (b:ϊ Fq) (k:Ϻ) (f:vs=[.ref e, .ref c, .ref d]) (g:H e=!(.lst (a.map λ z=>V.ref z.1))) (h:(∀z∈a,SpT K H z.1 z.2)) (i:FdT K H c b) (j:H d=!(.tup [.int (k.1:Nat), .int (k.2:Nat)])) (l:(∃z∈a,∃v,jo b z.2.2.2 v/\k=(v.1+z.2.2.1,v.2+1))) (m: ∀z∈a,∀v,jo b z.2.2.2 v->k=(v.1+z.2.2.1,v.2+1)-> ∀H',Same H H'->Q (.ref z.1) H')
abbrev Ji K(E:XK)(Eh:XK):=(aA (cu (bN K aX) (ak 3) (bf (aU (aN (rEqD K) (Gs b8 (tX K cF 2)) (dI (bK (aN lG (tX K bJ 0) (tX K cF 1)) (aN lG (tX K bJ 1) (tI 1)))))) (aP cF) aV))
  (aP (tC V.non)))
abbrev Jj:ϊ ϐ:=sN ["steps","found","rest","step"]
theorem Vt(h:sp_f53 K vs H Q E):RG (Ji K E) Jj vs H Q:=by
 let#[sa,R,ra,F,j,k,rfl,C,hz,r,B,M,q]:=h;show#[E0,?_];apply cV (λ z:ό×ϐ×Nat×Sd=>V.ref z.1) (zs:=F) (SqL.of C) (λ i I l=>(An3 (Same H l) (∀z∈F.take i,∀v,jo j z.2.2.2 v->k≠(v.1+z.2.2.1,v.2+1)) (Ex1 λ O=>I=[!(.ref sa),!(.ref R),!(.ref ra),O]))) #[Same.refl _,by simp,_,rfl] ?_ ?_ ?_
 .rintro i I l ⟨s,_⟩;show SqL.of (s.get C)
 .rintro i z I l S ⟨s,b,O,rfl⟩;have G:=Xs S;let#[c,P,U]:=hz z G;apply#[R,_,rfl, .inl (s.get r.d),?_];apply jT (s.get P) ?_;show#[_,SGet.ofR (.inl (s.get r.d)) (mQ λ f d=>(r.s f d).1.same s) (U.same s).a,?_];apply gn (s.get B) ?_;apply dX (s.get P) ?_;apply dX (s.get B) ?_;symm;intro p Y;have D:=s.new (o:= .tup [.int ((k.1:Int)-(z.2.2.1:Int)), .int ((k.2:Int)-1)]) Y;have L:upd l p (.tup [.int ((k.1:Int)-(z.2.2.1:Int)), .int ((k.2:Int)-1)]) p=!(.tup ([(k.1:Int)-(z.2.2.1:Int),(k.2:Int)-1].map V.int)):=aa;generalize upd l p (.tup [.int ((k.1:Int)-(z.2.2.1:Int)), .int ((k.2:Int)-1)])=H2 at D L ⊢;have t: ∀(T: ∀v,jo j z.2.2.2 v->k≠(v.1+z.2.2.1,v.2+1)),∀y∈F.take (i+1),∀v,jo j y.2.2.2 v->k≠(v.1+y.2.2.1,v.2+1):=λ T y my=>by
   rw [Í,S] at my;rcases Æ.mp my with my | my
   .show b y my
   .have:y=z:=by simpa using my
    rw [this];show T
  by_cases m:z.2.2.2∈j.map (·.2.1)
  .obtain ⟨f,d,J⟩:=Zs.mp m;have N: ∀v,jo j z.2.2.2 v->v=f.2.2.2:=λ v ⟨g,mg,u,w⟩=>by rw [<- w,gW r.n mg d (u.trans J.symm)]
   have X:dC (cP (mO j)) (iI z.2.2.2)=!(V.ref f.2.2.1):=by
    rw [<- J];show jP (zs:=mO j) (z:=(f.1,f.2.1,f.2.2.1)) (by rw [jf];show r.n) (Zs.mpr #[f,d,rfl])
   rw [X];have W:H2 f.2.2.1=!(.tup ([(f.2.2.2.1:Int),(f.2.2.2.2:Int)].map V.int)):=D.get (r.s f d).2;show rEqD.intsT (SqT.of W) (SqT.of L) ?_;show#[_,rfl,?_];show fL (λ c=> ?_) λ c=> ?_
   .symm;have A:k=(f.2.2.2.1+z.2.2.1,f.2.2.2.2+1):=by
     injection c with c1 c2
     injection c2 with c2
     show Prod.ext (by change k.1=_;rfl') (by change k.2=_;rfl')
    show q z G f.2.2.2 #[f,d,J,rfl] A _ D
   .symm;show#[D,t λ v Z A=>c ?_,_,rfl];rw [N v Z] at A;have u:=Ö Prod.fst A;have w:=Ö Prod.snd A;dsimp only at u w;rw [show(k.1:Int)-(z.2.2.1:Int)=(f.2.2.2.1:Int) by rfl',show(k.2:Int)-1=(f.2.2.2.2:Int) by rfl']
  .rw [jH (by rw [jf];show m)];show#[_,_, .non,Dp.intsT (SqT.of L),(Vs 1).shaped (by decide),(gR (n:=0) λ x mx=> ?_).shaped (by decide),?_]
   .obtain ⟨y,_,rfl⟩:=Zs.mp mx;show eU _ _
   symm;rw [show PyData.eqv .none (.tuple ([(k.1:Int)-(z.2.2.1:Int),(k.2:Int)-1].map PyData.int))=false by simp [PyData.eqv]];show Ci ?_;apply#[D,t λ v ⟨f,d,e,_⟩=>absurd (Zs.mpr #[f,d,e]) m,_,rfl]
 .rintro I l ⟨s,b,O,rfl⟩;rw [Õ] at b;let#[z,G,v,u,w]:=M;show absurd w (b z G v u)
theorem xm{d:Sd->Prop}{B:Nat->Sd->Sd->Prop}(h:Dj d B F (λ _ _=>False)): ∀(n:Nat)(x:Sd)(k:Ϻ),k.2=n->F x k-> ∃l:ϊ (Sd×(Ϻ)),↑l=n+1/\(∀p∈l,F p.1 p.2/\p.2.2<=n)/\(l.map λ p=>p.2.2).Nodup
 | 0,x,k,e,hf=>#[[(x,k)],rfl,λ p mp=>by rw [Zp.mp mp];show#[hf,ė e],by simp]
 | n+1,x,k,e,hf=>by
  rcases h.s x k (.inl hf) with ⟨_,rfl⟩ | ⟨c,y,v,_,hy,rfl⟩
  .cases e
  .obtain ⟨l,f,a,g⟩:=xm h n y v (ŭ e) hy;show#[(x,(v.1+c,v.2+1))::l,by rw [è,f],λ p mp=> ?_,?_]
   .rcases È.mp mp with rfl | mp
    .show #[hf,ė e]
    .show #[(a p mp).1,Nat.le_succ_of_le (a p mp).2]
   .rw [Ç,û];show#[λ m=> ?_,g];let#[p,mp,b]:=Zs.mp m;have:=(a p mp).2;dsimp only at b e;rfl'
theorem Jk(h:Dj ev B (jo fz) (λ _ _=>False)){x:Sd}(d:jo fz x k):k.2<↑fz:=by
 let#[l,a,b,c]:=xm h _ x k rfl d;have:=eX (l:=l.map λ p=>p.2.2) (m:=fz.map λ f=>f.2.2.2.2) c λ y j=>by
  let#[p,i,rfl]:=Zs.mp j;let#[f,g,_,e]:=(b p i).1;show Zs.mpr #[f,g,by rw [e]]
 rw [Qb,Qb,a] at this;show this
inductive sp_f63(K:Ϗ)(vs:ϊ V)(H:Hp)(Q:VK)(E:XK):Prop
 | mk (f i l m n:ό) (h:Nat) (g:ϵ) (a:ϊ Gz) (j:Sd->ϊ (ϐ×Nat×Sd)) (o:ϊ Int) (b:ϊ Fq) (x:Sd) (u:vs=[.ref f, .ref i, .ref l, .ref m, .ref n]) (v:FnF K H f h g) (w:Fo.Wf h g) (y:Rd H i (cD i (cP a))) (A:(∀z∈a,StT K H z.1 z.2.1/\SsT K H z.2.2 (j z.2.1))) (B:(a.map (·.2.1)).Nodup) (C:(∀z∈a,∀e∈j z.2.1,(∃co,Fo.lk g e.1=!co)/\↑e.1<=1)) (D:FdT K H l b) (F:↑b<=100000) (G:Dj (Qm o (a.map (·.2.1))) (J2 j (a.map (·.2.1))) (jo b) (λ _ _=>False)) (p:StT K H m x) (q:(∃k,jo b x k)) (s:(∃c d:ϐ,H n=!(.tup [.str c, .str d])/\↑c<=200/\↑d<=200)) (t: ∀r H' c d,Same H H'->H' r=!(.tup [.str c, .str d])->Q (.ref r) H')
abbrev Jl K:=(aA (gP (aU (aN (rNeD K) (mZ bJ cF) (dI (bK (tI 0) (tI 0))))) (aA (aJ (bA (sp_f53 K) (lY (mZ b8 cF) bJ (mZ bJ cF))) (ak 6))
  (aA (aJ (bA (sp_f72 K) (lY d7 (tX K jV 0) (aN qK (dF K (jx gw (tX K jV 0))) (dF K (tX K cF 2))))) (ak 4))
  (aJ (tX K jV 2) (ak 3)))))
  (aP d7))
abbrev Jm K(E:XK)(Eh:XK):=(aA (aJ (gA (j7 K) (cM (tX K aX 1))) (ak 5))
  (Jl K))
abbrev Jo:ϊ ϐ:=sN ["font","onward","found","stand","texts","letters","step"]
theorem Vu(h:sp_f63 K vs H Q E):RG (Jm K E) Jo vs H Q:=by
 let#[f,oa,fa,sa,G,h,ls,gz,st,es,I,x,rfl,hF,wf,as,U,ap,am,b,a3,hD,j,#[k,J],#[D,F,A,l0,l1],q]:=h;show#[E0,?_];let#[l,ob,B,h1,ez,av,h3,h4]:=id hF;apply dX h1 ?_;symm;have ar:(B.map (·.2.1)).Nodup:=by
  have:=dY wf.up;rw [<- ez,Å] at this;show this
 have al:=wf.le;have T:↑B=↑ls:=by rw [<- ez,Qb]
 show wV (zs:=B.map λ z:Lz=>(z.1,z.2.1,V.ref z.2.2.1)) av (by rw [Å];show h3) (λ z m=> ?_) (by rw [Å];show ar) (by rw [Qb];show d9 (n6 T al)) λ pc aw=> ?_
 .obtain ⟨y,my,rfl⟩:=Zs.mp m;show SqT.of (h4 y my).1
 rw [Å];let#[O,t]: ∃O,O=upd H pc (HO.dK (B.map ((λ z:ό×ϐ×V=>((Sum.inr z.2.1:Key),z.2.2))∘λ z:Lz=>(z.1,z.2.1,V.ref z.2.2.1)))):=#[_,rfl];have s1:Same H O:=by rw [t];show aq aw _
 have ac:O pc=!(.dK (B.map λ z:Lz=>((Sum.inr z.2.1:Key),V.ref z.2.2.1))):=by rw [t];show aa
 rw [<- t];clear t;symm;walk_at "ns";have a4:=Jk hD J;have ae: ∀{d:Hp},Same H d->Rd d oa (cD oa (cP gz)):=λ s=>by
  rcases as with e | ⟨od,e⟩
  .show .inl (s.get e)
  .show .inr #[od,s.get e]
 have ag: ∀{d:Hp},Same H d-> ∀p∈cP gz,uY d p.1 p.2.1:=λ s p mp=>by
  let#[g,X,rfl]:=Zs.mp mp;show((U g X).1.same s).a
 have S: ∀{d:Hp},Same H d-> ∀p∈cP (mO I),uY d p.1 p.2.1:=λ s=>mQ λ f C=>(b.s f C).1.same s
 show q9 (λ m σ d=>(An2 (Same O d) (Ex7 λ (sa G:ό) (x:Sd) (k:Ϻ) (D F:ϐ) (o6:ύ V)=>(An7 (StT K d sa x) (jo I x k) (k.2=m) (d G=!(.tup [.str D, .str F])) (↑D+m<=100200) (↑F+m<=100200) (σ=[!(.ref f),!(.ref oa),!(.ref fa),!(.ref sa),!(.ref G),!(.ref pc),o6]))))) k.2 #[Same.refl _,sa,G,x,k,D,F,_,j.same s1,J,rfl,s1.get A,(),(),rfl] ?_ ?_
 .rintro m σ d N ⟨s,sa,G,x,k,D,F,o6,j,J,rfl,A,l0,l1,rfl⟩ hN;have sH:=s1.trans s;let#[n,C,ef,ek]:=id J;have ev:dC (cP (mO I)) (iI x)=!(V.ref n.2.2.1):=by
   rw [<- ef];show jP (zs:=mO I) (z:=(n.1,n.2.1,n.2.2.1)) (by rw [jf];show b.n) (Zs.mpr #[n,C,rfl])
  have er:H n.2.2.1=!(.tup [.int (k.1:Nat), .int (k.2:Nat)]):=by rw [<- ek];show(b.s n C).2
  apply#[fa, .ref n.2.2.1,rfl,by rw [<- ev];show SGet.of (sH.get b.d) (S sH) j.a,?_];symm;intro p hp;have i:=sH.new (o:= .tup [.int 0, .int 0]) hp;have sN:=aq (o:= .tup [.int 0, .int 0]) hp;have ep:upd d p (.tup [.int 0, .int 0]) p=!(.tup ([(0:Int),0].map V.int)):=aa;generalize upd d p (.tup [.int 0, .int 0])=H2 at i sN ep ⊢;have e3:H2 n.2.2.1=!(.tup ([(k.1:Int),(k.2:Int)].map V.int)):=i.get er;show rNeD.intsT (SqT.of e3) (SqT.of ep) ?_;show#[_,rfl,?_];show sU (λ c=> ?_) λ c=> ?_
  .have ah:x∈gz.map (·.2.1):=by
    rcases hD.s x k (.inl J) with h | ⟨_,_,_,h,_⟩
    .show h.1.1
    .show h.1
   let#[g,X,eg]:=Zs.mp ah;let#[_,M,z1,z2,z3]:=U g X;have ad:dC (cP gz) (iI x)=!(V.ref g.2.2):=by rw [<- eg];show jP ap X
   apply#[oa, .ref g.2.2,rfl,by rw [<- ad];show SGet.ofR (ae i) (ag i) (j.same sN).a,?_];apply#[fa, .ref n.2.2.1,rfl,by rw [<- ev];show SGet.of (i.get b.d) (S i) (j.same sN).a,?_];symm;have W: ∃z∈M,∃v,jo I z.2.2.2 v/\k=(v.1+z.2.2.1,v.2+1):=by
    rcases hD.s x k (.inl J) with ⟨_,rfl⟩ | ⟨c',y,v,⟨_,sg,ms⟩,hv,e⟩
    .show absurd rfl c
    .have:(sg,c',y)∈M.map (·.2):=by rw [z1,show g.2.1=x from eg];show ms
     let#[z,L,R]:=Zs.mp this;show#[z,L,v,by rw [R];show hv,by rw [R];show e]
   show#[g.2.2,fa,n.2.2.1,M,I,k,rfl,i.get z2,λ z L=>(z3 z L).same i,#[i.get b.d,λ f C=>#[(b.s f C).1.same i,i.get (b.s f C).2],b.n],i.get er,W,λ z L v hv ab H3 Z=> ?_];let#[c',y1,y2]:=(z3 z L).same (i.trans Z);have ay:z.2∈st g.2.1:=by rw [<- z1];show Zs.mpr #[z,L,rfl]
   let#[#[co,af],a5]:=am g X _ ay;apply gn y1 ?_;apply gn y1 ?_;symm;let#[lw,ax,a2,P]:=yP (zs:=B) (s:=z.2.1) (by rw [show B.map (λ z:Lz=>(z.2.1,z.2.2.2))=ls from ez];show af);have a1:=i.trans Z;have Y:=(s.trans sN).trans Z;show#[pc, .ref lw.2.2.1,rfl,by rw [<- P];show DGet.k (k:=Sum.inr z.2.1) (Y.get ac),?_];apply cX (SqT.of (a1.get (h4 lw ax).2)) ?_;let#[sc,u1,u2]:=(j.same sN).same Z;apply jT u1 ?_;apply cX (SqT.of u2) ?_;symm;have ai:k.2=v.2+1:=by rw [ab]
   show#[G,D,F,z.2.1,_,rfl,Z.get (sN.get A),(),λ r H4 v0 v1 s4 er m0 m1=> ?_];apply jT (s4.get y1) ?_;apply hN v.2 _ _ (Xf ai) #[Y.trans s4,c',r,z.2.2.2,v,v0,v1,_,y2.same s4,hv,rfl,er,(),(),rfl]
  .symm;show q G _ D F i (sN.get A)
 .show Qg (YH (Qh K) (λ σ H Q Q' hq z=>by
   let#[v,e,w,e',a,u,h1,h2,h3]:=z;show#[v,e,w,e',a,u,h1,h2,hq _ _ h3]) (λ σ H Q Q' hq z=>#[z.1,λ p hp=>hq _ _ (z.2 p hp)]))
def stD(st:Sd):PySem.PyData:= .tuple [.int st.1, .int st.2.1, .tuple ((st.2.2.map λ n:Nat=>(n:Int)).map PySem.PyData.int)]
theorem Vv(b:Sd):Sh 2 (stD b):=gR λ d a=>by
 simp only [È,å,ĥ] at a;rcases a with rfl | rfl | rfl
 .show eU 1 _
 .show eU 1 _
 .show gR λ d a=>by
   let#[i,_,rfl]:=Zs.mp a;show eU 0 i
theorem YX{K:Ϗ}{b:Sd}(h:StT K H a b):Dp K H (.ref a) (stD b):=by
 let#[c,d,e]:=h;show .tup (SqT.of d) (.cons (.int _) (.cons (.int _) (.cons (Dp.intsT (SqT.of ?_)) .nil)));rw [e,Å];rfl
abbrev gB:=ϐ×ϊ Nat×Int
variable{z:gB×gB×Int}
def qT(z:gB×gB×Int):Nat:=cst z.2.1.2.1 z.1.2.1
def Xh(w:gB):PySem.PyData:= .tuple [.str w.1, .tuple ((w.2.1.map λ n:Nat=>(n:Int)).map PySem.PyData.int), .int w.2.2]
def fkD(z:gB×gB×Int):PySem.PyData:= .tuple [.int (qT z:Nat),stD (lW z), .int z.2.2,Xh z.1,Xh z.2.1]
def xJ(c:Nat)(z:gB×gB×Int):PySem.PyData:= .tuple [.int (c:Nat),fkD z]
theorem Dm(b:ϊ Int)(n:Nat):Sh (n+1) (.tuple (b.map PySem.PyData.int)):=gR λ d a=>by
 let#[i,_,rfl]:=Zs.mp a;show eU n i
def Jp{w:gB}(h:Hs.Sg w.1):Sh 2 (Xh w):=a0z (YC 1 h) (Dm _ 0) (eU 1 _)
theorem Vw(b:Hs.Sg z.1.1)(e:Hs.Sg z.2.1.1):Sh 4 (xJ c z):=gR λ d a=>by
 simp only [È,å,ĥ] at a;rcases a with rfl | rfl
 .show eU 3 _
 .show gR λ d a=> ?_
  simp only [È,å,ĥ] at a;rcases a with rfl | rfl | rfl | rfl | rfl
  .show eU 2 _
  .show Vv _
  .show eU 2 _
  .show Jp b
  .show Jp e
theorem ql: ∀ns ms:ϊ Int,Nk.CmpDs (ns.map PySem.PyData.int) (ms.map PySem.PyData.int)
 | [],_=> .nil
 | _::_,[]=> .over
 | n::ns,m::ms=> .cons (.int n m) (ql ns ms)
def Bg(v w:gB):Nk.CmpD (Xh v) (Xh w):= .tup (.cons (.str _ _) (.cons (.tup (ql _ _)) (.cons (.int _ _) .nil)))
def Qn(c d:Nat)(y z:gB×gB×Int):Nk.CmpD (xJ c y) (xJ d z):= .tup (.cons (.int _ _) (.cons (.tup (.cons (.int _ _) (.cons (.tup (.cons (.int _ _) (.cons (.int _ _) (.cons (.tup (ql _ _)) .nil)))) (.cons (.int _ _) (.cons (Bg _ _) (.cons (Bg _ _) .nil)))))) .nil))
def Jq:PySem.PyData->Int
 | .tuple (.int c::_)=>c
 | _=>0
theorem Vx(c d:Nat)(y z:gB×gB×Int):(Nk.Ah (xJ c y) (xJ d z)=true->Jq (xJ c y)<=Jq (xJ d z))/\(Nk.Ah (xJ c y) (xJ d z)=false->Jq (xJ d z)<=Jq (xJ c y)):=by
 have e:Nk.Ah (xJ c y) (xJ d z)=if PyData.eqv (.int (c:Nat)) (.int (d:Nat))=true then Nk.qO [fkD y] [fkD z] else decide ((c:Int)<(d:Int)):=by
  unfold xJ;rw [Nk.Ah,Nk.qO,Nk.Ah]
 rw [e];change(_->(c:Int)<=(d:Int))/\(_->(d:Int)<=(c:Int));by_cases h:(c:Int)=(d:Int)
 .show #[λ _=>Int.le_of_eq h,λ _=>Int.le_of_eq h.symm]
 .rw [if_neg (by simp [PyData.eqv];show h)];show#[λ h=>Int.le_of_lt (ô h),λ h=>Int.not_lt.mp (Œ h)]
theorem Ro{K:Ϗ}{z:Wz}(h:WyT H z):Dp K H (.ref z.1) (Xh z.2):=by
 let#[c,a,b]:=h;show .tup (SqT.of a) (.cons (.str _) (.cons (Dp.intsT (SqT.of ?_)) (.cons (.int _) .nil)));rw [b,Å];rfl
def YZ{K:Ϗ}{z:Fz}(h:FkA K H z):Dp K H (.ref z.1) (fkD z.2.2.2.2):= .tup (SqT.of h.1) (.cons (.int _) (.cons (YX h.2.1) (.cons (.int _) (.cons (Ro h.2.2.1) (.cons (Ro h.2.2.2) .nil)))))
theorem Rp{c:ϊ (ϊ gB)}(m:z∈nO c rs):z.2.2∈rs/\z.1∈c.getD z.2.2.toNat []/\z.2.1∈c.getD z.2.2.toNat []:=by
 let#[r,d,n]:=ï.mp m;let#[b,j,i]:=ï.mp n;let#[a,e,rfl]:=Zs.mp i;have h:=í.mp j;have e:=í.mp e;have g: ∀k,k<↑(c.getD r.toNat [])->(c.getD r.toNat []).getD k default∈c.getD r.toNat []:=by
  generalize c.getD r.toNat []=l;intro k f;rw [Yf,Qr f];show Ï f
 show#[d,g a (),g b h]
inductive sp_f50(K:Ϗ)(vs:ϊ V)(H:Hp)(Q:VK)(E:XK):Prop
 | mk (f d:ό) (h:Nat) (a:ϵ) (b:L2S) (c:ϊ Int) (i:vs=[.ref f, .ref d]) (j:FnF K H f h a) (l:Fo.Wf h a) (m:HsG K H d b c) (n:YQ a b) (o: ∀N (S:ϊ Sd) (fz:ϊ Fq),↑(cL (b.map (aF a)) N)<=N->(∀x,x∈S↔Mm.Rch (Iz (b.map (aF a)) N) (Nf (b.map (aF a))) x)->(fz.map (·.2.1)).Nodup->Dj (Qm c S) (J2 (Rk a (b.map (aF a))) S) (jo fz) (λ _ _=>False)->((∀z∈nO (b.map (aF a)) (cL (b.map (aF a)) N),∀k,¬jo fz (lW z) k)-> ∀H',Same H H'->Q .non H')/\ ∀r H' (L:Nat) e g,Same H H'->H' r=!(.tup [.int (L:Nat), .str e, .str g])->(∃z∈nO (b.map (aF a)) (cL (b.map (aF a)) N),∃k,jo fz (lW z) k/\L=qT z+k.1)->(∀z∈nO (b.map (aF a)) (cL (b.map (aF a)) N),∀k,jo fz (lW z) k->L<=qT z+k.1)->Q (.ref r) H')
abbrev Jr K:=(aA (bf (aU (aN uX (dF K gw) (tI 0))) (aP (tC V.non)) aV)
  (aA (aJ (gA (uv K) (cM gw)) (ak 6))
  (aA (aJ (bA (sp_f63 K) (dH aX (DP cF d7 (tX K (tX K jV 1) 1) (bA (sp_f4 K) (bK bJ (tX K jV 1)))))) (ak 7))
  (aP (dI (lY (tX K jV 0) (gA (pJ K) (cM uZ)) (gA (pJ K) (cM uZ))))))))
abbrev Js K:=(aA (aJ (bA (sp_f36 K) (bK aX b8)) (ak 3))
  (aA (aJ (bA (sp_f71 K) (bK cF (tX K b8 1))) (ak 4))
  (aA (aJ (lF [none,!4] (bN K (bA (sp_f67 K) (bK aX bJ))) (ak 0) (tB (Y4 (tX K aX 1) b8)) (dI (bK (aN bZ (tX K aX 0) (tX K (mZ b8 (tX K aX 1)) 0)) aX))) (ak 5))
  (Jr K))))
abbrev Jt K(E:XK)(Eh:XK):=(aA (aJ (bA (sp_f56 K) (bK aX b8)) (ak 2))
  (Js K))
abbrev zp:ϊ ϐ:=sN ["font","house","ways","onward","found","pairs","least","texts"]
theorem Vy(h:sp_f50 K vs H Q E):RG (Jt K E) zp vs H Q:=by
 let#[f,ha,h,B,C,es,rfl,hF,wf,hH,sz,q]:=h;show#[E0,?_];have ac:=Bb wf sz;let#[af,aw,bi,b4]:=id sz;have S:↑(C.map (aF B))=↑C:=Qb _;have O: ∀n∈C.map (aF B),↑n<=42:=λ n a=>by
  let#[ps,ae,rfl]:=Zs.mp a;show Ò (ĸ ..) (bi ps ae).1
 have a6: ∀n∈C.map (aF B),∀w∈n,Fo.lk B w.1=!w.2.1:=λ n a w t=>by
  let#[ps,ae,rfl]:=Zs.mp a;let#[p,mp,ep]:=î.mp (show w∈ps.filterMap _ from t);let#[co,bl,rfl]:=Î.mp ep;show bl
 have as: ∀n∈C.map (aF B),∀w∈n,Hs.Sg w.1:=λ n a w t=>wf.sg _ (ac n a w t).1.1
 have ad: ∀n∈C.map (aF B),∀w∈n,↑w.1<=1:=λ n a w t=>by
  let#[k,e]:=as n a w t;rw [e];show Ä _
 have A: ∀{r:Nat}{w:gB},w∈(C.map (aF B)).getD r []-> ∃n∈C.map (aF B),w∈n:=λ {r w} t=>by
  rw [Yf] at t
  cases e:(C.map (aF B))[r]? with
  | none=>rw [e] at t;cases t
  | some n=>rw [e] at t;show#[n,Xs e,t]
 apply#[f,ha,h,B,C,es,rfl,hF,wf,hH,d9 aw,λ ps ae=>by have:=(bi ps ae).1;show d9 this,λ wa H1 s1 b1 hW=> ?_];apply#[f,ha,h,B,C,es,rfl,hF.same s1,wf,hH.same s1,sz,λ oa H2 N gz s2 br hN e2 hg hl a8 hR=> ?_];symm;let#[d,e,rs,a1,a2,a3,a4,a5]:=(hH.same s1).same s2;show dX a1 ?_;apply#[oa,e,gz,Rk B (C.map (aF B)),es,rfl, .inl e2,λ z D=>#[(hg z D).1,(hg z D).2,?_],a8,hl,λ z D u mu=> ?_,SqT.of a5,λ od fa H3 L be bm bv I hD=> ?_]
 .rw [Qb,Yf]
  cases e:(C.map (aF B))[z.2.1.1.toNat]? with
  | none=>show æ _
  | some n=>show O n (Xs e)
 .show (hR _).mpr (.step ((hR _).mp (Zs.mpr #[z,D,rfl])) ?_);let#[w,t,rfl]:=Zs.mp mu;show Zs.mpr #[w,t,rfl]
 let#[qn,qs]:=q N (gz.map (·.2.1)) L hN hR I.n hD;have S3:Same H1 H3:=λ b o e=>be b o (λ m=>by rw [Zp.mp m,br] at e;cases e) (s2.get e)
 have bg: ∀z∈gz,StT K H3 z.1 z.2.1/\SsT K H3 z.2.2 (Rk B (C.map (aF B)) z.2.1):=λ z D=>by
  have ne: ∀{b:ό}{o:HO},H2 b=!o->(∀u,o≠cD oa u)->H3 b=!o:=λ {b o} e hn=>be.get (λ m=>by rw [Zp.mp m,e2] at e;show hn _ (Þ e).symm) e
  let#[#[c,g1,g2],#[zs,k1,k2,k3]]:=hg z D;show#[#[c,ne g1 λ u q=>(by cases q),ne g2 λ u q=>(by cases q)],zs,k1,ne k2 λ u q=>(by cases q),λ y my=> ?_];let#[c',j1,bk,j2,j3]:=k3 y my;show#[c',ne j1 λ u q=>(by cases q),bk,ne j2 λ u q=>(by cases q),ne j3 λ u q=>(by cases q)]
 have bd:=s1.trans S3;apply#[f,wa,h,B,C.map (aF B),rfl,hF.same bd,wf,hW.same S3,DK af S,d9 (n6 S aw),λ n a=>#[by have:=O n a;show d9 this,λ w t=>#[a6 n a w t,by rw [S];show(ac n a w t).2]],λ fk H4 M s4 b0 hM ⟨kz,W,ax,ar⟩=> ?_];rw [Jh hM hN] at W;have bp:↑kz<=100000:=by
  have X:=uK O (cL (C.map (aF B)) N);rw [<- W,Qb] at X;have Y:=eX (l:=cL (C.map (aF B)) N) (m:=(List.range ↑C).map λ i:Nat=>(i:Int)) (gJ _ _ N) λ r mr=>by
   let#[h0,X]:=fG (P:=λ r:Int=>0<=r/\r<↑C) #[by decide,Xe af] (λ p q' hp hq=>by
    let#[w,t,rfl]:=Zs.mp hq;let#[n,a,t]:=A t;show(ac n a w t).2) N r mr
   show Zs.mpr #[r.toNat,í.mpr (qtC X af),An h0]
  rw [Qb,ö] at Y;rfl'
 have ap: ∀z∈kz,z.2.2.2.2∈nO (C.map (aF B)) (cL (C.map (aF B)) N):=λ z D=>by rw [<- W];show Zs.mpr #[z,D,rfl]
 have ay: ∀{H':Hp},Same H4 H'->FdT K H' fa L:=λ s=>#[s.get (s4.get I.d),λ f mf=>#[((I.s f mf).1.same s4).same s,s.get (s4.get (I.s f mf).2)],I.n]
 symm;walk_at "ns";show wQ (λ z:Fz=>V.ref z.1) (zs:=kz) (SqL.of ax) (d9 bp) (λ i ys H'=>(An2 (Same H4 H') (Ex1 λ (G:ϊ (ό×Nat×Fz))=>(An4 (ys=G.map (λ u=>V.ref u.1)) (↑G<=i) (∀u∈G,H' u.1=!(.tup [.int (u.2.1:Nat), .ref u.2.2.1])/\u.2.2∈kz/\ ∃k,jo L (lW u.2.2.2.2.2.2) k/\u.2.1=qT u.2.2.2.2.2.2+k.1) (∀z∈kz.take i,∀k,jo L (lW z.2.2.2.2) k-> ∃u∈G,u.2.1=qT z.2.2.2.2+k.1))))) #[Same.refl _,[],rfl,Ä _,by simp,by simp] ?_ ?_ ?_ ?_
 .rintro i ys H' ⟨s,_⟩;show SqL.of (s.get ax)
 .rintro i ys H' ⟨_,G,rfl,ab,_⟩;rw [Qb];show ab
 .rintro i z ys H' hi ⟨s,G,rfl,ab,F,J⟩;have D:=Xs hi;let#[f1,f2,_,_]:=(ar z D).same s;have Z:=ay s;have ah: ∀{H2:Hp},Same H' H2-> ∀U:ϊ (ό×Nat×Fz),U.length<=1->(∀u∈U,H2 u.1=!(.tup [.int (u.2.1:Nat), .ref u.2.2.1])/\u.2.2∈kz/\ ∃k,jo L (lW u.2.2.2.2.2.2) k/\u.2.1=qT u.2.2.2.2.2.2+k.1)->(∀k,jo L (lW z.2.2.2.2) k-> ∃u∈U,u.2.1=qT z.2.2.2.2+k.1)->(An2 (Same H4 H2) (Ex1 λ (ag:ϊ (ό×Nat×Fz))=>(An4 (G.map (λ u=>V.ref u.1)++U.map (λ u=>V.ref u.1)=ag.map (λ u=>V.ref u.1)) (↑ag<=i+1) (∀u∈ag,H2 u.1=!(.tup [.int (u.2.1:Nat), .ref u.2.2.1])/\u.2.2∈kz/\ ∃k,jo L (lW u.2.2.2.2.2.2) k/\u.2.1=qT u.2.2.2.2.2.2+k.1) (∀z∈kz.take (i+1),∀k,jo L (lW z.2.2.2.2) k-> ∃u∈ag,u.2.1=qT z.2.2.2.2+k.1)))):=λ {H2} s2 U bq X Y=>by
   show#[s.trans s2,G++U,by rw [Jn],by rw [Â];show qkT ab bq,λ u mu=> ?_,λ y my k hk=> ?_]
   .rcases Æ.mp mu with mu | mu
    .show #[s2.get (F u mu).1,(F u mu).2]
    .show X u mu
   .rw [Í,hi] at my;rcases Æ.mp my with my | my
    .obtain ⟨u,mu,e⟩:=J y my k hk;show#[u,Ý _ mu,e]
    .have ey:y=z:=by simpa using my
     rw [ey] at hk ⊢;let#[u,mu,e]:=Y k hk;show#[u,Ü _ mu,e]
  apply dX f1 ?_;apply#[fa,_,rfl,SGet.of Z.d (mQ λ f mf=>(Z.s f mf).1) f2.a,?_];by_cases m:lW z.2.2.2.2∈L.map (·.2.1)
  .obtain ⟨R,mf,ef⟩:=Zs.mp m;have ev:dC (cP (mO L)) (iI (lW z.2.2.2.2))=!(V.ref R.2.2.1):=by
    rw [<- ef];show jP (zs:=mO L) (z:=(R.1,R.2.1,R.2.2.1)) (by rw [jf];show I.n) (Zs.mpr #[R,mf,rfl])
   rw [show dC (cP (mO L)) (iI (nu z.2.2.2.2.1 z.2.2.2.2.2.1.2.2 z.2.2.2.2.2.1.2.1))=!(V.ref R.2.2.1) from ev];show#[true,rfl,Cj ?_];apply dW (SqT.of f1) (aQ (j:=0) (v:= .int (qT z.2.2.2.2:Nat)) (by rfl)) ?_;apply dX f1 ?_;apply#[fa, .ref R.2.2.1,rfl,by rw [<- ev];show SGet.of Z.d (mQ λ f mf=>(Z.s f mf).1) f2.a,?_];apply gn (Z.s R mf).2 ?_;symm;intro p hp;rw [show((qT z.2.2.2.2:Nat):Int)+((R.2.2.2.1:Nat):Int)=((qT z.2.2.2.2+R.2.2.2.1:Nat):Int) by show rfl];show ah (aq hp _) [(p,qT z.2.2.2.2+R.2.2.2.1,z)] (Ä _) (λ u mu=> ?_) λ k ⟨g,mg,e1,e2⟩=>#[_,Ë,?_]
   .rw [Zp.mp mu];show#[aa,D,R.2.2.2,#[R,mf,ef,rfl],rfl]
   .rw [<- e2,gW I.n mg mf (e1.trans ef.symm)]
  .rw [show dC (cP (mO L)) (iI (nu z.2.2.2.2.1 z.2.2.2.2.2.1.2.2 z.2.2.2.2.2.1.2.1))=none from jH (by rw [jf];show m)];symm;have:=ah (Same.refl _) [] (æ _) (by simp) λ k ⟨g,mg,e1,_⟩=>absurd (Zs.mpr #[g,mg,e1]) m
   simpa using this
 rintro ys H5 ⟨s5,G,rfl,ab,F,J⟩ pa a9;rw [Õ] at J;have s6:=s5.new (o:= .lst (G.map λ u=>V.ref u.1)) a9;have al:upd H5 pa (.lst (G.map λ u=>V.ref u.1)) pa=!(.lst (G.map λ u=>V.ref u.1)):=aa;replace F: ∀u∈G,upd H5 pa (.lst (G.map λ u=>V.ref u.1)) u.1=!(.tup [.int (u.2.1:Nat), .ref u.2.2.1])/\u.2.2∈kz/\ ∃k,jo L (lW u.2.2.2.2.2.2) k/\u.2.1=qT u.2.2.2.2.2.2+k.1:=λ u mu=>#[aH a9 (F u mu).1,(F u mu).2]
 generalize upd H5 pa (.lst (G.map λ u=>V.ref u.1))=H6 at s6 al F ⊢;have av:=bd.trans s4;apply ux al ?_;apply fL (λ c=> ?_) λ c=> ?_
 .symm;have bs:G=[]:=Ŀ.mp (PN c);show qn (λ z D k hk=> ?_) _ (av.trans s6);rw [<- W] at D;let#[y,my,rfl]:=Zs.mp D;let#[u,mu,_]:=J y my k hk;rw [bs] at mu;cases mu
 symm;have ai: ∀z∈kz,Hs.Sg z.2.2.2.2.1.1/\Hs.Sg z.2.2.2.2.2.1.1:=λ z D=>by
  let#[_,m1,m2]:=Rp (ap z D);let#[w1,n1,o1]:=A m1;let#[w2,n2,o2]:=A m2;show#[as w1 n1 _ o1,as w2 n2 _ o2]
 show Qi (us:=G.map λ u=>(V.ref u.1,xJ u.2.1 u.2.2.2.2.2.2)) Jq (by rw [Å];show SqL.of al) (λ e=>c (by rw [List.map_eq_nil_iff.mp e];rfl)) (λ v mv=> ?_) (λ v mv w t=> ?_) λ v mv a7=> ?_
 .obtain ⟨u,mu,rfl⟩:=Zs.mp mv;let#[X,Y,_]:=F u mu;have:=Vw (c:=u.2.1) (ai _ Y).1 (ai _ Y).2;show#[.tup (SqT.of X) (.cons (.int _) (.cons (YZ ((ar _ Y).same s6)) .nil)),this.1,Ò this.2 (by decide)]
 .obtain ⟨u,mu,rfl⟩:=Zs.mp mv;let#[u',bb,rfl]:=Zs.mp t;show#[Qn _ _ _ _,Vx _ _ _ _]
 let#[u,mu,rfl]:=Zs.mp mv;let#[X,Y,k,hk,ek]:=F u mu;let#[g1,g2,g3]:=Rp (ap _ Y);let#[w1,n1,o1]:=A g2;let#[w2,n2,o2]:=A g3;have am:=(ar _ Y).same s6;apply dX X ?_;apply dX am.1 ?_;apply dX X ?_;apply#[wa,C.map (aF B),u.2.2,N,rfl,((hW.same S3).same s4).same s6,DK af S,d9 (n6 S aw),λ n a=>#[by have:=O n a;show d9 this,λ w t=>#[ad n a w t,by rw [S];show(ac n a w t).2]],am,hN,g1,ad w1 n1 _ o1,ad w2 n2 _ o2,λ ta H7 t0 t1 s7 bn l0 l1=> ?_];symm;have T:=s6.trans s7;show#[f,oa,fa,u.2.2.2.1,ta,h,B,gz,Rk B (C.map (aF B)),es,L,lW u.2.2.2.2.2.2,rfl,hF.same (av.trans T),wf, .inr #[od,T.get (s4.get bm)],λ z D=>#[((bg z D).1.same s4).same T,((bg z D).2.same s4).same T],a8,λ z D y my=> ?_,ay T,?_,hD,am.2.1.same s7,#[k,hk],#[t0,t1,bn,l0,l1],λ r H8 v0 v1 s8 er=> ?_]
 .obtain ⟨w,t,rfl⟩:=Zs.mp my;let#[n,a,t]:=A t;show#[#[_,a6 n a w t],ad n a w t]
 .have:=eX (l:=L.map (·.2.1)) (m:=gz.map (·.2.1)) I.n λ x mx=>by
   let#[g,mg,rfl]:=Zs.mp mx;rcases hD.s g.2.1 g.2.2.2 (.inl #[g,mg,rfl,rfl]) with h | ⟨_,_,_,h,_⟩
   .show h.1.1
   .show h.1
  rw [Qb,Qb] at this;rfl'
 apply gn (s8.get (s7.get X)) ?_;apply Hq (ss:=[v0,v1]) (SqT.of er) (by simp) λ m1 b2=> ?_
 apply Hq (ss:=[v0,v1]) (SqT.of er) (by simp) λ m2 b3=> ?_
 symm;intro p hp;show qs p _ u.2.1 m1 m2 (((av.trans T).trans s8).new hp) aa #[_,ap _ Y,k,hk,ek] λ z D k' bo=> ?_
 rw [<- W] at D;let#[y,my,rfl]:=Zs.mp D;let#[u',bb,e']:=J y my k' bo;have:=a7 _ (Zs.mpr #[u',bb,rfl]);have h9:(u.2.1:Int)<=(u'.2.1:Int):=this;show qfL (qcL h9) (e'.symm)
inductive sp_f69(K:Ϗ)(vs:ϊ V)(H:Hp)(Q:VK)(E:XK):Prop
 | mk (f d:ό) (h:Nat) (a:ϵ) (b:L2S) (c:ϊ Int) (e:vs=[.ref f, .ref d]) (g:FnF K H f h a) (i:Fo.Wf h a) (j:HsG K H d b c) (l:YQ a b) (m: ∀N (S:ϊ Sd) (fz:ϊ Fq),↑(cL (b.map (aF a)) N)<=N->(∀x,x∈S↔Mm.Rch (Iz (b.map (aF a)) N) (Nf (b.map (aF a))) x)->(fz.map (·.2.1)).Nodup->Dj (Qm c S) (J2 (Rk a (b.map (aF a))) S) (jo fz) (λ _ _=>False)->((∀z∈nO (b.map (aF a)) (cL (b.map (aF a)) N),∀k,¬jo fz (lW z) k)-> ∀H',Same H H'->Q .non H')/\ ∀H' (L:Nat),Same H H'->(∃z∈nO (b.map (aF a)) (cL (b.map (aF a)) N),∃k,jo fz (lW z) k/\L=qT z+k.1)->(∀z∈nO (b.map (aF a)) (cL (b.map (aF a)) N),∀k,jo fz (lW z) k->L<=qT z+k.1)->Q (.int (((L:Int)-1) / 2)) H')
abbrev Ju K(E:XK)(Eh:XK):=(aA (aJ (bA (sp_f50 K) (bK aX b8)) (ak 2))
  (aA (bf (aU (aN mY bJ (tC V.non))) (aP (tC V.non)) aV)
  (aP (aN TX (aN lG (tX K bJ 0) (tI 1)) (tI 2)))))
abbrev Jv:ϊ ϐ:=sN ["font","house","told"]
theorem Vz(h:sp_f69 K vs H Q E):RG (Ju K E) Jv vs H Q:=by
 let#[f,t,h,u,l,n,rfl,p,w,s,v,q]:=h;show#[E0,?_];apply#[f,t,h,u,l,n,rfl,p,w,s,v,λ N S d g i j e=>#[λ o k c=> ?_,λ r k L x y c m b a=> ?_]]
 .symm;show(q N S d g i j e).1 o _ c
 .symm;rw [Ú (show ¬V.ref r=V.non from λ z=>by cases z)];apply gn m ?_;apply(q N S d g i j e).2 _ L c b a
inductive sp_f14(K:Ϗ)(vs:ϊ V)(H:Hp)(Q:VK)(E:XK):Prop
 | mk (b:Nat) (p:ό) (a:ϊ Nat) (c:vs=[.int b, .ref p]) (d:SqL K H p (nv a)) (e:1<=↑a) (f:↑a<=8) (g:(∀x∈a,x<2^b)) (h: ∀t H',Same H H'->H t=none->H' t=!(.tup (nv a))->Q (.ref t) H')
abbrev Jw K(E:XK)(Eh:XK):=(aA (bf (fV (aU (iU nJ nJ (tI 1) (dF K b8) (tI 8)))) bO aV)
  (aA (cu (bN K b8) (ak 2) (bf (fV (fJ K (bA (sp_f40 K) (bK aX bJ)))) bO aV))
  (aP (gA (iw K) (cM b8)))))
abbrev Jx:ϊ ϐ:=sN ["height","columns","column"]
theorem VB(h:sp_f14 K vs H Q E):RG (Jw K E) Jx vs H Q:=by
 let#[b,p,f,rfl,g,k,n,l,q]:=h;show#[E0,?_];symm;rw [Qb,Ø (by show qd1 k:(1:Int)<=(↑f:Int)),Ø (by rfl':(↑f:Int)<=8),Bool.and_self];apply cV (λ i:Nat=>V.int (i:Int)) (zs:=f) g (λ i d j=>(An2 (H=j) (Ex1 λ o=>d=[!(.int (b:Nat)),!(.ref p),o]))) #[rfl,none,rfl] ?_ ?_ ?_
 .rintro i d _ ⟨rfl,_⟩;show g
 .rintro i c d _ m ⟨rfl,o,rfl⟩;apply#[b,_,rfl,trivial,?_];have e:isc b (.int (c:Int))=true:=by
   have:=l c (Xs m);change(decide ((0:Int)<=(c:Int))&&decide ((c:Int)<2^b))=true;rw [Ø (PP _),Ø (by rw [<- Bx.jA];show qdT this)];rfl
  rw [e];apply#[rfl,_,rfl]
 .rintro d _ ⟨rfl,o,rfl⟩;apply nZ g λ t a=>q t _ (aq a _) a aa
inductive sp_f41(K:Ϗ)(vs:ϊ V)(H:Hp)(Q:VK)(E:XK):Prop
 | mk (a:Nat) (p:ό) (b:ϊ Lz) (c:vs=[.int a, .ref p]) (d:1<=a) (e:a<=60) (g:PrL H p b) (h:Fo.GoodL a b) (i: ∀f H' ls,Same H H'->FnF K H' f a ls->Fo.Of b ls->Q (.ref f) H')
abbrev Jy K:=(aA (cu (bN K b8) (ie K 2 (bD (ak 3) (bD (ak 4) iK))) (aA (bf (fV (fJ K (bA (sp_f51 K) (cM cF)))) bO aV)
  (aA (bf (tB (Fe cF bJ)) bO aV)
  (jY bJ cF (bA (sp_f14 K) (bK aX d7))))))
  (aP (dI (bK aX (gA (Ac K) (cM (ue bJ)))))))
abbrev Jz K(E:XK)(Eh:XK):=(aA (bf (fV (fJ K (bA (sp_f37 K) (cM aX)))) bO aV)
  (aA (bf (fV (aU (iU nJ nJ (tI 1) (dF K b8) (tI 40)))) bO aV)
  (aA (aJ kO (ak 2))
  (Jy K))))
abbrev JB:ϊ ϐ:=sN ["height","letters","made","sign","columns"]
theorem VD(h:sp_f41 K vs H Q E):RG (Jz K E) JB vs H Q:=by
 let#[P,p,c,rfl,h1,af,T,M,q]:=h;show#[E0,?_];have hl:=M.le;have ae:=M.pos;have ag:SqL K H p (c.map λ z:Lz=>V.ref z.1):=SqL.of T.1;apply#[_,rfl,trivial,?_];have e:hgt (.int (P:Int))=true:=by
  change(decide ((1:Int)<=(P:Int))&&decide ((P:Int)<=60))=true;rw [Ø (qd1 h1),Ø ()];rfl
 rw [e];symm;rw [Qb,Ø (by show qd1 ae:(1:Int)<=(↑c:Int)),Ø (by rfl':(↑c:Int)<=40),Bool.and_self];symm;intro m hm;symm;have o: ∀p'∈[m],H p'=none:=λ p' ad=>by rw [Zp.mp ad];show hm
 show cV (λ z:Lz=>V.ref z.1) (zs:=c) (jN hm (SqL.of T.1)) (λ i W I=>(Ex1 λ (a:ϊ Kz)=>(An5 (Sb [m] H I) (I m=!(.dK (dcK a))) (a.map (λ k:Kz=>(k.1,k.2.2))=(c.take i).map (λ z:Lz=>(z.2.1,z.2.2.2))) (∀k∈a,I k.2.1=!(.tup (nv k.2.2))) (Ex2 λ o1 o2=>W=[!(.int (P:Nat)),!(.ref p),!(.ref m),o1,o2])))) #[[],Sb.of (aq hm _),aa,rfl,by simp,none,none,rfl] ?_ ?_ ?_
 .rintro i W I ⟨a,G,_⟩;show SqL.of (G.at o T.1)
 .rintro i ⟨b,s,ca,Y⟩ W I hi ⟨a,G,L,C,U,o1,o2,rfl⟩;have ah:i<↑c:=(À.mp hi).1;have v:=Xs hi;let#[tz,tc]:=T.2 _ v;have sg:=M.sg _ v;have X:=M.c1 _ v;have cb:=M.cb _ v;dsimp only at tz tc sg X cb;have et:c.take (i+1)=c.take i++[(b,s,ca,Y)]:=by rw [Í,hi];rfl
  have N:↑a<=i:=by have:=Ö List.length C;rw [Qb,Qb,Ð] at this;show Y9 this
  have O:(Sum.inr s:Key)∉a.map (λ k:Kz=>(Sum.inr k.1:Key)):=by
   intro z;let#[y,my,ey]:=Zs.mp z;have J:y.1=s:=Ň ey;have m1:(y.1,y.2.2)∈(c.take i).map (λ z:Lz=>(z.2.1,z.2.2.2)):=by rw [<- C];show Zs.mpr #[y,my,rfl]
   let#[x,mx,ex]:=Zs.mp m1;have B:((c.take (i+1)).map λ z:Lz=>z.2.1).Nodup:=Ă ((Ď _ _).map _) M.nd;rw [et,Jn,à] at B;show B.2.2 _ (Zs.mpr #[x,mx,rfl]) s (by simp) ?_;have:=Ö (·.1) ex;dsimp only at this;rw [this,J]
  have hv:bM (dcK a) (Sum.inr s)=none:=fC (f:=λ k:Kz=>(Sum.inr k.1:Key)) (g:=λ k:Kz=>V.ref k.2.1) O;show cU (SqT.of (G.at o tz)) rfl ?_;apply#[_,rfl,by let#[k,rfl]:=sg;change↑(tx [Hs.uA k])<=100000;rw [aM];simp,?_];rw [uF sg];apply#[m,_,rfl,DGet.k (k:=Sum.inr s) L,?_];rw [hv];symm;change if false=true then _ else _
  apply#[P,ca,Y,rfl,SqL.of (G.at o tc),X.1,X.2,cb,λ t H2 A ai J=> ?_];apply#[m,_,rfl,DPut.k (k:=Sum.inr s) (A.get L) (Û (by unfold dcK;rw [Qb];rfl':_<=64) (by decide)),?_];rw [dh _ hv];apply#[a++[(s,t,Y)],(G.same A).set (by simp),by rw [aa];unfold dcK;rw [Jn];rfl,by rw [Jn,C,et,Jn];rfl,λ k mk=> ?_,_,_,rfl];rcases Æ.mp mk with mk | mk
  .rw [au (jd (A.get (U k mk)) (A.get L))];show A.get (U k mk)
  .rw [Zp.mp mk];rw [au (jd J (A.get L))];show J
 .rintro W I ⟨a,G,L,C,U,o1,o2,rfl⟩;rw [Õ] at C;have N:↑a=↑c:=by have:=Ö List.length C;rw [Qb,Qb] at this;show this
  have S:=G.off o;apply#[m,a.map λ k:Kz=>(k.1,V.ref k.2.1),rfl,by rw [Å];show L,by rw [Qb];show qaV (n6 N hl),λ r d H2 hp hs hr A J hw=> ?_];apply Ut (SqL.of J) λ l ob ac F=> ?_
  symm;intro f Z;let#[n,pk,D]:=nj hp;have R:↑d=↑n:=by have:=Ö List.length D;rw [Qb,Qb] at this;show this
  have hz: ∀(j:Nat) w k,d[j]? =!w->n[j]? =!k->w.2=(k.1,V.ref k.2.1):=λ j w k hj ab=>by
   have:=Ö (λ l=>l[j]?) D;simp only [Wp,hj,ab,Ŕ] at this;show Þ this
  have e4:((d.zip n).map λ q=>(q.1.1,q.2.1,q.2.2.1,q.2.2.2):ϊ Lz).map (λ z:Lz=>V.ref z.1)=d.map λ z=>V.ref z.1:=by
   rw [Å,show((λ z:Lz=>V.ref z.1)∘λ q:(ό×ϐ×V)×Kz=>(q.1.1,q.2.1,q.2.2.1,q.2.2.2))=(λ w:ό×ϐ×V=>V.ref w.1)∘Prod.fst from rfl,<- Å,List.map_fst_zip (ė R)]
  have e5:((d.zip n).map λ q=>(q.1.1,q.2.1,q.2.2.1,q.2.2.2):ϊ Lz).map (λ z:Lz=>(z.2.1,z.2.2.2))=n.map λ k:Kz=>(k.1,k.2.2):=by
   rw [Å,show((λ z:Lz=>(z.2.1,z.2.2.2))∘λ q:(ό×ϐ×V)×Kz=>(q.1.1,q.2.1,q.2.2.1,q.2.2.2))=(λ k:Kz=>(k.1,k.2.2))∘Prod.snd from rfl,<- Å,List.map_snd_zip (n6 (R.symm) (Ä _))]
  show q f _ (n.map λ k:Kz=>(k.1,k.2.2)) (((S.trans A).new F).new Z) #[l,ob,(d.zip n).map λ q=>(q.1.1,q.2.1,q.2.2.1,q.2.2.2),aa,e5,ac,by rw [e4];walk_at "hp",λ z mz=> ?_] #[?_,?_]
  .obtain ⟨y,my,rfl⟩:=Zs.mp mz;let#[j,hj,ej]:=ā.mp my;have u:j<↑d/\j<↑n:=by rw [List.length_zip] at hj;rfl'
   rw [List.getElem_zip] at ej;have e6:=hz j d[j] n[j] (Qr u.1) (Qr u.2);subst ej;have w1:=hw _ (Ï u.1);rw [e6] at w1;have k1:=U _ (pk.mem_iff.mp (Ï u.2));show#[aH Z (aH F w1),aH Z (aH F (A.get k1))]
  .rw [<- C];show pk.map _
  .rw [Å,show((λ p:ϐ×ϊ Nat=>p.1)∘λ k:Kz=>(k.1,k.2.2))=λ k:Kz=>k.1 from rfl];have:d.map (·.2.1)=n.map λ k:Kz=>k.1:=by
    rw [show d.map (·.2.1)=(d.map (·.2)).map (·.1) by rw [Å];rfl,D,Å];rfl
   rw [<- this];show hs
inductive sp_f17(K:Ϗ)(vs:ϊ V)(H:Hp)(Q:VK)(E:XK):Prop
 | mk (f:ό) (b:Nat) (a:ϵ) (s:ϐ) (c:ϊ Nat) (d:vs=[.ref f, .str s]) (e:↑s<=100000) (g:FnT K H f b a) (h:(∀p∈a,Hs.Sg p.1)) (i:Fo.lk a s=!c) (j: ∀r,H r=none->Q (.ref r) (upd H r (.lst (nv c))))
abbrev JC K(E:XK)(Eh:XK):=(aA (bf (fJ K (bA (sp_f51 K) (cM b8))) (cu (oH K (tX K aX 1)) (ie K 2 (bD (ak 2) (bD (ak 3) iK))) (bf (aU (aN uX bJ b8)) (aP (gA (fY K) (cM cF))) aV)) aV)
  bO)
abbrev JD:ϊ ϐ:=sN ["font","sign","letter","columns"]
theorem VF(h:sp_f17 K vs H Q E):RG (JC K E) JD vs H Q:=by
 let#[f,L,m,s,c,rfl,F,B,k,u,q]:=h;show#[E0,?_];let#[l,y,I,t,C,x,A]:=B.at;apply#[.str s,rfl,F,?_];rw [uF (k _ (Fo.cH u))];apply Um y ?_;show sV (λ z:Lz=>V.ref z.1) t (λ i d v=>(An3 (H=v) (Fo.lk (m.drop i) s=!c) (Ex2 λ n o=>d=[!(.ref f),!(.str s),n,o]))) #[rfl,u,none,none,rfl] ?_ ?_ ?_
 .rintro i d _ ⟨rfl,_⟩;show t
 .rintro i ⟨b,G,J,w⟩ d _ g ⟨rfl,e,n,o,rfl⟩;have p:=A _ (Xs g);dsimp only at p;have j:i<↑I:=(À.mp g).1;have a:m.drop i=(G,w)::m.drop (i+1):=by
   rw [<- x,ı (by simpa using j),ú,(À.mp g).2]
  rw [a,Fo.gH] at e;apply cU p.1 rfl ?_;apply fL (λ c=> ?_) λ c=> ?_
  .symm;show mJ p.2 λ r D=> ?_
   rw [if_pos c] at e
   cases e;show q r D
  .symm;show#[rfl,by rw [if_neg c] at e;show e,_,_,rfl]
 .rintro d _ ⟨rfl,e,n,o,rfl⟩;rw [C,List.drop_length] at e
  cases e
inductive sp_f16(K:Ϗ)(vs:ϊ V)(H:Hp)(Q:VK)(E:XK):Prop
 | mk (n:Nat) (a:vs=[.int n]) (b:1<=n) (c:n<=40) (d:Q .non H)
abbrev JF(K:Ϗ)(E:XK)(Eh:XK):=(bf (fV (aU (iU nJ nJ (tI 1) aX (tI 40)))) bO aV)
abbrev JG:ϊ ϐ:=sN ["rooms"]
theorem VG(h:sp_f16 K vs H Q E):RG (JF K E) JG vs H Q:=by
 let#[n,rfl,a,b,q]:=h;show#[E0,?_];symm;rw [Ø (by show qd1 a:(1:Int)<=n),Ø (by rfl':(n:Int)<=40)];apply q
inductive sp_f20(K:Ϗ)(vs:ϊ V)(H:Hp)(Q:VK)(E:XK):Prop
 | mk (r:Int) (n:Nat) (a:vs=[.int r, .int n]) (b:0<=r) (c:r<n) (d:Q .non H)
abbrev JH K(E:XK)(Eh:XK):=(bf (fV (qD (fJ K (bA (sp_f44 K) (cM aX))) (aU (iU nJ Fw (tI 0) aX b8)))) bO aV)
abbrev JK:ϊ ϐ:=sN ["room","rooms"]
theorem VH(h:sp_f20 K vs H Q E):RG (JH K E) JK vs H Q:=by
 let#[r,n,rfl,a,b,q]:=h;show#[E0,?_];apply#[_,rfl,trivial,?_];symm;change if true=true then _ else _
 symm;rw [Ø a,Ø b];apply q
inductive sp_f23(K:Ϗ)(vs:ϊ V)(H:Hp)(Q:VK)(E:XK):Prop
 | mk (a:ό) (b:ϊ Dz) (n:Nat) (c:vs=[.ref a, .int n]) (d:SqL K H a (b.map λ z:Dz=>V.ref z.1)) (e:(∀z∈b,SqT K H z.1 [.str z.2.1, .int z.2.2]/\Hs.Sg z.2.1/\0<=z.2.2/\z.2.2<n)) (f:(b.map (·.2.1)).Nodup) (g:↑b<64) (h: ∀r H' ps,Same H H'->DrT K H' r ps->ps.Perm (b.map (·.2))->(ps.map (·.1)).Pairwise qM->Q (.ref r) H')
abbrev JL K:=(aA (cu (bN K aX) (ie K 2 (bD (ak 3) (bD (ak 4) iK))) (aA (bf (fV (fJ K (bA (sp_f51 K) (cM cF)))) bO aV)
  (aA (bf (tB (Fe cF bJ)) bO aV)
  (aA (cT (bA (sp_f20 K) (bK d7 b8)))
  (jY bJ cF d7)))))
  (aP (gA (iw K) (cM (ue bJ)))))
abbrev JM K(E:XK)(Eh:XK):=(aA (aJ kO (ak 2))
  (JL K))
abbrev JN:ϊ ϐ:=sN ["pairs","rooms","made","sign","room"]
theorem VJ(h:sp_f23 K vs H Q E):RG (JM K E) JN vs H Q:=by
 let#[a,c,n,rfl,N,hz,F,v,q]:=h;show#[E0,?_];symm;intro m D;symm;have e: ∀R∈[m],H R=none:=λ R j=>by rw [Zp.mp j];show D
 show cV (λ z:Dz=>V.ref z.1) (zs:=c) (jN D N) (λ i A o=>(An3 (Sb [m] H o) (o m=!(.dK ((c.take i).map λ z:Dz=>((Sum.inr z.2.1:Key),V.int z.2.2)))) (Ex2 λ G I=>A=[!(.ref a),!(.int (n:Nat)),!(.ref m),G,I]))) #[Sb.of (aq D _),aa,none,none,rfl] ?_ ?_ ?_
 .rintro i A o ⟨l,_⟩;show l.seq e N
 .rintro i ⟨b,s,r⟩ A o C ⟨l,u,G,I,rfl⟩;have Z:i<↑c:=(À.mp C).1;let#[X,J,U,W]:=hz _ (Xs C);dsimp only at X J U W;have M:c.take (i+1)=c.take i++[(b,s,r)]:=by rw [Í,C];rfl
  have w:(Sum.inr s:Key)∉(c.take i).map λ z:Dz=>(Sum.inr z.2.1:Key):=by
   intro z;let#[y,my,Y]:=Zs.mp z;have B:y.2.1=s:=Ň Y;have d:((c.take (i+1)).map (·.2.1)).Nodup:=Ă ((Ď _ _).map _) F;rw [M,Jn,à] at d;show d.2.2 _ (Zs.mpr #[y,my,rfl]) s (by simp) B
  have P:=fC (f:=λ z:Dz=>(Sum.inr z.2.1:Key)) (g:=λ z:Dz=>V.int z.2.2) w;show cU ((l.off e).tup X) rfl ?_;apply#[_,rfl,by let#[k,rfl]:=J;change↑(tx [Hs.uA k])<=100000;rw [aM];simp,?_];rw [uF J];apply#[m,_,rfl,DGet.k (k:=Sum.inr s) u,?_];rw [P];symm;change if false=true then _ else _
  apply#[r,n,rfl,U,W,?_];apply#[m,_,rfl,DPut.k (k:=Sum.inr s) u (Û (by rw [Qb,Ð];show Xd (ñ v):_<=64) (by decide)),?_];rw [dh _ P];apply#[l.set (by simp),by rw [aa,M,Jn];rfl,_,_,rfl]
 .rintro A o ⟨l,u,G,I,rfl⟩;rw [Õ] at u;have S:=l.off e;apply#[m,c.map λ z:Dz=>(z.2.1,V.int z.2.2),rfl,by rw [Å];show u,by rw [Qb];show v,λ r x H2 hp hs hr s2 B hw=> ?_];apply nZ (SqL.of B) λ t O=> ?_
  have j:(x.map (·.2)).Perm ((c.map (·.2)).map λ p:ϐ×Int=>(p.1,V.int p.2)):=by rw [Å];show hp
  let#[T,pp,L]:=nj j;show q t _ T ((S.trans s2).new O) (DrT.of aa (λ z mz=>aH O (hw z mz)) L) pp ?_;have:(x.map (·.2.1))=T.map (·.1):=by
   rw [show x.map (·.2.1)=(x.map (·.2)).map (·.1) by rw [Å];rfl,L,Å];rfl
  rw [<- this];show hs
inductive sp_f33(K:Ϗ)(vs:ϊ V)(H:Hp)(Q:VK)(E:XK):Prop
 | mk (a:ό) (b:ϊ Int) (n:Nat) (c:vs=[.ref a, .int n]) (d:SqL K H a (b.map V.int)) (e:(∀x∈b,0<=x/\x<n)) (f:b.Nodup) (g:↑b<64) (h: ∀r H' (es:ϊ Int),Same H H'->H' r=!(.tup (es.map V.int))->es.Perm b->es.Pairwise (· < ·)->Q (.ref r) H')
abbrev JP K(E:XK)(Eh:XK):=(aA (aJ kO (ak 2))
  (aA (cu (bN K aX) (ak 3) (aA (cT (bA (sp_f20 K) (bK cF b8)))
  (aA (bf (tB (Fe cF bJ)) bO aV)
  (jY bJ cF (tC (V.bl true))))))
  (aP (gA (iw K) (cM (gA ud (cM bJ)))))))
abbrev JQ:ϊ ϐ:=sN ["ends","rooms","made","end"]
theorem VL(h:sp_f33 K vs H Q E):RG (JP K E) JQ vs H Q:=by
 let#[a,c,n,rfl,C,R,w,j,q]:=h;show#[E0,?_];symm;intro m v;symm;have l: ∀G∈[m],H G=none:=λ G x=>by rw [Zp.mp x];show v
 show cV V.int (zs:=c) (jN v C) (λ i s d=>(An3 (Sb [m] H d) (d m=!(.dK ((c.take i).map λ z:Int=>((Sum.inl z:Key),V.bl true)))) (Ex1 λ A=>s=[!(.ref a),!(.int (n:Nat)),!(.ref m),A]))) #[Sb.of (aq v _),aa,none,rfl] ?_ ?_ ?_
 .rintro i s d ⟨p,_⟩;show p.seq l C
 .rintro i r s d u ⟨p,e,A,rfl⟩;have M:i<↑c:=(À.mp u).1;let#[U,W]:=R _ (Xs u);have B:c.take (i+1)=c.take i++[r]:=by rw [Í,u];rfl
  have o:(Sum.inl r:Key)∉(c.take i).map λ z:Int=>(Sum.inl z:Key):=by
   intro z;let#[y,T,L]:=Zs.mp z;have I:y=r:=Sum.inl.inj L;have b:(c.take (i+1)).Nodup:=Ă (Ď _ _) w;rw [B,à] at b;show b.2.2 _ T r (by simp) I
  have F:=fC (f:=λ z:Int=>(Sum.inl z:Key)) (g:=λ _:Int=>V.bl true) o;apply#[r,n,rfl,U,W,?_];apply#[m,_,rfl,DGet.k (k:=Sum.inl r) e,?_];rw [F];symm;change if false=true then _ else _
  apply#[m,_,rfl,DPut.k (k:=Sum.inl r) e (Û (by rw [Qb,Ð];show Xd (ñ j):_<=64) (by decide)),?_];rw [dh _ F];apply#[p.set (by simp),by rw [aa,B,Jn];rfl,_,rfl]
 .rintro s d ⟨p,e,A,rfl⟩;rw [Õ] at e;have S:=p.off l;apply Hh (kvs:=c.map λ z:Int=>(z,V.bl true)) (by rw [Å];show e) (by rw [Qb];show j) λ r J D O N=> ?_
  rw [Å] at D;apply nZ (SqL.of aa) λ t P=> ?_
  show q t _ J ((S.new N).new P) aa (by simpa [Function.comp_def] using D) O
inductive sp_f26(K:Ϗ)(vs:ϊ V)(H:Hp)(Q:VK)(E:XK):Prop
 | mk (d e:ό) (a:ϊ (ό×ϊ Dz)) (c:ϊ Int) (f:vs=[.ref d, .ref e]) (g:SqL K H d (a.map λ r:ό×ϊ Dz=>V.ref r.1)) (h:(∀b∈a,SqL K H b.1 (b.2.map λ z:Dz=>V.ref z.1)/\(∀z∈b.2,SqT K H z.1 [.str z.2.1, .int z.2.2]/\Hs.Sg z.2.1/\0<=z.2.2/\z.2.2<↑a)/\(b.2.map (·.2.1)).Nodup/\↑b.2<64)) (i:SqL K H e (c.map V.int)) (j:(∀x∈c,0<=x/\x<↑a)) (k:c.Nodup) (l:↑c<64) (m:1<=↑a) (n:↑a<=40) (o: ∀r H' ds es,Same H H'->HsT K H' r ds es->Hs.Srt a ds->es.Perm c->es.Pairwise (· < ·)->Q (.ref r) H')
abbrev JR K(E:XK)(Eh:XK):=(aA (aJ (dF K aX) (ak 2))
  (aA (cT (bA (sp_f16 K) (cM bJ)))
  (aP (dI (bK (gA (iw K) (cM (lF [none,!2] (bN K aX) (ak 0) dB (bA (sp_f23 K) (bK aX b8))))) (bA (sp_f33 K) (bK b8 bJ)))))))
abbrev zq:ϊ ϐ:=sN ["doors","ends","rooms"]
theorem VM(h:sp_f26 K vs H Q E):RG (JR K E) zq vs H Q:=by
 let#[d,e,c,xs,rfl,y,n,hE,hx,J,I,D,F,q]:=h;show#[E0,?_];apply bQ y ?_;rw [Qb];apply#[↑c,rfl,D,F,?_];apply wQ (λ r:ό×ϊ Dz=>V.ref r.1) (zs:=c) y () (λ k u i=>(Ex1 λ (g:ϊ (ό×L1S))=>(An4 (u=g.map (λ t=>V.ref t.1)) (↑g=k) (Same H i) (∀(j:Nat) t,g[j]? =!t->DrT K i t.1 t.2/\ ∀b,c[j]? =!b->t.2.Perm (b.2.map (·.2))/\(t.2.map (·.1)).Pairwise qM)))) #[[],rfl,rfl,Same.refl _,by simp] ?_ ?_ ?_ ?_
 .rintro k u i ⟨g,rfl,_,s,_⟩;show s.seq y
 .rintro k u i ⟨g,rfl,rfl,_⟩;simp
 .rintro k b u i l ⟨g,rfl,B,s,o⟩;let#[g1,L,g3,g4]:=n b (Xs l);apply#[b.1,b.2,↑c,rfl,s.seq g1,λ z m=>#[s.tup (L z m).1,(L z m).2],g3,g4,λ r H2 M O A C hs=> ?_];show#[g++[(r,M)],by simp,by simp [B],s.trans O,λ j t f=> ?_];rcases Đ j ↑g with w | w
  .rw [ç w] at f;show#[(o j t f).1.same O,(o j t f).2]
  .rw [ä w] at f;have W:j-↑g=0:=by
    have:=(À.mp f).1;simp at this;rfl'
   rw [W] at f
   cases f;have x:j=k:=()
   subst x;show#[A,λ N a=> ?_];rw [l] at a
   cases a;show#[C,hs]
 rintro u T ⟨g,rfl,B,P,o⟩ p C;apply nZ (SqL.of aa) λ td G=> ?_
 apply#[e,xs,↑c,rfl,jN G (jN C (P.seq hE)),hx,J,I,λ te U Y R X pe se=> ?_];symm;intro h v;have S:Same T U:=Same.trans (by walk_at "sm") R;show q h _ (g.map (·.2)) Y (P.trans (S.new v)) #[td,te,g,aa,rfl,aH v (R.get aa),λ t m=> ?_,aH v X] #[by rw [Qb,B],λ j M b f a=> ?_] pe se
 .obtain ⟨j,f,x⟩:=ā.mp m;show(o j t (by rw [Qr f,x])).1.same (S.new v)
 .rw [Wp] at f;let#[t,Z,rfl]:=Î.mp f;show(o j t Z).2 b a
theorem JS{K:Ϗ}{c:ϊ Int}(h:HsG K H a ds c): ∃(d e:ό),SqT K H a [.ref d, .ref e]/\SqT K H e (c.map V.int)/\ ∃rs:ϊ ό,SqT K H d (rs.map V.ref)/\↑rs=↑ds/\ ∀{r:Int},0<=r->r<↑ds-> ∃b,xU (rs.map V.ref) r=!(.ref b)/\DrG K H b (ds.getD r.toNat []):=by
 let#[d,e,rs,j,rfl,k,l,m]:=h;show#[d,e,SqT.of j,SqT.of m,rs.map (·.1),by rw [Å];show k,by simp,λ {r} f i=> ?_];rw [Qb] at i;have g:r.toNat<↑rs:=()
 show#[rs[r.toNat].1,?_,?_]
 .rw [Ug f (by simpa using g)];simp
 .rw [Hs.getD_at f (by rw [Qb];show i),ú];show l _ (Ï g)
inductive sp_f12(K:Ϗ)(vs:ϊ V)(H:Hp)(Q:VK)(E:XK):Prop
 | mk (a:ό) (b:L1S) (s:ϐ) (c:vs=[.ref a, .str s]) (d:DrG K H a b) (e:Q (ov (Hs.dr b s)) H)
abbrev JT K(E:XK)(Eh:XK):=(aA (cu (oH K aX) (ie K 2 (bD (ak 2) (bD (ak 3) iK))) (bf (aU (aN uX bJ b8)) (aP cF) aV))
  (aP (tC V.non)))
abbrev JV:ϊ ϐ:=sN ["doors","sign","letter","room"]
theorem VN(h:sp_f12 K vs H Q E):RG (JT K E) JV vs H Q:=by
 let#[a,A,s,rfl,k,q]:=h;let#[g,rfl,t,n]:=k;have x: ∀z∈g,SqT K H z.1 [.str z.2.1, .int z.2.2]:=λ z y=>SqT.of (n z y)
 show#[E0,?_];apply sV (λ z:ό×ϐ×Int=>V.ref z.1) t (λ i j v=>(An3 (H=v) (Hs.dr (g.map (·.2)) s=Hs.dr ((g.map (·.2)).drop i) s) (Ex2 λ o p=>j=[!(.ref a),!(.str s),o,p]))) #[rfl,rfl,none,none,rfl] ?_ ?_ ?_
 .rintro i j _ ⟨rfl,_⟩;show t
 .rintro i ⟨b,l,r⟩ j _ m ⟨rfl,e,o,p,rfl⟩;have u:=x _ (Xs m);dsimp only at u;have w:i<↑g:=(À.mp m).1;have d:(g.map (·.2)).drop i=(l,r)::(g.map (·.2)).drop (i+1):=by
   rw [ı (by simpa using w),ú,(À.mp m).2]
  rw [d,Hs.lU] at e;apply cU u rfl ?_;apply fL (λ c=> ?_) λ c=> ?_
  .symm;rw [e,if_pos c] at q;show q
  .symm;show#[rfl,by rw [e,if_neg c],_,_,rfl]
 .rintro j _ ⟨rfl,e,o,p,rfl⟩;symm;rw [e,<- Qb (f:=(·.2)),List.drop_length] at q;show q
inductive sp_f74(K:Ϗ)(vs:ϊ V)(H:Hp)(Q:VK)(E:XK):Prop
 | mk (a:ό) (b:L2S) (d:ϊ Int) (c:ϊ Nat) (e:vs=[.ref a, .str (tx c)]) (f:HsG K H a b d) (g:Hs.Wf b) (h:Q (ov (Hs.go b c)) H)
abbrev JW K(E:XK)(Eh:XK):=(aA (aJ (tI 0) (ak 2))
  (aA (cu (Ft b8) (ak 3) (aA (aJ (bA (sp_f12 K) (bK (aN (gQ K) (tX K aX 0) bJ) cF)) (ak 2))
  (bf (aU (aN mY bJ (tC V.non))) (aP (tC V.non)) aV)))
  (aP bJ)))
abbrev JX:ϊ ϐ:=sN ["house","text","room","sign"]
theorem VP(h:sp_f74 K vs H Q E):RG (JW K E) JX vs H Q:=by
 let#[a,j,C,f,rfl,w,B,q]:=h;show#[E0,?_];let#[d,e,t,D,F,u,A,v]:=JS w;apply GP (λ i l m=>(An2 (H=m) (Ex2 λ r o=>(An2 (Hs.go j (f.take i)=!r) (l=[!(.ref a),!(.str (tx f)),!(.int r),o]))))) #[rfl,0,none,rfl,rfl] ?_ ?_
 .rintro i c l _ y ⟨rfl,r,o,g,rfl⟩;have k:f[i]? =!c:=by simpa [tx] using y
  have n:f.take (i+1)=f.take i++[c]:=by rw [Í,k];rfl
  let#[p,s]:=Hs.wU B g;let#[b,x,z]:=v p s;have step:Hs.go j (f.take (i+1))=Hs.dr (j.getD r.toNat []) (tx [c]):=by rw [n,Hs.uz,g];rfl
  apply Yw t ?_;apply dW u x ?_;apply#[b,_,tx [c],rfl,z,?_];rw [<- step];clear step;generalize er2:Hs.go j (f.take (i+1))=go2
  cases go2 with
  | none=>
   apply kh rfl ?_;symm;have:=Hs.Q7 (ys:=f.drop (i+1)) er2;rw [Č] at this;rw [this] at q;show q
  | some r2=>
   apply iD (by intro h;cases h) ?_;apply#[rfl,r2,_,rfl,rfl]
 .rintro l _ ⟨rfl,r,o,g,rfl⟩;rw [show(tx f).cps.size=↑f from rfl,Õ] at g;rw [g] at q;apply q
inductive sp_f64(K:Ϗ)(vs:ϊ V)(H:Hp)(Q:VK)(E:XK):Prop
 | mk (a:ό) (b:L2S) (d:ϊ Int) (c:ϊ Nat) (e:vs=[.ref a, .str (tx c)]) (f:HsG K H a b d) (g:Hs.Wf b) (h:Q (.bl (inV (ov (Hs.go b c)) (d.map V.int))) H)
abbrev JZ K(E:XK)(Eh:XK):=(aP (aN (QL K false) (bA (sp_f74 K) (bK aX b8)) (tX K aX 1)))
abbrev K1:ϊ ϐ:=sN ["house","text"]
theorem VR(h:sp_f64 K vs H Q E):RG (JZ K E) K1 vs H Q:=by
 let#[a,f,g,c,rfl,b,l,q]:=h;show#[E0,?_];let#[d,e,i,j,o,m,k,n]:=JS b;apply#[a,f,g,c,rfl,b,l,?_];apply Um i ?_;apply Hf (.inr j) (Q6 _) (lO _) q
abbrev Pz:=ό×V×V
def ofD(z:Dz):Pz:=(z.1, .str z.2.1, .int z.2.2)
def a1a(n:Nat)(zs:ϊ Dz):Prop:=(zs.map (·.2.1)).Nodup/\ ∀z∈zs,Hs.Sg z.2.1/\0<=z.2.2/\z.2.2<n
def a1b(n:Nat)(is:ϊ Int):Prop:=is.Nodup/\ ∀i∈is,0<=i/\i<n
def ofR(r:ό×ϊ Dz):ό×ϊ Pz:=(r.1,r.2.map ofD)
structure GoodH(ds:L2S)(es:ϊ Int):Prop where
 r1:1<=↑ds
 r2:↑ds<=40
 sr: ∀ps∈ds,(ps.map (·.1)).Pairwise qM
 ln: ∀ps∈ds,↑ps<=62
 sg: ∀ps∈ds,∀p∈ps,Hs.Sg p.1/\0<=p.2/\p.2<↑ds
 ei:es.Pairwise (· < ·)
 el:↑es<=62
 er: ∀e∈es,0<=e/\e<↑ds
def PdR(ds:L2S)(es:ϊ Int)(s:ϐ)(ds':L2S):Prop:=
 ↑ds'=↑ds+1/\ ∀(j:Nat) ps',ds'[j]? =!ps'->ps'.Perm ((ds++[[]]).getD j []++if (j:Int)∈es++[(↑ds:Int)] then [(s,(↑ds:Int))] else [])/\(ps'.map (·.1)).Pairwise qM
theorem uN{b:L1S}:Hs.dr b s=none↔s∉b.map (·.1):=by
 unfold Hs.dr;rw [ū,Ķ];show#[λ h m=> ?_,λ h p a e=>h (Zs.mpr #[p,a,ô e])];let#[p,a,e]:=Zs.mp m;show h p a (Ø e)
theorem K3{l:ϊ ϐ}(h:l.Pairwise qM):l.Nodup:=h.imp λ {a b} h e=>by
 subst e;show œ _ h
theorem getD_at{a:Type}{l:ϊ a}{d x:a}(h:l[j]? =!x):l.getD j d=x:=by rw [Yf,h];rfl
theorem W3(h:Hs.Sg s):Thing H (.str s):=by
 let#[k,rfl]:=h;change↑(tx [Hs.uA k])<=100000;rw [aM];simp
inductive sp_f61(K:Ϗ)(vs:ϊ V)(H:Hp)(Q:VK)(E:XK):Prop
 | mk (h:ό) (s:ϐ) (a:L2S) (b:ϊ Int) (c:vs=[.ref h, .str s]) (d:HsG K H h a b) (e:GoodH a b) (f:Hs.Sg s) (g:(∀ps∈a,Hs.dr ps s=none)) (i:↑a<40) (j: ∀r H' ds',Same H H'->HsT K H' r ds' (b++[(↑a:Int)])->PdR a b s ds'->Q (.ref r) H')
abbrev K4 K:=(aA (aJ (aN Ez (lF [none] (oH K (tX K aX 0)) (ak 0) dB (gA (fY K) (cM aX))) (jQ (cM (jQ iV)))) (ak 4))
  (aA (aJ (aN Ez (gA (fY K) (cM (tX K aX 1))) (jQ (cM cF))) (ak 5))
  (aA (cu (bN K gw) (ak 6) (cT (qx K "list" dM (aN (eG K) d7 jV) (cM (dI (bK b8 cF))))))
  (aP (bA (sp_f26 K) (bK d7 gw))))))
abbrev K5 K(E:XK)(Eh:XK):=(aA (bf (fV (fJ K (bA (sp_f51 K) (cM b8)))) bO aV)
  (aA (cu (oH K (tX K aX 0)) (ak 2) (bf (aU (aN u9 (bA (sp_f12 K) (bK bJ b8)) (tC V.non))) bO aV))
  (aA (aJ (dF K (tX K aX 0)) (ak 3))
  (K4 K))))
abbrev zr:ϊ ϐ:=sN ["house","filler","pairs","last","doors","ends","end"]
theorem W4(h:sp_f61 K vs H Q E):RG (K5 K E) zr vs H Q:=by
 let#[h,s,n,G,rfl,hH,L,sg,a5,bs,q]:=h;show#[E0,?_];apply#[.str s,rfl,W3 sg,?_];rw [uF sg];symm;let#[d,e,rs,h1,ac,h3,h4,h5]:=hH;have a8:↑rs=↑n:=by rw [<- ac,Qb]
 have bv:=L.r2;have i0: ∀{B:Hp}{Q:VK},Same H B->Q (.ref d) B->gQ K (.ref h) (.int 0) B Q:=λ s h=>dW (SqT.of (s.get h1)) (aQ (j:=0) (v:= .ref d) rfl) h
 have i1: ∀{B:Hp}{Q:VK},Same H B->Q (.ref e) B->gQ K (.ref h) (.int 1) B Q:=λ s h=>dW (SqT.of (s.get h1)) (aQ (j:=1) (v:= .ref e) rfl) h
 apply i0 (Same.refl _) ?_;show sV (λ r:ό×L1S=>V.ref r.1) h3 (λ i X B=>(An2 (B=H) (Ex1 λ o=>X=[!(.ref h),!(.str s),o,none,none,none,none]))) #[rfl,none,rfl] ?_ ?_ ?_
 .rintro i X _ ⟨rfl,_⟩;show h3
 .rintro i r X _ W ⟨rfl,o,rfl⟩;have ae:n[i]? =!r.2:=by rw [<- ac,Wp,W];rfl
  apply#[r.1,r.2,s,rfl,h4 r (Xs W),?_];rw [a5 r.2 (Xs ae)];apply eQ rfl ?_;apply#[rfl,_,rfl]
 .rintro X _ ⟨rfl,o,rfl⟩;rename_i H;apply i0 (Same.refl _) ?_;apply cX h3 ?_;rw [Qb,a8];apply i0 (Same.refl _) ?_;show Uv (λ r:ό×L1S=>V.ref r.1) h3 () (λ i ys B=>(Ex1 λ (a:ϊ (ό×ϊ Dz))=>(An5 (ys=a.map (λ r:ό×ϊ Dz=>V.ref r.1)) (a.map (λ r=>r.2.map (·.2))=n.take i) (Rws B a) (Same H B) (∀r∈a,H r.1=none)))) #[[],rfl,rfl,#[by simp,by simp],Same.refl _,by simp] ?_ ?_ ?_ ?_
  .rintro i ys B ⟨a,_,_,_,s',_⟩;show s'.tup h3
  .rintro i ys B ⟨a,rfl,er,_⟩;have:=Ö List.length er;rw [Qb,Ð] at this;rw [Qb];rfl'
  .rintro i r ys B W ⟨a,rfl,er,Y,s',hf⟩;have ae:n[i]? =!r.2:=by rw [<- ac,Wp,W];rfl
   let#[zs,ez,z1,z2]:=(h4 r (Xs W)).same s';apply mJ z1 λ l hl=> ?_
   show#[a++[(l,zs)],by simp,?_,#[?_,λ g mr=> ?_],s'.new hl,λ r' mr'=> ?_]
   .rw [Jn,er,Í,ae];change _++[zs.map (·.2)]=_;rw [ez];rfl
   .rw [Jn,à];show#[Y.1,by simp,λ u mu w N e=> ?_];let#[g,y,rfl]:=Zs.mp mu;have al:w=l:=by simpa using N
    have:=(Y.2 g y).1;rw [e,al,hl] at this
    cases this
   .rcases Æ.mp mr with mr | mr
    .show (Y.same (aq hl _)).2 g mr
    .rw [Zp.mp mr];show#[aa,λ z mz=>aH hl (z2 z mz)]
   .rcases Æ.mp mr' with mr' | mr'
    .show hf r' mr'
    .rw [Zp.mp mr'];show s'.free hl
  .rintro ys H1 ⟨f,rfl,T,O,s1,a4⟩ p1 P;rw [a8,Õ] at T;have ag:↑f=↑n:=by have:=Ö List.length T;rwa [Qb] at this
   symm;intro A R;symm;intro p2 ah;apply GZ (by walk_at "hp") aa (by rw [Qb,ag];change ↑n+1<=_;rfl') λ D hD=> ?_
   symm;have S1:Same H1 (upd (upd (upd (upd H1 p1 (.lst (f.map λ r:ό×ϊ Dz=>V.ref r.1))) A (.lst [])) p2 (.lst [.ref A])) D (.lst ((f.map λ r:ό×ϊ Dz=>V.ref r.1)++[.ref A]))):=by walk_at "sm"
   have a2:Rws (upd (upd (upd (upd H1 p1 (.lst (f.map λ r:ό×ϊ Dz=>V.ref r.1))) A (.lst [])) p2 (.lst [.ref A])) D (.lst ((f.map λ r:ό×ϊ Dz=>V.ref r.1)++[.ref A]))) (f++[(A,[])]):=by
    show#[?_,λ g mr=> ?_]
    .rw [Jn,à];show#[O.1,by simp,λ u mu w N e=> ?_];let#[g,y,rfl]:=Zs.mp mu;have al:w=A:=by simpa using N
     have:=aH (o':=HO.lst (f.map λ r:ό×ϊ Dz=>V.ref r.1)) P (O.2 g y).1;rw [e,al,R] at this
     cases this
    .rcases Æ.mp mr with mr | mr
     .show (O.same S1).2 g mr
     .rw [Zp.mp mr];show#[by walk_at "hp",λ z mz=>absurd mz å]
   have bd:(upd (upd (upd (upd H1 p1 (.lst (f.map λ r:ό×ϊ Dz=>V.ref r.1))) A (.lst [])) p2 (.lst [.ref A])) D (.lst ((f.map λ r:ό×ϊ Dz=>V.ref r.1)++[.ref A]))) D=!(.lst ((f++[(A,[])]).map λ r:ό×ϊ Dz=>V.ref r.1)):=by rw [aa,Jn];rfl
   have ax:D∉(f++[(A,([]:ϊ Dz))]).map (λ r:ό×ϊ Dz=>r.1):=λ m=>by
    let#[g,y,e]:=Zs.mp m;rcases Æ.mp y with mr | mr
    .have:=(O.same ((((aq P (HO.lst (f.map λ r:ό×ϊ Dz=>V.ref r.1))).new R (o:=HO.lst [])).new ah (o:=HO.lst [.ref A])))).2 g mr;rw [e,hD] at this
     cases this.1
    .rw [Zp.mp mr] at e;have e':A=D:=e;have:upd (upd (upd H1 p1 (.lst (f.map λ r:ό×ϊ Dz=>V.ref r.1))) A (.lst [])) p2 (.lst [.ref A]) A=!(.lst []):=by walk_at "hp"
     rw [e',<- e'] at this;rw [<- e'] at hD;rw [hD] at this
     cases this
   have fD:H D=none:=s1.free ((((aq P (HO.lst (f.map λ r:ό×ϊ Dz=>V.ref r.1))).new R (o:=HO.lst [])).new ah (o:=HO.lst [.ref A])).free hD);have as:H A=none:=s1.free ((aq P (HO.lst (f.map λ r:ό×ϊ Dz=>V.ref r.1))).free R);have bk: ∀r∈f++[(A,[])],H r.1=none:=λ r mr=>by
    rcases Æ.mp mr with mr | mr
    .show a4 r mr
    .rw [Zp.mp mr];show as
   have bg:(f++[(A,([]:ϊ Dz))]).map (λ r:ό×ϊ Dz=>r.2.map λ z:Dz=>z.2)=n++[[]]:=by rw [Jn,T];rfl
   have bq:↑(f++[(A,([]:ϊ Dz))])=↑n+1:=by simp [ag]
   have S2:=s1.trans S1;generalize (upd (upd (upd (upd H1 p1 (.lst (f.map λ r:ό×ϊ Dz=>V.ref r.1))) A (.lst [])) p2 (.lst [.ref A])) D (.lst ((f.map λ r:ό×ϊ Dz=>V.ref r.1)++[.ref A])))=H2 at*;generalize f++[(A,([]:ϊ Dz))]=rows1 at*;clear O s1 P R ah hD S1 a4 as T ag;show i1 S2 ?_;apply mJ (SqT.of (S2.get h5)) λ p3 a6=> ?_
   symm;intro p4 a7;apply GZ (by walk_at "hp") aa (by rw [Qb];have:=L.el;simp;rfl') λ F hF=> ?_
   symm;have S3:Same H2 (upd (upd (upd H2 p3 (.lst (G.map V.int))) p4 (.lst [.int (↑n:Nat)])) F (.lst (G.map V.int++[.int (↑n:Nat)]))):=by walk_at "sm"
   have U:(upd (upd (upd H2 p3 (.lst (G.map V.int))) p4 (.lst [.int (↑n:Nat)])) F (.lst (G.map V.int++[.int (↑n:Nat)]))) F=!(.lst ((G++[(↑n:Int)]).map V.int)):=by rw [aa,Jn];rfl
   have fF:H2 F=none:=((aq a6 (HO.lst (G.map V.int))).new a7 (o:=HO.lst [.int (↑n:Nat)])).free hF;generalize (upd (upd (upd H2 p3 (.lst (G.map V.int))) p4 (.lst [.int (↑n:Nat)])) F (.lst (G.map V.int++[.int (↑n:Nat)])))=H3 at S3 U;clear a6 a7 hF;walk_at "ns";have ay:F∉rows1.map (λ r:ό×ϊ Dz=>r.1):=λ m=>by
    let#[g,y,e]:=Zs.mp m;have:=(a2.2 g y).1;rw [e,fF] at this
    cases this
   have aw:=S3.get bd;have be:=a2.same S3;have SH:=S2.trans S3;have fin: ∀{B:Hp},Sb (rows1.map λ r:ό×ϊ Dz=>r.1) H3 B->Same H B:=λ S b o e=>S b o (λ m=>by
    let#[g,y,er]:=Zs.mp m;rw [<- er,bk g y] at e
    cases e) (SH b o e)
   have e9:(rows1.map λ r:ό×ϊ Dz=>V.ref r.1)=(rows1.map λ r:ό×ϊ Dz=>r.1).map V.ref:=by rw [Å];rfl
   show cV V.int (zs:=G++[(↑n:Int)]) (SqL.of U) (λ i X B=>(Ex1 λ (a:ϊ (ό×ϊ Dz))=>(An5 (Rws B a) (a.map (λ r:ό×ϊ Dz=>r.1)=rows1.map (λ r:ό×ϊ Dz=>r.1)) (∀(j:Nat) g,a[j]? =!g->g.2.map (λ z:Dz=>z.2)=(n++[[]]).getD j []++if (j:Int)∈(G++[(↑n:Int)]).take i then [(s,(↑n:Int))] else []) (Sb (rows1.map λ r:ό×ϊ Dz=>r.1) H3 B) (Ex1 λ o6=>X=[!(V.ref h),!(V.str s),o,!(V.int (↑n:Nat)),!(V.ref D),!(V.ref F),o6])))) #[rows1,be,rfl,λ j g J=> ?_,Sb.of (Same.refl _),none,rfl] ?_ ?_ ?_
   .have:=Ö (λ l=>l[j]?) bg;simp only [Wp,J,Ŕ] at this;rw [getD_at this.symm];simp
   .rintro i X B ⟨a,_,_,_,S,_⟩;show SqL.of (S.get ay U)
   .rintro i x X B W ⟨a,Y,ea,M,S,o6,rfl⟩;have mx:=Xs W;have b0:0<=x/\x<(↑n+1:Nat):=by
     rcases Æ.mp mx with mx | mx
     .have:=L.er x mx;rfl'
     .rw [Zp.mp mx];rfl'
    let#[j,rfl]: ∃j:Nat,x=(j:Int):=#[x.toNat,()];have I:↑a=↑n+1:=by have:=Ö List.length ea;rw [Qb,Qb] at this;rfl'
    have J:j<↑a:=()
    have Z:(j:Int)∉(G++[(↑n:Int)]).take i:=λ m=>by
     have nd:((G++[(↑n:Int)]).take (i+1)).Nodup:=Ă (Ď _ _) (by
      rw [à];show#[L.ei.imp λ h e=>(),by simp,λ u mu w N e=>by have:=L.er u mu;rw [Zp.mp N] at e;rfl'])
     rw [Í,W,à] at nd;show nd.2.2 _ m _ (by simp) rfl
    apply gm (SqL.of (S.get ax aw)) (aQ (v:= .ref a[j].1) ?_) ?_
    .rw [e9,<- ea,Å,Wp,Qr J];rfl
    have ab:=Y.2 _ (Ï J);apply fQ (SqL.of ab.1) ?_;symm;intro t ht;symm;have br:↑a[j].2<=1000:=by
     have h9:=Ö List.length (M j a[j] (Qr J));rw [Qb,if_neg Z,ù] at h9;rw [h9,Yf];rcases Đ j ↑n with w | w
     .rw [ç w,Qr w];have:=L.ln _ (Ï w);change ↑n[j]<=1000;rfl'
     .rw [ä w,show j-↑n=0 by rfl'];show æ _
    show jE (aH ht ab.1) (by rw [Qb];rfl') ?_;symm;have a3:=(Y.same (aq ht (HO.tup [V.str s,V.int (↑n:Nat)]))).app (t:=t) (s:=s) (r:=(↑n:Int)) J aa;rw [Jn] at a3;show#[a.set j (a[j].1,a[j].2++[(t,s,(↑n:Int))]),a3,(Ar J _).trans ea,λ k g hk=> ?_,(S.new ht).set (by rw [<- ea];show Zs.mpr #[_,Ï J,rfl]),_,rfl];rw [Í,W];rw [Ĝ] at hk;by_cases ap:j=k
    .subst ap;rw [if_pos rfl,if_pos J] at hk
     cases hk;rw [Jn,M j a[j] (Qr J),if_neg Z,ù,if_pos (Ü _ (by simp))];rfl
    .rw [if_neg ap] at hk;rw [M k g hk];congr 1;have:(k:Int)∈(G++[(↑n:Int)]).take i++(!(j:Int)).toList↔(k:Int)∈(G++[(↑n:Int)]).take i:=by
      rw [Æ];show#[λ h=>h.elim id λ h=> ?_, .inl];have:(k:Int)=j:=by simpa using h
      rfl'
     by_cases c:(k:Int)∈(G++[(↑n:Int)]).take i
     .rw [if_pos c,if_pos (this.mpr c)]
     .rw [if_neg c,if_neg (λ z=>c (this.mp z))]
   .rintro X B ⟨a,Y,ea,M,S,o6,rfl⟩;rw [Õ] at M;have I:↑a=↑n+1:=by have:=Ö List.length ea;rw [Qb,Qb] at this;rfl'
    have sf:=fin S;have bo: ∀g∈a,∃(j:Nat),a[j]? =!g/\j<↑n+1:=λ g mr=>by
     let#[j,J,ej]:=ā.mp mr;show#[j,by rw [Qr J,ej],()]
    have am: ∀(j:Nat) p,p∈(n++[[]]).getD j []-> ∃ps∈n,p∈ps:=λ j p C=>by
     rw [Yf] at C;rcases Đ j ↑n with w | w
     .rw [ç w,Qr w] at C;show#[_,Ï w,C]
     .rw [ä w] at C;rcases Nat.eq_zero_or_pos (j-↑n) with z | z
      .rw [z] at C;cases C
      .rw [ß (by simp;rfl')] at C;cases C
    have av: ∀g∈a,a1a (↑n+1) g.2/\↑g.2<64:=λ g mr=>by
     let#[j,J,af]:=bo g mr;have e:=M j g J;have hz: ∀z∈g.2,Hs.Sg z.2.1/\0<=z.2.2/\z.2.2<(↑n+1:Nat):=λ z mz=>by
      have:z.2∈g.2.map (λ z:Dz=>z.2):=Zs.mpr #[z,mz,rfl];rw [e] at this;rcases Æ.mp this with m | m
      .obtain ⟨ps,bl,C⟩:=am j _ m;let#[g1,g2,g3]:=L.sg ps bl _ C;show#[g1,g2,()]
      .split at m
       .rw [Zp.mp m];show#[sg,by change(0:Int)<=(↑n:Int);rfl',by change(↑n:Int)<_;rfl']
       .cases m
     have ad:↑((n++[[]]).getD j [])<=62/\(((n++[[]]).getD j []).map (λ p:ϐ×Int=>p.1)).Nodup/\s∉((n++[[]]).getD j []).map (λ p:ϐ×Int=>p.1):=by
      rw [Yf];rcases Đ j ↑n with w | w
      .rw [ç w,Qr w];show#[L.ln _ (Ï w),K3 (L.sr _ (Ï w)),uN.mp (a5 _ (Ï w))]
      .rw [ä w,show j-↑n=0 by rfl'];show#[by decide,List.nodup_nil,å]
     show#[#[?_,hz],?_]
     .have e2:g.2.map (·.2.1)=(g.2.map (λ z:Dz=>z.2)).map (·.1):=by rw [Å];rfl
      rw [e2,e,Jn,à];show#[ad.2.1,by split<;>simp,λ u mu w N ee=>ad.2.2 ?_];split at N
      .have:w=s:=by simpa using N
       rw [<- this,<- ee];show mu
      .cases N
     .have h9: ∀(c:Prop) [Decidable c],↑(if c then [(s,(↑n:Int))] else [])<=1:=λ c _=>by split<;>simp
      have h8:=Ö List.length e;rw [Qb,Â] at h8;have h7:=h9 ((j:Int)∈G++[(↑n:Int)]);have h6:=ad.1;rfl'
    have ar:a1b (↑n+1) (G++[(↑n:Int)]):=⟨by
      rw [à];show#[L.ei.imp λ h e=>(),by simp,λ u mu w N e=>by have:=L.er u mu;rw [Zp.mp N] at e;rfl'],λ u mu=>by
     rcases Æ.mp mu with mu | mu
     .have:=L.er u mu;rfl'
     .rw [Zp.mp mu];rfl'⟩
    apply#[D,F,a,G++[(↑n:Int)],rfl,SqL.of (by rw [S.get ax aw,e9,<- ea,Å];rfl),λ g mr=> ?_,SqL.of (S.get ay U),by rw [I];show ar.2,ar.1,by rw [Â];have:=L.el;simp;rfl',(),(),λ r' H5 a9 bb s5 a1 ai bm bp=> ?_]
    .obtain ⟨w1,w2⟩:=Y.2 g mr;let#[#[g1,g2],g3]:=av g mr;show#[SqL.of w1,λ z mz=>#[SqT.of (w2 z mz),by rw [I];show g2 z mz],g1,g3]
    .have bi:bb=G++[(↑n:Int)]:=Hs.YB bm bp (.refl _) (List.pairwise_append.mpr #[L.ei,by simp,λ u mu w N=>by have:=L.er u mu;rw [Zp.mp N];rfl']);rw [bi] at a1;show q r' H5 a9 (sf.trans s5) a1 #[by rw [ai.1,I],λ j bn J=> ?_];have af:j<↑a:=by rw [<- ai.1];show(À.mp J).1
     rw [<- M j a[j] (Qr af)];show ai.2 j bn a[j] J (Qr af)
def kY(xs:ϊ Nat)(x:Nat)(ls:ϵ):ϊ (ϐ×Nat):=ls.filterMap λ p=>if x+↑p.2<=↑xs then !(p.1,Mm.b7 p.2 ((xs.drop x).take ↑p.2)) else none
def K6(gs:ϊ (ϐ×Nat)):ϊ (Key×V):=gs.map λ p=>(Sum.inr p.1,V.int (p.2:Nat))
theorem xn(a:ϊ Nat)(x:Nat)(b:ϵ)(p:ϐ×ϊ Nat):kY a x (b++[p])=kY a x b++(if x+↑p.2<=↑a then [(p.1,Mm.b7 p.2 ((a.drop x).take ↑p.2))] else []):=by
 unfold kY;rw [List.filterMap_append];congr 1;rw [Į,List.filterMap_nil];split<;>simp_all
theorem Bh{d:ϊ Nat}(h:s∉a.map (·.1)):s∉(kY d x a).map (·.1):=λ m=>by
 let#[q,c,rfl]:=Zs.mp m;let#[p,b,e]:=î.mp c;split at e
 .cases e;show h (Zs.mpr #[p,b,rfl])
 .cases e
inductive sp_f57(K:Ϗ)(vs:ϊ V)(H:Hp)(Q:VK)(E:XK):Prop
 | mk (f p:ό) (h x:Nat) (b:ϵ) (a:ϊ Nat) (c:vs=[.ref f, .ref p, .int x]) (d:FnT K H f h b) (e:Fo.Wf h b) (g:SqL K H p (nv a)) (i:↑a<=1000) (j:x<=↑a) (k: ∀r H',Same H H'->H r=none->H' r=!(.dK (K6 (kY a x b)))->Q (.ref r) H')
abbrev K7 K(E:XK)(Eh:XK):=(aA (aJ kO (ak 3))
  (aA (cu (oH K (tX K aX 1)) (ie K 2 (bD (ak 4) (bD (ak 5) iK))) (aA (aJ (BW (BX K) b8 (gh bJ) (gh (aN bZ bJ (dF K gw)))) (ak 6))
  (bf (aU (aN uX (dF K jV) (dF K gw))) (jY cF d7 (bA (sp_f75 K) (bK gw jV))) aV)))
  (aP cF)))
abbrev K8:ϊ ϐ:=sN ["font","strip","x","gaps","sign","columns","beneath"]
theorem W5(h:sp_f57 K vs H Q E):RG (K7 K E) K8 vs H Q:=by
 let#[f,p,h,x,c,j,rfl,hF,U,hP,ad,hx,q]:=h;show#[E0,?_];have M:(c.map (·.1)).Nodup:=U.up.imp λ L e=>by subst e;show œ _ L
 let#[l,zs,t1,A,t3,t4]:=id hF;have O:↑zs=↑c:=by rw [<- A,Qb]
 have J:=U.le;symm;intro r C;apply dX (aH C t1) ?_;have t: ∀Z∈[r],H Z=none:=λ Z N=>by rw [Zp.mp N];show C
 show sV (λ z:Lz=>V.ref z.1) ((aq C _).tup t3) (λ i F w=>(An3 (Sb [r] H w) (w r=!(.dK (K6 (kY j x (c.take i))))) (Ex3 λ P R T=>F=[!(.ref f),!(.ref p),!(.int (x:Nat)),!(.ref r),P,R,T]))) #[Sb.of (aq C _),aa,none,none,none,rfl] ?_ ?_ ?_
 .rintro i F w ⟨v,_⟩;show(v.off t).tup t3
 .rintro i ⟨za,s,ca,b⟩ F w X ⟨v,y,P,R,T,rfl⟩;have S:=v.off t;have mz:=Xs X;let#[u1,D]:=t4 _ mz;dsimp only at u1 D;have u:c[i]? =!(s,b):=by rw [<- A,Wp,X];rfl
  have c1:=U.c1 _ (Xs u);dsimp only at c1;have ac:i<↑c:=(À.mp u).1;have n:c.take (i+1)=c.take i++[(s,b)]:=by rw [Í,u];rfl
  have I:↑(kY j x (c.take i))<=40:=Ò (ĸ ..) (by rw [Ð];show Xd J);show cU (SqT.of (S.get u1)) rfl ?_;apply cX (SqT.of (S.get D)) ?_;rw [Qb];symm;rw [show(x:Int)+(↑b:Int)=((x+↑b:Nat):Int) by show rfl];show Ha (S.seq hP) λ be a=> ?_
  rw [Ao (PP _) (PP (_+_)),Ó,Ó,show((nv j).take (x+↑b)).drop x=nv ((j.drop x).take ↑b) by
    rw [nv,nv,List.drop_take,ľ,List.map_take,List.map_drop]]
  have ab:↑((j.drop x).take ↑b)=min ↑b (↑j-x):=by rw [Ð,ì]
  have B:s∉(c.take i).map (·.1):=by
   have W:((c.take (i+1)).map (·.1)).Nodup:=Ă ((Ď _ _).map _) M;rw [n,Jn,à] at W;show λ m=>W.2.2 s m s (by simp) rfl
  apply ux aa ?_;apply cX (SqT.of (aH a (S.get D))) ?_;rw [Qb];apply fL (λ d=> ?_) λ d=> ?_
  .have o:x+↑b<=↑j:=()
   apply#[ca,be,b,(j.drop x).take ↑b,rfl,SqT.of (aH a (S.get D)),by first | show SqL.of aa | show .inl (SqL.of aa),PN (d.symm),(),λ H2 s2=> ?_];symm;have G:=s2.get (aH a y);have hv:bM (K6 (kY j x (c.take i))) (Sum.inr s)=none:=fC (f:=λ p:ϐ×Nat=>(Sum.inr p.1:Key)) (g:=λ p:ϐ×Nat=>V.int (p.2:Nat)) λ m=>by
    let#[p,Y,e]:=Zs.mp m;show Bh B (Zs.mpr #[p,Y,Ň e])
   show#[r,_,rfl,DPut.k (k:=Sum.inr s) G (Û (by unfold K6;rw [Qb];show I:_<=40) (by decide)),?_];rw [dh _ hv];apply#[(v.same ((aq a _).trans s2)).set (by simp),?_,_,_,_,rfl];rw [aa,n,xn,if_pos o];unfold K6;rw [Jn];rfl
  .have o: ¬x+↑b<=↑j:=()
   apply#[v.new a,?_,_,_,_,rfl];rw [n,xn,if_neg o,ù];show aH a y
 .rintro F w ⟨v,y,P,R,T,rfl⟩;rw [ë (n6 (O.symm) (Ä _))] at y;apply q r w (v.off t) C y
def jJ(gs:ϊ (ϐ×Nat))(s:ϐ):ύ Nat:=(gs.find? λ p=>decide (p.1=s)).map (·.2)
theorem zu(s:ϐ): ∀gs:ϊ (ϐ×Nat),bM (K6 gs) (Sum.inr s)=(jJ gs s).map λ g=>V.int (g:Nat)
 | []=>rfl
 | p::r=>by
  have a:=zu s r;by_cases h:p.1=s
  .subst h;unfold jJ;rw [ς (by simp)];unfold K6 bM;simp
  .unfold jJ at a ⊢;rw [τ (by simpa using h),<- a];unfold K6 bM;rw [Ç,τ (by simpa using h)]
theorem zx{d:ϵ}{g:Nat}(i:(d.map (·.1)).Nodup)(h:Fo.lk d s=!co)(n:jJ (kY t x d) s=!g):x+↑co<=↑t:=by
 unfold jJ at n;let#[q,k,rfl]:=Î.mp n;have m:=Ĉ k;have e:q.1=s:=by have:=Ű k;simpa using this
 let#[p,c,f]:=î.mp m;split at f
 .rename_i b
  cases f;have z:=Fo.cH h;have:p=(s,co):=by
   let#[j,o]:=p;have u:j=s:=e;subst u;have: ∀l:ϵ,(l.map (·.1)).Nodup->(j,o)∈l->(j,co)∈l->o=co:=λ l=>by
    induction l with
    | nil=>intro _ h;cases h
    | cons y r ih=>
     intro a v w;rw [Ç,û] at a;rcases È.mp v with h3 | h3<;>rcases È.mp w with h4 | h4
     .rw [<- h3] at h4;cases h4;rfl
     .rw [<- h3] at a;show absurd (Zs.mpr #[_,h4,rfl]) a.1
     .rw [<- h4] at a;show absurd (Zs.mpr #[_,h3,rfl]) a.1
     .show ih a.2 h3 h4
   rw [this d i c z]
  rw [this] at b;show b
 .cases f
theorem Do(h:s∉a.map (·.1)):jJ a s=none:=by
 unfold jJ;rw [Ķ.mpr λ p b=>by simpa using λ e=>h (Zs.mpr #[p,b,e])];rfl
theorem uO{b:ϊ Nat}{x:Nat}: ∀{ls:ϵ},(ls.map (·.1)).Nodup->jJ (kY b x ls) s=(Fo.lk ls s).bind λ co=>if x+↑co<=↑b then !(Mm.b7 co ((b.drop x).take ↑co)) else none
 | [],_=>rfl
 | p::r,hnd=>by
  rw [Ç,û] at hnd;rw [Fo.gH];have c:kY b x (p::r)=(if x+↑p.2<=↑b then [(p.1,Mm.b7 p.2 ((b.drop x).take ↑p.2))] else [])++kY b x r:=by
   unfold kY;rw [Į];split<;>simp_all
  rw [c];by_cases e:p.1=s
  .subst e;rw [if_pos rfl];by_cases a:x+↑p.2<=↑b
   .rw [if_pos a];unfold jJ;rw [List.singleton_append,ς (by simp)];simp [a]
   .rw [if_neg a,Ů,Do (Bh hnd.1)];simp [a]
  .rw [if_neg e,<- uO hnd.2];by_cases a:x+↑p.2<=↑b
   .rw [if_pos a];unfold jJ;rw [List.singleton_append,τ (by simpa using e)]
   .rw [if_neg a,Ů]
def bT(p:ϳ):ϊ Nat:=(p.map (·.2.1)).flatten
def PT(wss:ϲ)(es:ϊ Int):Nat->Nat->Nat->ϲ
 | _,0,room=>if (room:Int)∈es then [[]] else []
 | 0,_+1,_=>[]
 | n+1,k+1,room=>(wss.getD room []).flatMap λ w=>if ↑w.2.1<=k+1 then (PT wss es n (k+1-↑w.2.1) w.2.2.toNat).map (w:: ·) else []
theorem oA{d:ϵ}{c:L1S}(m:w∈aF d c):Fo.lk d w.1=!w.2.1/\(w.1,w.2.2)∈c:=by
 let#[p,b,e]:=î.mp (show w∈c.filterMap _ from m);let#[f,a,rfl]:=Î.mp e;show#[a,b]
theorem uP(b:room<↑ds):(ds.map (aF a)).getD room []=aF a ds[room]:=by
 rw [Yf,Wp,Qr b];rfl
theorem K9(a:Nat):wss.getD a []=[]\/wss.getD a []∈wss:=by
 by_cases b:a<↑wss
 .right;rw [Yf,Qr b];show Ï b
 .left;rw [Yf,ß (GC b)];rfl
def ThP(H:Hp)(v:V):Ϲ->Prop
 | none=>v= .non
 | some t=> ∃a,v= .ref a/\H a=!(.tup [.int (t.1:Nat), .int (t.2:Nat)])
theorem ThP.same(h:ThP H v o)(s:Same H H'):ThP H' v o:=by
 cases o with
 | none=>show h
 | some t=>let#[a,e,q]:=h;show#[a,e,s.get q]
def mgT:Ϲ->Ϲ->Ϲ
 | none,b=>b
 | some t,none=>!t
 | some t,!u=>if t.1=u.1 then !(t.1,t.2+u.2) else if t.1<u.1 then !t else !u
def RwP(H:Hp)(a:ό)(ts:ϸ):Prop:= ∃vs:ϊ V,H a=!(.lst vs)/\↑vs=↑ts/\ ∀(i:Nat) v t,vs[i]? =!v->ts[i]? =!t->ThP H v t
def PpT(H:Hp)(pp:ό)(rows:ϊ (ϸ)):Prop:= ∃as:ϊ ό,↑as=↑rows/\H pp=!(.lst (as.map V.ref))/\ ∀(i:Nat) a ts,as[i]? =!a->rows[i]? =!ts->RwP H a ts
theorem RwP.same(h:RwP H a ts)(s:Same H H'):RwP H' a ts:=by
 let#[g,b,c,d]:=h;show#[g,s.get b,c,λ i v t f e=>(d i v t f e).same s]
theorem PpT.same(h:PpT H pp rows)(s:Same H H'):PpT H' pp rows:=by
 let#[b,c,d,e]:=h;show#[b,c,s.get d,λ i a j f g=>(e i a j f g).same s]
def thr(gs:ϊ (ϐ×Nat))(rows:ϊ (ϸ))(x:Nat)(w:ϴ):Ϲ:=
 match jJ gs w.1 with
 | none=>none
 | some g=>((rows.getD (x+↑w.2.1) []).getD w.2.2.toNat none).map λ t=>(g+t.1,t.2)
theorem qm(o:Ϲ):mgT o none=o:=by cases o<;>rfl
inductive sp_f7(K:Ϗ)(vs:ϊ V)(H:Hp)(Q:VK)(E:XK):Prop
 | mk (e c d:ό) (x:Nat) (w:ϴ) (b:ϊ (ϐ×Nat)) (a:ϊ (ϸ)) (f:vs=[.ref e, .ref c, .ref d, .int x]) (h:WyT H (e,w)) (i:H c=!(.dK (K6 b))) (j:PpT H d a) (k:(∀g,jJ b w.1=!g->x+↑w.2.1<↑a/\0<=w.2.2/\w.2.2.toNat<↑(a.getD (x+↑w.2.1) []))) (l: ∀v H',Same H H'->ThP H' v (thr b a x w)->Q v H')
abbrev Qo K:=(aA (bf (tB (nR d7 b8)) (aP (tC V.non)) aV)
  (aA (aJ (aN (eG K) (aN (eG K) bJ (aN bZ cF (dF K (tX K aX 1)))) (tX K aX 2)) (ak 5))
  (aA (bf (aU (aN mY gw (tC V.non))) (aP (tC V.non)) aV)
  (aP (dI (bK (aN bZ (jx b8 d7) (tX K gw 0)) (tX K gw 1)))))))
abbrev Rq K(E:XK)(Eh:XK):=(aA (aJ (tX K aX 0) (ak 4))
  (Qo K))
abbrev Rr:ϊ ϐ:=sN ["way","gaps","paper","x","sign","behind"]
theorem Z0(h:sp_f7 K vs H Q E):RG (Rq K E) Rr vs H Q:=by
 let#[r,B,Z,x,#[s,i,c],C,d,rfl,#[u,o,L],A,#[M,p,R,S],m,q]:=h;show#[E0,?_];dsimp only at o L m;have U: ∀{Q:VK},Q (.str s) H->gQ K (.ref r) (.int 0) H Q:=λ h=>dW (SqT.of o) (aQ (j:=0) (v:= .str s) rfl) h
 have W: ∀{Q:VK},Q (.ref u) H->gQ K (.ref r) (.int 1) H Q:=λ h=>dW (SqT.of o) (aQ (j:=1) (v:= .ref u) rfl) h
 have X: ∀{Q:VK},Q (.int c) H->gQ K (.ref r) (.int 2) H Q:=λ h=>dW (SqT.of o) (aQ (j:=2) (v:= .int c) rfl) h
 apply U ?_;apply#[B,_,rfl,DGet.k (k:=Sum.inr s) A,?_];rw [zu]
 cases hg:jJ C s with
 | none=>
  symm;change if true=true then _ else _
  apply q .non H (Same.refl _) (by unfold thr;dsimp only;rw [hg];rfl)
 | some g=>
  let#[J,Y,n]:=m g hg;symm;change if false=true then _ else _
  apply W ?_;apply cX (SqT.of L) ?_;rw [Qb];symm;rw [show(x:Int)+(↑i:Int)=((x+↑i:Nat):Int) by show rfl];let#[a,F]: ∃a,M[x+↑i]? =!a:=#[_,Qr (DK J p)];let#[l,f]: ∃l,d[x+↑i]? =!l:=#[_,Qr J];rw [Yf,f] at n;change c.toNat<↑l at n;let#[vs,N,O,P]:=S _ a l F f;let#[v,I]: ∃v,vs[c.toNat]? =!v:=#[_,Qr (DK n O)];let#[t,G]: ∃t,l[c.toNat]? =!t:=#[_,Qr n];have D:=P _ v t I G;have e:thr C d x (s,i,c)=t.map λ t=>(g+t.1,t.2):=by
   unfold thr;dsimp only;rw [hg];dsimp only;rw [show d.getD (x+↑i) []=l by rw [Yf,f];rfl,Yf,G];rfl
  show qQ R F ?_;apply X ?_;symm;rw [show c=((c.toNat:Nat):Int) by show Eq.symm (An Y)];show gm (SqL.of N) (aQ (j:=c.toNat) (v:=v) I) ?_;symm
  cases t with
  | none=>
   cases D;show kh rfl ?_;apply q .non H (Same.refl _) (by rw [e];rfl)
  | some t=>
   let#[b,rfl,w]:=D;show iD (by intro z;cases z) ?_;apply#[B, .int (g:Nat),rfl,?_,?_]
   .have:=DGet.k (k:=Sum.inr s) A;rw [zu,hg] at this;show this
   apply gn w ?_;apply dX w ?_;symm;intro y T;show q _ _ (aq T _) ?_;rw [e];show#[y,rfl,by rw [aa];push_cast;rfl]
inductive sp_f59(K:Ϗ)(vs:ϊ V)(H:Hp)(Q:VK)(E:XK):Prop
 | mk (v w:V) (o u:Ϲ) (a:vs=[v,w]) (b:ThP H v o) (c:ThP H w u) (d: ∀y H',Same H H'->ThP H' y (mgT o u)->Q y H')
abbrev Ka K(E:XK)(Eh:XK):=(aA (bf (aU (aN mY aX (tC V.non))) (aP b8) aV)
  (aA (bf (aU (aN mY b8 (tC V.non))) (aP aX) aV)
  (aA (bf (aU (aN uX (tX K aX 0) (tX K b8 0))) (aP (dI (bK (tX K aX 0) (aN bZ (tX K aX 1) (tX K b8 1))))) aV)
  (aP (Xo (aU (aN Fw (tX K aX 0) (tX K b8 0))) aX b8)))))
abbrev Kc:ϊ ϐ:=sN ["one","other"]
theorem W6(h:sp_f59 K vs H Q E):RG (Ka K E) Kc vs H Q:=by
 let#[v,w,o,u,rfl,m,i,q]:=h;show#[E0,?_]
 cases o with
 | none=>
  cases m;apply q w H (Same.refl _) i
 | some t=>
  let#[a,rfl,e]:=m;apply iD (by intro z;cases z) ?_;symm
  cases u with
  | none=>
   cases i;show kh rfl ?_;apply q _ H (Same.refl _) #[a,rfl,e]
  | some x=>
   let#[b,rfl,g]:=i;have k: ∀{c:Hp}{Q:VK},Same H c->Q (.int (t.1:Nat)) c->gQ K (.ref a) (.int 0) c Q:=λ s h=>dW (SqT.of (s.get e)) (aQ (j:=0) (v:= .int (t.1:Nat)) rfl) h
   have A: ∀{c:Hp}{Q:VK},Same H c->Q (.int (t.2:Nat)) c->gQ K (.ref a) (.int 1) c Q:=λ s h=>dW (SqT.of (s.get e)) (aQ (j:=1) (v:= .int (t.2:Nat)) rfl) h
   have n: ∀{c:Hp}{Q:VK},Same H c->Q (.int (x.1:Nat)) c->gQ K (.ref b) (.int 0) c Q:=λ s h=>dW (SqT.of (s.get g)) (aQ (j:=0) (v:= .int (x.1:Nat)) rfl) h
   have B: ∀{c:Hp}{Q:VK},Same H c->Q (.int (x.2:Nat)) c->gQ K (.ref b) (.int 1) c Q:=λ s h=>dW (SqT.of (s.get g)) (aQ (j:=1) (v:= .int (x.2:Nat)) rfl) h
   show iD (by intro z;cases z) ?_;apply k (Same.refl _) ?_;apply n (Same.refl _) ?_;apply fL (λ d=> ?_) λ d=> ?_
   .have f:t.1=x.1:=by show PN d
    apply k (Same.refl _) ?_;apply A (Same.refl _) ?_;apply B (Same.refl _) ?_;symm;intro y r;show q _ _ (aq r _) ?_;change ThP _ _ (if t.1=x.1 then _ else _);rw [if_pos f];show#[y,rfl,by rw [aa];push_cast;rfl]
   .have f: ¬t.1=x.1:=by show qnD d
    apply k (Same.refl _) ?_;apply n (Same.refl _) ?_;symm;have p: ∀v,ThP H v (if t.1<x.1 then !t else !x)->Q v H:=λ v h=>q v H (Same.refl _) (by change ThP _ _ (if t.1=x.1 then _ else _);rw [if_neg f];show h)
    show fL (λ l=> ?_) λ l=> ?_
    .symm;show p _ (by rw [if_pos (Ub l)];show#[a,rfl,e])
    .symm;show p _ (by rw [if_neg ()];show#[b,rfl,g])
def jg(gs:ϊ (ϐ×Nat))(rows:ϊ (ϸ))(x:Nat)(ws:ϳ):Ϲ:=ws.foldl (λ acc w=>mgT acc (thr gs rows x w)) none
theorem Dq(b:ϊ (ϐ×Nat))(a:ϊ (ϸ))(x:Nat)(c:ϳ)(w:ϴ):jg b a x (c++[w])=mgT (jg b a x c) (thr b a x w):=by
 unfold jg;rw [Ļ];rfl
def InP(gs:ϊ (ϐ×Nat))(rows:ϊ (ϸ))(x:Nat)(w:ϴ):Prop:= ∀g,jJ gs w.1=!g->x+↑w.2.1<↑rows/\0<=w.2.2/\w.2.2.toNat<↑(rows.getD (x+↑w.2.1) [])
inductive sp_f42(K:Ϗ)(vs:ϊ V)(H:Hp)(Q:VK)(E:XK):Prop
 | mk (e d f:ό) (x:Nat) (c:ϳ) (b:ϊ (ϐ×Nat)) (a:ϊ (ϸ)) (g:vs=[.ref e, .ref d, .ref f, .int x]) (h:LdT H e c) (i:H d=!(.dK (K6 b))) (j:PpT H f a) (k:(∀w∈c,InP b a x w)) (l: ∀v H',Same H H'->ThP H' v (jg b a x c)->Q v H')
abbrev Kd K(E:XK)(Eh:XK):=(aA (aJ (tC V.non) (ak 4))
  (aA (cu (bN K aX) (ak 5) (aJ (bA (sp_f59 K) (bK d7 (bA (sp_f7 K) (DP gw b8 bJ cF)))) (ak 4)))
  (aP d7)))
abbrev Ke:ϊ ϐ:=sN ["leads","gaps","paper","x","thing","way"]
theorem W7(h:sp_f42 K vs H Q E):RG (Kd K E) Ke vs H Q:=by
 let#[J,r,t,x,g,k,a,rfl,#[n,d,p,G],C,D,l,q]:=h;show#[E0,?_];have m:↑n=↑g:=by rw [<- d,Qb]
 apply cV (λ z:Wz=>V.ref z.1) (zs:=n) (SqL.of p) (λ i j c=>(An2 (Same H c) (Ex2 λ v o=>(An2 (ThP c v (jg k a x (g.take i))) (j=[!(.ref J),!(.ref r),!(.ref t),!(.int (x:Nat)),!v,o]))))) #[Same.refl _, .non,none,rfl,rfl] ?_ ?_ ?_
 .rintro i j c ⟨b,_⟩;show SqL.of (b.get p)
 .rintro i ⟨N,w⟩ j c s ⟨b,v,o,f,rfl⟩;have L:=Xs s;have e:g[i]? =!w:=by rw [<- d,Wp,s];rfl
  apply#[N,r,t,x,w,k,a,rfl,(G _ L).same b,b.get C,D.same b,l w (Xs e),λ u O A F=> ?_];apply#[v,u,_,_,rfl,f.same A,F,λ y B M I=> ?_];apply#[(b.trans A).trans M,y,_,?_,rfl];rw [Í,e];change ThP B y (jg k a x (g.take i++[w]));rw [Dq];show I
 .rintro j c ⟨b,v,o,f,rfl⟩;rw [ë (n6 (m.symm) (Ä _))] at f;apply q v c b f
theorem ThP.updl{p:ό}{c:ϊ V}(h:ThP H v o)(e:H p=!(.lst ys)):ThP (upd H p (.lst c)) v o:=by
 cases o with
 | none=>show h
 | some t=>let#[a,b,q]:=h;show#[a,b,by rw [au (jd q e)];show q]
theorem RwP.updl{p:ό}{k:ϊ V}(h:RwP H a ts)(n:a≠p)(e:H p=!(.lst ys)):RwP (upd H p (.lst k)) a ts:=by
 let#[j,b,c,d]:=h;show#[j,by rw [au n];show b,c,λ i v t g f=>(d i v t g f).updl e]
structure PpN(H0 H:Hp)(pp:ό)(rows:ϊ (ϸ))(as:ϊ ό):Prop where
 len:↑as=↑rows
 at_:H pp=!(.lst (as.map V.ref))
 row: ∀(i:Nat) a ts,as[i]? =!a->rows[i]? =!ts->RwP H a ts
 inj: ∀(i j:Nat) a,as[i]? =!a->as[j]? =!a->i=j
 new: ∀a∈as,H0 a=none
 out:pp∉as
def PpN.t(h:PpN H0 H pp rows a):PpT H pp rows:=#[a,h.len,h.at_,h.row]
theorem PpN.same{b:ϊ ό}(h:PpN H0 H pp rows b)(s:Same H H'):PpN H0 H' pp rows b:=#[h.len,s.get h.at_,λ i a e c d=>(h.row i a e c d).same s,h.inj,h.new,h.out]
theorem PpN.put{k:Nat}(h:PpN H0 H pp rows l)(u:RwP H b ts)(t:H0 b=none)(r:b∉l)(s:b≠pp):PpN H0 (upd H pp (.lst ((l.map V.ref).set k (.ref b)))) pp (rows.set k ts) (l.set k b):=by
 show#[by rw [ŀ,ŀ,h.len],by rw [aa,List.map_set],λ i a v f g=> ?_,λ i j a c d=> ?_,λ a p=> ?_,λ m=> ?_]
 .rw [Ĝ] at f g;by_cases e:k=i
  .subst e;rw [if_pos rfl] at f g;split at f
   .split at g
    .cases f;cases g;show u.updl s h.at_
    .cases g
   .cases f
  .rw [if_neg e] at f g;show(h.row i a v f g).updl (λ q=>h.out (q▸Xs f)) h.at_
 .rw [Ĝ] at c d;by_cases n:k=i<;>by_cases o:k=j
  .show Eq.trans (n.symm) o
  .rw [if_pos n] at c;rw [if_neg o] at d;split at c
   .cases c;show absurd (Xs d) r
   .cases c
  .rw [if_neg n] at c;rw [if_pos o] at d;split at d
   .cases d;show absurd (Xs c) r
   .cases d
  .rw [if_neg n] at c;rw [if_neg o] at d;show h.inj i j a c d
 .rcases İ p with p | rfl
  .show h.new a p
  .show t
 .rcases İ m with m | e
  .show h.out m
  .show s e.symm
def dj(es:ϊ Int)(n:Nat):ϸ:=(List.range n).map λ r:Nat=>if (r:Int)∈es then !(0,1) else none
def qz(ls:ϵ)(xs:ϊ Nat)(wss:ϲ)(last:ϸ):Nat->ϊ (ϸ)
 | 0=>[last]
 | i+1=>(wss.map λ ws=>jg (kY xs (↑xs-1-i) ls) (List.replicate (↑xs-i) []++qz ls xs wss last i) (↑xs-1-i) ws)::qz ls xs wss last i
theorem uQ(c:ϵ)(d:ϊ Nat)(b:ϲ)(a:ϸ): ∀i,↑(qz c d b a i)=i+1
 | 0=>rfl
 | i+1=>by change↑(_::qz c d b a i)=_;rw [è,uQ]
theorem uR{b:ϲ}(c:↑a=↑b): ∀i,∀r∈qz ls xs b a i,↑r=↑b
 | 0,r,h=>by rw [Zp.mp h];show c
 | i+1,r,h=>by
  rcases È.mp h with rfl | h
  .rw [Qb]
  .show uR c i r h
theorem uT{wss:ϲ}{last:ϸ}(i j:Nat): ∀d,(qz ls xs wss last (i+d)).getD (d+j) []=(qz ls xs wss last i).getD j []
 | 0=>by rw [π,ũ]
 | d+1=>by
  rw [Nat.add_right_comm d 1 j];change(_::qz ls xs wss last (i+d)).getD (d+j+1) []=_;rw [List.getD_cons_succ,uT i j d]
theorem W8(n i j:Nat)(h:i<=n):(qz ls xs wss last n).getD (n-i+j) []=(qz ls xs wss last i).getD j []:=by
 have:=uT (ls:=ls) (xs:=xs) (wss:=wss) (last:=last) i j (n-i);rwa [Nat.add_sub_cancel' h] at this
theorem zy{b:ϊ (ϸ)}{c:ϳ}(h: ∀w∈c,thr gs rows x w=thr gs b x w):jg gs rows x c=jg gs b x c:=by
 unfold jg
 suffices ∀a,c.foldl (λ a w=>mgT a (thr gs rows x w)) a=c.foldl (λ a w=>mgT a (thr gs b x w)) a from this none
 induction c with
 | nil=>intro a;rfl
 | cons w r ih=>intro a;rw [Ł,Ł,h w Ë];show ih (λ y d=>h y (É _ d)) _
theorem Z1{b:ϵ}(p:x<↑a)(o: ∀ws∈wss,∀w∈ws,0<↑w.2.1):(qz b a wss last ↑a).getD x []=wss.map λ ws=>jg (kY a x b) (qz b a wss last ↑a) x ws:=by
 let#[i,f]:=Nat.exists_eq_add_of_lt p;have d:↑a=i+1+x:=by rw [f,Ĺ,ķ]
 have l:↑a-1-i=x:=by rw [f,Ο,Ο]
 have j:↑a-i=x+1:=by rw [d,Ĺ,ľ,ķ]
 have h:=uT (ls:=b) (xs:=a) (wss:=wss) (last:=last) (i+1) 0 x;rw [<- d,π] at h;rw [h];change(_::_).getD 0 []=_;rw [List.getD_cons_zero,l];show ÿ λ ws q=>zy λ w m=> ?_
 have n:=o ws q w m;unfold thr
 cases jJ (kY a x b) w.1 with
 | none=>rfl
 | some g=>
  dsimp only;have:(List.replicate (↑a-i) []++qz b a wss last i).getD (x+↑w.2.1) []=(qz b a wss last ↑a).getD (x+↑w.2.1) []:=by
   let#[c,k]:=Nat.exists_eq_add_of_lt n;have e:=uT (ls:=b) (xs:=a) (wss:=wss) (last:=last) i c (x+1);rw [show i+(x+1)=↑a by rw [d,Ĺ,ķ x 1]] at e;rw [j,k,ũ,show x+(c+1)=x+1+c by rw [Ĺ,ķ c 1],e,Yf,ä (by rw [ê];show Nat.le_add_right _ _),ê,ľ,<- Yf]
  rw [this]
def dT:Ϲ->PyData
 | none=> .none
 | some t=> .tuple [.int (t.1:Nat), .int (t.2:Nat)]
def Kf(ls:ϵ)(xs:ϊ Nat)(ds:L2S)(es:ϊ Int):ϊ (ϸ):=qz ls xs (ds.map (aF ls)) (dj es ↑ds) ↑xs
structure IsP(ls:ϵ)(xs:ϊ Nat)(ds:L2S)(es:ϊ Int)(rows:ϊ (ϸ)):Prop where
 len:↑rows=↑xs+1
 row: ∀r∈rows,↑r=↑ds
 at_: ∀x,x<↑xs->rows.getD x []=(ds.map (aF ls)).map λ ws=>jg (kY xs x ls) rows x ws
 last:rows.getD ↑xs []=dj es ↑ds
theorem Kg{h:Nat}{b:ϊ Nat}{c:ϊ Int}(k:Fo.Wf h a):IsP a b ds c (qz a b (ds.map (aF a)) (dj c ↑ds) ↑b):=by
 have e:↑(dj c ↑ds)=↑(ds.map (aF a)):=by unfold dj;rw [Qb,ö,Qb]
 show#[uQ ..,λ r i=>by rw [uR e _ r i,Qb],λ x g=>Z1 g λ o j w m=> ?_,W8 (ls:=a) (xs:=b) (wss:=ds.map (aF a)) (last:=dj c ↑ds) ↑b 0 0 (æ _)];let#[n,_,rfl]:=Zs.mp j;unfold aF at m;let#[p,_,f]:=î.mp m;let#[l,d,rfl]:=Î.mp f;have:=k.c1 _ (Fo.cH d);dsimp only at this ⊢;rfl'
def zA(gs:ϊ (ϐ×Nat))(rows:ϊ (ϸ))(x far:Nat)(w:ϴ):ϑ:=decide ((thr gs rows x w).map (·.1)=!far)
theorem Qp{b:Type}{p:b->ϑ}{l:ϊ b}{w:b}(c:l[i]? =!w)(a: ∀y∈l.take i,p y=false)(e:p w=true):l.find? p=!w:=by
 have d:i<↑l:=(À.mp c).1;have f:l[i]=w:=(À.mp c).2;rw [<- Č i l,List.find?_append,Ķ.mpr (λ y g=>by rw [a y g];decide),Option.none_or,ı d,f,ς e]
def nF(ls:ϵ)(xs:ϊ Nat)(wss:ϲ)(rows:ϊ (ϸ)):Nat->Nat->Nat->ϳ
 | 0,_,_=>[]
 | n+1,x,room=>if x<↑xs then
   match (rows.getD x []).getD room none with
   | none=>[]
   | some t=>match (wss.getD room []).find? (zA (kY xs x ls) rows x t.1) with
    | none=>[]
    | some w=>w::nF ls xs wss rows n (x+↑w.2.1) w.2.2.toNat
  else []
theorem Bj{b:ϵ}(h: ¬x<↑a): ∀n,nF b a wss rows n x room=[]
 | 0=>rfl
 | n+1=>by unfold nF;rw [if_neg h]
theorem xq{b:ϵ}(h:x<↑a)(c:(rows.getD x []).getD room none=!t)(d:(wss.getD room []).find? (zA (kY a x b) rows x t.1)=!w):nF b a wss rows (n+1) x room=w::nF b a wss rows n (x+↑w.2.1) w.2.2.toNat:=by
 rw [nF,if_pos h,c];dsimp only;rw [d]
theorem Kh{d: ϊ (ϐ × Nat)}{b: ϊ (ϊ (ύ (Nat × Nat)))}{c: ϊ (ϐ × ϊ Nat × Int)}(h : jg d b x c = !t): ∃ w ∈ c, (thr d b x w).map (·.1) = !t.1 := by
 have e : ∀(c : ϊ (ϐ × ϊ Nat × Int))(a : ύ (Nat × Nat)), c.foldl (λ a w => mgT a (thr d b x w)) a = !t -> a.map (·.1) = !t.1 \/ ∃ w ∈ c, (thr d b x w).map (·.1) = !t.1 := λ c => by
  induction c with
  | nil=>intro a h;left;rw [show a=!t from h];rfl
  | cons w r ih=>
   intro a h;rw [Ł] at h;rcases ih _ h with h1 | ⟨y,my,hy⟩
   .cases ha:a with
    | none=>
     rw [ha] at h1;show Or.inr #[w,Ë,h1]
    | some u=>
     cases hb:thr d b x w with
     | none=>rw [ha,hb] at h1;show Or.inl h1
     | some v=>
      rw [ha,hb] at h1;by_cases f:u.1=v.1
      .rw [show mgT (!u) (!v)=!(u.1,u.2+v.2) from if_pos f] at h1;show Or.inl h1
      .rw [show mgT (!u) (!v)=if u.1<v.1 then !u else !v from if_neg f] at h1;by_cases g:u.1<v.1
       .rw [if_pos g] at h1;show Or.inl h1
       .rw [if_neg g] at h1;show Or.inr #[w,Ë,by rw [hb];show h1]
   .show Or.inr #[y,É _ my,hy]
 rcases e c none h with h1 | h1
 .cases h1
 .show h1
theorem IsP.step{h:Nat}{a:ϵ}{c:ϊ Nat}{E:ϊ Int}(P:IsP a c ds E rows)(z:Fo.Wf h a)(j: ∀ps∈ds,∀q∈ps,0<=q.2/\q.2<↑ds){t:Ϻ}(F:x<↑c)(v:room<↑ds)(l:(rows.getD x []).getD room none=!t): ∃(w:ϴ)(g:Nat)(u:Ϻ),((ds.map (aF a)).getD room []).find? (zA (kY c x a) rows x t.1)=!w/\w∈aF a (ds.getD room [])/\Fo.lk a w.1=!w.2.1/\jJ (kY c x a) w.1=!g/\(rows.getD (x+↑w.2.1) []).getD w.2.2.toNat none=!u/\g+u.1=t.1/\x+↑w.2.1<=↑c/\1<=↑w.2.1/\0<=w.2.2/\w.2.2<↑ds:=by
 have k:=dY z.up;have e:ds[room]? =!ds[room]:=Qr v;have C:ds.getD room []=ds[room]:=by rw [Yf,e];rfl
 have B:(ds.map (aF a)).getD room []=aF a ds[room]:=by rw [Yf,Wp,e];rfl
 rw [P.at_ x F,Yf,Wp,Wp,e] at l;change jg (kY c x a) rows x (aF a ds[room])=!t at l;let#[G,o,n]:=Kh l;rw [B,C];let#[w,m]: ∃w,(aF a ds[room]).find? (zA (kY c x a) rows x t.1)=!w:=by
  cases hf:(aF a ds[room]).find? (zA (kY c x a) rows x t.1) with
  | some w=>show#[w,rfl]
  | none=>
   have:=Ķ.mp hf G o;show absurd (by unfold zA;show Ø n) this
 have y:=Ĉ m;have b:=Ű m;unfold zA at b;replace b:=ô b;let#[p,f,D]:=î.mp (show w∈ds[room].filterMap _ from y);let#[A,d,rfl]:=Î.mp D;have s:=j _ (Ï v) p f;have r:=(z.c1 _ (Fo.cH d)).1;unfold thr at b;dsimp only at b r
 cases hg:jJ (kY c x a) p.1 with
 | none=>rw [hg] at b;cases b
 | some g=>
  rw [hg] at b;dsimp only at b
  cases hu:(rows.getD (x+↑A) []).getD p.2.toNat none with
  | none=>rw [hu] at b;cases b
  | some u=>
   rw [hu] at b;have i:=zx k d hg;show#[_,g,u,m,y,d,hg,hu,by have:=Þ b;dsimp only at this;show this,i,r,s.1,s.2]
theorem IsP.inP{h:Nat}{b:ϵ}{k:ϊ Nat}{n:ϊ Int}(P:IsP b k ds n rows)(u:Fo.Wf h b)(d: ∀ps∈ds,∀q∈ps,0<=q.2/\q.2<↑ds)(x:Nat): ∀ws∈ds.map (aF b),∀w∈ws,InP (kY k x b) rows x w:=λ ws i w s g o=>by
 let#[ps,f,rfl]:=Zs.mp i;let#[t,r,m]:=î.mp (show w∈ps.filterMap _ from s);let#[l,c,rfl]:=Î.mp m;have a:=zx (dY u.up) c o;have j:=d ps f t r;have p:=P.len;dsimp only at a ⊢;have e:x+↑l<↑rows:=by show Û a (Xf p)
 show#[e,j.1,?_];rw [Yf,Qr e,Option.getD_some,P.row _ (Ï e)];show Xb j
def Bk(ls:ϵ)(xs:ϊ Nat)(ds:L2S)(es:ϊ Int):ύ (ϊ (ϴ)×Nat×Nat):=(((Kf ls xs ds es).getD 0 []).getD 0 none).map λ t=>(nF ls xs (ds.map (aF ls)) (Kf ls xs ds es) ↑xs 0 0,t.1,t.2)
def NrP(H:Hp)(v:V):ύ (ϊ (ϴ)×Nat×Nat)->Prop
 | none=>v= .non
 | some t=> ∃a,v= .ref a/\H a=!(.tup [.str (Txt.join (Str.ofString "") (t.1.map (·.1))), .int (t.2.1:Nat), .int (t.2.2:Nat)])
theorem Kl{b:ϊ (ϸ)}: ∀(n x room:Nat),∀w∈nF e f a b n x room,∃ws∈a,w∈ws
 | 0,_,_,w,h=>by cases h
 | n + 1, x, room, w, h => by
  unfold nF at h;split at h
  .split at h
   .cases h
   .split at h
    .cases h
    .rename_i g d;rcases È.mp h with rfl | h
     .have m:=Ĉ d;by_cases c:room<↑a
      .rw [Yf,Qr c] at m;show#[_,Ï c,m]
      .rw [Yf,ß (GC c)] at m
       cases m
     .show Kl n _ _ w h
  .cases h
theorem xr: ∀{p:ϊ ϐ},(∀s∈p,Hs.Sg s)-> ∃cs:ϊ Nat,p=cs.map (λ c=>tx [c])/\ ∀c∈cs,c<1114112
 | [],_=>#[[],rfl,by simp]
 | s::r,h=>by
  let#[cs,e,a]:=xr (p:=r) λ y b=>h y (É _ b)
  let#[n,rfl]:=h s Ë;show⟨Hs.uA n::cs,by rw [e];rfl,λ c mc=>by
   rcases È.mp mc with rfl | mc
   .show Hs.yO n
   .show a c mc⟩
theorem W9{h:Nat}{c:ϵ}(k:Fo.Wf h c)(n x a:Nat): ∀s∈(nF c l (ds.map (aF c)) rows n x a).map (·.1),Hs.Sg s:=λ s g=>by
 let#[w,i,rfl]:=Zs.mp g;let#[o,e,d]:=Kl n x a w i;let#[j,_,rfl]:=Zs.mp e;let#[p,_,f]:=î.mp (show w∈j.filterMap _ from d);let#[m,b,rfl]:=Î.mp f;show k.sg _ (Fo.cH b)
theorem Wa{h:Nat}{b:ϵ}(c:Fo.Wf h b): ∀t,Bk b xs ds es=!t-> ∀s∈t.1.map (·.1),Hs.Sg s:=λ t a=>by
 unfold Bk at a;let#[u,_,rfl]:=Î.mp a;show W9 c _ _ _
theorem tu(a b c:Ϲ):mgT (mgT a b) c=mgT a (mgT b c):=by
 cases a with
 | none=>rfl
 | some a=>cases b with
  | none=>rfl
  | some b=>cases c with
   | none=>show qm _
   | some c=>
    let#[m,o]:=a;let#[l,p]:=b;let#[n,q]:=c;have i: ∀{d e f g:Nat},d<f->mgT (!(d,e)) (!(f,g))=!(d,e):=λ {d e f g} k=>by
     change(if d=f then !(d,e+g) else if d<f then !(d,e) else !(f,g))=_;rw [if_neg (ã k),if_pos k]
    have gt: ∀{d e f g:Nat},f<d->mgT (!(d,e)) (!(f,g))=!(f,g):=λ {d e f g} k=>by
     change(if d=f then !(d,e+g) else if d<f then !(d,e) else !(f,g))=_;rw [if_neg (Ģ k),if_neg ()]
    have j: ∀{d e g:Nat},mgT (!(d,e)) (!(d,g))=!(d,e+g):=λ {d e g}=>if_pos rfl
    rcases ŵ m l with h | h | h<;>rcases ŵ l n with h' | h' | h'
    .rw [i h,i (ž h h'),i h',i h]
    .subst h';rw [i h,j,i h,i h]
    .rw [i h,gt h']
    .subst h;rw [j,i h',i h',j]
    .subst h;subst h';rw [j,j,j,j,Ĺ]
    .subst h;rw [j,gt h',gt h',gt h']
    .rw [gt h,i h',gt h]
    .subst h';rw [gt h,j,gt h]
    .rw [gt h,gt h',gt (ž h' h)]
def uU(gs:ϊ Nat):Ϲ:=gs.foldl (λ acc g=>mgT acc !(g,1)) none
theorem xu(b:ϊ Nat): ∀a,b.foldl (λ a g=>mgT a !(g,1)) a=mgT a (uU b):=by
 induction b with
 | nil=>intro a;show(qm a).symm
 | cons g r ih=>
  intro a;rw [Ł,ih];change _=mgT a (r.foldl _ (mgT none !(g,1)));rw [ih,tu];rfl
def qp(g:Nat)(a:ϊ Nat):uU (g::a)=mgT (!(g,1)) (uU a):=xu a _
theorem Qq(a b:ϊ Nat):uU (a++b)=mgT (uU a) (uU b):=by
 unfold uU;rw [Ļ,xu];rfl
theorem Km(g:Nat)(a b:Ϲ):mgT (a.map λ t=>(g+t.1,t.2)) (b.map λ t=>(g+t.1,t.2))=(mgT a b).map λ t=>(g+t.1,t.2):=by
 cases a with
 | none=>rfl
 | some a=>cases b with
  | none=>rfl
  | some b=>
   change(if g+a.1=g+b.1 then !(g+a.1,a.2+b.2) else if g+a.1<g+b.1 then !(g+a.1,a.2) else !(g+b.1,b.2))=(if a.1=b.1 then !(a.1,a.2+b.2) else if a.1<b.1 then !a else !b).map λ t=>(g+t.1,t.2)
   by_cases c:a.1=b.1
   .rw [if_pos (Ö (HAdd.hAdd _) c),if_pos c];rfl
   .rw [if_neg (),if_neg c];by_cases d:a.1<b.1
    .rw [if_pos (),if_pos d];rfl
    .rw [if_neg (),if_neg d];rfl
theorem tD(g:Nat): ∀gs:ϊ Nat,uU (gs.map (g+ ·))=(uU gs).map λ t=>(g+t.1,t.2)
 | []=>rfl
 | x::r=>by
  rw [Ç,qp,qp,tD g r,<- Km];rfl
theorem xx: ∀gs:ϊ Nat,(uU gs=none/\gs=[])\/ ∃t,uU gs=!t/\t.1∈gs/\(∀g∈gs,t.1<=g)/\t.2=gs.countP λ g=>decide (g=t.1)
 | []=>Or.inl #[rfl,rfl]
 | x :: r => by
  right;rw [qp];rcases xx r with ⟨h1,h2⟩ | ⟨t,h1,h2,h3,h4⟩
  .rw [h1,h2];show#[(x,1),rfl,by simp,by simp,by simp]
  .rw [h1];change ∃u,(if x=t.1 then !(x,1+t.2) else if x<t.1 then !(x,1) else !t)=!u/\_;by_cases a:x=t.1
   .rw [if_pos a];show#[_,rfl,by simp,λ g mg=> ?_,?_]
    .rcases È.mp mg with rfl | mg
     .show Ä _
     .have:=h3 g mg;dsimp only;show n6 a this
    .dsimp only;rw [List.countP_cons_of_pos (by simp),a,h4];rfl'
   .rw [if_neg a];by_cases b:x<t.1
    .rw [if_pos b];show#[_,rfl,by simp,λ g mg=> ?_,?_]
     .rcases È.mp mg with rfl | mg
      .show Ä _
      .have:=h3 g mg;dsimp only;show Ò (ñ b) this
     .dsimp only;rw [List.countP_cons_of_pos (by simp),List.countP_eq_zero.mpr λ g mg=>by have:=h3 g mg;simp;rfl']
    .rw [if_neg b];show#[t,rfl,É _ h2,λ g mg=> ?_,?_]
     .rcases È.mp mg with rfl | mg
      .show GC b
      .show h3 g mg
     .rw [List.countP_cons_of_neg (by simpa using a)];show h4
theorem Ko: ∀{ws:ϳ},(∀w∈ws,thr gs rows x w=uU (F w))->jg gs rows x ws=uU (ws.flatMap F):=λ {ws} h=>by
 have b: ∀(ws:ϳ) a,(∀w∈ws,thr gs rows x w=uU (F w))->ws.foldl (λ a w=>mgT a (thr gs rows x w)) a=mgT a (uU (ws.flatMap F)):=λ ws=>by
  induction ws with
  | nil=>intro a _;show(qm a).symm
  | cons w r ih=>
   intro a h;rw [Ł,ih _ λ y c=>h y (É _ c),h w Ë,ĭ,Qq,tu]
 show b ws none h
section
variable{h:Nat}
theorem IsP.best(P:IsP ls xs ds es rows)(o:Fo.Wf h ls)(i: ∀ps∈ds,∀q∈ps,0<=q.2/\q.2<↑ds): ∀(n x room:Nat),x<=↑xs->↑xs-x<=n->room<↑ds->(rows.getD x []).getD room none=uU ((PT (ds.map (aF ls)) es n (↑xs-x) room).map λ p=>Mm.b7 (bT p) (xs.drop x)):=by
 have b: ∀(n x room:Nat),x=↑xs->room<↑ds->(rows.getD x []).getD room none=uU ((PT (ds.map (aF ls)) es n (↑xs-x) room).map λ p=>Mm.b7 (bT p) (xs.drop x)):=λ n x room f a=>by
  subst f;rw [Nat.sub_self,P.last];have e:PT (ds.map (aF ls)) es n 0 room=if (room:Int)∈es then [[]] else []:=by cases n<;>rfl
  rw [e];unfold dj;rw [Yf,Wp,ę a];change(if (room:Int)∈es then !(0,1) else none)=_;by_cases c:(room:Int)∈es
  .rw [if_pos c,if_pos c];simp [bT,Mm.b7,uU,mgT]
  .rw [if_neg c,if_neg c];rfl
 intro n;induction n with
 | zero=>intro x room f l a;show b 0 x room (qkQ l f) a
 | succ n ih=>
  intro x room f l a;by_cases j:x<↑xs
  .obtain ⟨k,s⟩: ∃k,↑xs-x=k+1:=#[↑xs-x-1,()];rw [s];change _=uU ((((ds.map (aF ls)).getD room []).flatMap λ w=>if ↑w.2.1<=k+1 then (PT (ds.map (aF ls)) es n (k+1-↑w.2.1) w.2.2.toNat).map (w:: ·) else []).map _);rw [List.map_flatMap,P.at_ x j,Yf,Wp,Wp,Qr a,uP a];change jg (kY xs x ls) rows x (aF ls ds[room])=_;show Ko λ w u=> ?_
   let#[lk,t]:=oA u;have r:=o.c1 _ (Fo.cH lk);have m:=i _ (Ï a) _ t;dsimp only at r m;unfold thr;rw [uO (dY o.up),lk];change(match (if x+↑w.2.1<=↑xs then !(Mm.b7 w.2.1 ((xs.drop x).take ↑w.2.1)) else none) with | none=>none | some g=>_)=_;by_cases d:x+↑w.2.1<=↑xs
   .rw [if_pos d,if_pos ()];dsimp only;rw [ih (x+↑w.2.1) w.2.2.toNat d () (Xb m),<- tD,Å,Å,show ↑xs-(x+↑w.2.1)=k+1-↑w.2.1 by rfl'];congr 1;show ÿ ?_;intro p _;change Mm.b7 w.2.1 _+Mm.b7 (bT p) _=Mm.b7 (w.2.1++bT p) (xs.drop x)
    conv=>rhs;rw [<- Č ↑w.2.1 (xs.drop x)]
    rw [Mm.fB (by rw [Ð,ì];rfl'),List.drop_drop]
   .rw [if_neg d,if_neg ()];rfl
  .show b (n+1) x room (qnE f j) a
end
def Gw(ls:ϵ)(ds:L2S):Nat->ϳ->Nat->Prop
 | r,[],r'=>r=r'
 | r,w::p,r'=>r<↑ds/\Hs.dr (ds.getD r []) w.1=!w.2.2/\Fo.lk ls w.1=!w.2.1/\0<=w.2.2/\Gw ls ds w.2.2.toNat p r'
theorem mU{r:Int}: ∀{ps:L1S},(ps.map (·.1)).Nodup->(s,r)∈ps->Hs.dr ps s=!r
 | [],_,h=>by cases h
 | p::ps,hnd,h=>by
  rw [Ç,û] at hnd;rw [Hs.lU];rcases È.mp h with h | h
  .rw [<- h,if_pos rfl]
  .rw [if_neg (λ e=>hnd.1 (by rw [e];show Zs.mpr #[_,h,rfl])),mU hnd.2 h]
theorem IsP.path{h:Nat}{b:ϵ}(P:IsP b a ds f rows)(C:Fo.Wf h b)(r: ∀ps∈ds,∀q∈ps,0<=q.2/\q.2<↑ds)(s: ∀ps∈ds,(ps.map (·.1)).Nodup): ∀(n x room:Nat)(t:Ϻ),x<=↑a->room<↑ds->↑a-x<=n->(rows.getD x []).getD room none=!t-> ∃R:Nat,Gw b ds room (nF b a (ds.map (aF b)) rows n x room) R/\(R:Int)∈f/\↑(bT (nF b a (ds.map (aF b)) rows n x room))=↑a-x/\Mm.b7 (bT (nF b a (ds.map (aF b)) rows n x room)) (a.drop x)=t.1:=λ n=>by
 have fin: ∀(n x room:Nat)(t:Ϻ),x=↑a->room<↑ds->(rows.getD x []).getD room none=!t-> ∃R:Nat,Gw b ds room (nF b a (ds.map (aF b)) rows n x room) R/\(R:Int)∈f/\↑(bT (nF b a (ds.map (aF b)) rows n x room))=↑a-x/\Mm.b7 (bT (nF b a (ds.map (aF b)) rows n x room)) (a.drop x)=t.1:=λ n x room t i e d=>by
  subst i;rw [Bj (ć _)];rw [P.last] at d;unfold dj at d;rw [Yf,Wp,ę e] at d;change(if (room:Int)∈f then !(0,1) else none)=!t at d;by_cases c:(room:Int)∈f
  .rw [if_pos c] at d
   cases d;show#[room,rfl,c,by simp [bT],by simp [bT,Mm.b7]]
  .rw [if_neg c] at d;cases d
 induction n with
 | zero=>intro x room t i e z d;show fin 0 x room t (qkQ z i) e d
 | succ n ih=>
  intro x room t i e z d;by_cases k:x<↑a
  .obtain ⟨w,g,u,L,N,A,j,O,Q,B,U,S,M⟩:=P.step C r k e d;let#[R,H,I,J,K]:=ih (x+↑w.2.1) w.2.2.toNat u B () () O;rw [xq k d L];have o:ds[room]? =!ds[room]:=Qr e;have E:ds.getD room []=ds[room]:=by rw [Yf,o];rfl
   let#[p,v,F]:=î.mp (show w∈(ds.getD room []).filterMap _ from N);let#[T,D,y]:=Î.mp F;have l:p.1=w.1:=Ö (·.1) y;have m:p.2=w.2.2:=Ö (·.2.2) y;have G:g=Mm.b7 w.2.1 ((a.drop x).take ↑w.2.1):=by
    rw [uO (dY C.up),A] at j;change(if x+↑w.2.1<=↑a then !(Mm.b7 w.2.1 ((a.drop x).take ↑w.2.1)) else none)=!g at j;rw [if_pos B] at j;show(Þ j).symm
   show#[R,#[e,?_,A,S,H],I,?_,?_]
   .show mU (s _ (by rw [E];show Ï e)) ?_;rw [<- l,<- m];show v
   .show ↑(w.2.1++bT _)=_;rw [Â,J];rfl'
   .show Mm.b7 (w.2.1++bT _) _=_;rw [<- Č ↑w.2.1 (a.drop x),Mm.fB (by rw [Ð,ì];rfl'),List.drop_drop,K,<- G];show Q
  .show fin (n+1) x room t (qnE i k) e d
def nQ(p:ϳ):ϊ Nat:=(p.map λ w=>w.1.cps.toList).flatten
section
variable{h:Nat}
theorem Dr(t : ∀ ws ∈ wss, ws.Pairwise (λ a b => qM a.1 b.1) /\ ∀ w ∈ ws, ∃ c, w.1 = tx [c]): ∀ n k room, (PT wss es n k room).Pairwise λ p q => nQ p < nQ q := by
 have zero: ∀n room,(PT wss es n 0 room).Pairwise λ p q=>nQ p<nQ q:=λ n room=>by
  have e:PT wss es n 0 room=if (room:Int)∈es then [[]] else []:=by cases n<;>rfl
  rw [e];split<;>simp
 intro n;induction n with
 | zero=>intro k room;cases k with
  | zero=>show zero 0 room
  | succ k=>show List.Pairwise.nil
 | succ n ih =>
  intro k room
  cases k with
  | zero=>show zero _ room
  | succ k=>
   change List.Pairwise _ ((wss.getD room []).flatMap _);rw [List.pairwise_flatMap];rcases K9 (wss:=wss) room with e | m
   .rw [e];simp
   .obtain ⟨s,h⟩:=t _ m;show#[λ w z=> ?_,s.imp_of_mem λ {a b} u v f x l y o=> ?_]
    .split
     .rw [ļ];show(ih _ _).imp λ {p q} j=> ?_
      let#[c,g]:=h w z;change w.1.cps.toList++nQ p<w.1.cps.toList++nQ q;rw [g];change c::nQ p<c::nQ q;show List.cons_lt_cons_iff.mpr (Or.inr #[rfl,j])
     .show List.Pairwise.nil
    .obtain ⟨c,g⟩:=h a u;let#[d,r]:=h b v;split at l
     .split at o
      .obtain ⟨p,_,rfl⟩:=Zs.mp l;let#[q,_,rfl]:=Zs.mp o;change a.1.cps.toList++nQ p<b.1.cps.toList++nQ q;rw [g,r] at f ⊢;have i:c<d:=by
        have:[c]<[d]:=f;rcases List.cons_lt_cons_iff.mp this with h3 | ⟨_,h3⟩
        .show h3
        .show absurd h3 (œ [])
       change c::nQ p<d::nQ q;show List.cons_lt_cons_iff.mpr (Or.inl i)
      .cases o
     .cases l
theorem Qs(d:(e.map (·.1)).Pairwise qM):(aF ls e).Pairwise λ a b=>qM a.1 b.1:=by
 unfold aF;rw [List.pairwise_filterMap];rw [ļ] at d;show d.imp λ {a b} c x f y g=> ?_
 let#[_,_,rfl]:=Î.mp f;let#[_,_,rfl]:=Î.mp g;show c
theorem Wb(j:Fo.Wf h ls)(g: ∀ps∈ds,(ps.map (·.1)).Pairwise qM): ∀ws∈ds.map (aF ls),ws.Pairwise (λ a b=>qM a.1 b.1)/\ ∀w∈ws,∃c,w.1=tx [c]:=λ ws e=>by
 let#[ps,d,rfl]:=Zs.mp e;show#[Qs (g ps d),λ w i=> ?_];let#[n,f]:=j.sg _ (Fo.cH (oA i).1);show#[_,f]
theorem Kp(q:Fo.Wf h ls)(m:(R:Int)∈es): ∀(p:ϳ)(n room:Nat),Gw ls ds room p R->↑(bT p)<=n->p∈PT (ds.map (aF ls)) es n ↑(bT p) room:=λ p=>by
 induction p with
 | nil=>
  intro n room a _
  cases (show room=R from a);have e:PT (ds.map (aF ls)) es n ↑(bT []) R=if (R:Int)∈es then [[]] else []:=by cases n<;>rfl
  rw [e,if_pos m];simp
 | cons w p ih=>
  intro n room a o;let#[d,j,f,r,l]:=a;have c:=(q.c1 _ (Fo.cH f)).1;dsimp only at c;have i:↑(bT (w::p))=↑w.2.1+↑(bT p):=by change↑(w.2.1++bT p)=_;rw [Â]
  rw [i] at o ⊢;let#[b,rfl]: ∃b,n=b+1:=#[n-1,()];let#[k,g]: ∃k,↑w.2.1+↑(bT p)=k+1:=#[↑w.2.1+↑(bT p)-1,Eq.symm (qp1 (qsT c _))];rw [g];change w::p∈((ds.map (aF ls)).getD room []).flatMap _;rw [uP d];show ï.mpr #[w,î.mpr #[(w.1,w.2.2),?_,by dsimp only;rw [f];rfl],?_]
  .have:=Hs.kW j;rw [Yf,Qr d] at this;show this
  .rw [if_pos ()];show Zs.mpr #[p,?_,rfl];rw [show k+1-↑w.2.1=↑(bT p) by rfl'];show ih b _ l ()
theorem Kq(h: ∀ps∈ds,(ps.map (·.1)).Nodup)(g: ∀ps∈ds,∀q∈ps,0<=q.2/\q.2<↑ds): ∀(n k room:Nat),∀p∈PT (ds.map (aF ls)) es n k room,∃R:Nat,Gw ls ds room p R/\(R:Int)∈es/\↑(bT p)=k:=by
 have zero: ∀n room,∀p∈PT (ds.map (aF ls)) es n 0 room,∃R:Nat,Gw ls ds room p R/\(R:Int)∈es/\↑(bT p)=0:=λ n room p a=>by
  have e:PT (ds.map (aF ls)) es n 0 room=if (room:Int)∈es then [[]] else []:=by cases n<;>rfl
  rw [e] at a;split at a
  .rename_i c;rw [Zp.mp a];show#[room,rfl,c,rfl]
  .cases a
 intro n;induction n with
 | zero=>intro k room p a;cases k with
  | zero=>show zero 0 room p a
  | succ k=>cases a
 | succ n ih=>
  intro k room p a
  cases k with
  | zero=>show zero _ room p a
  | succ k=>
   let#[w,f,a]:=ï.mp (show p∈((ds.map (aF ls)).getD room []).flatMap _ from a);by_cases b:room<↑ds
   .rw [uP b] at f;let#[lk,d]:=oA f;split at a
    .rename_i m;let#[j,i,rfl]:=Zs.mp a;let#[R,o,r,s]:=ih _ _ j i;have t:=g _ (Ï b) _ d;have l:ds.getD room []=ds[room]:=by rw [Yf,Qr b];rfl
     show#[R,#[b,by rw [l];show mU (h _ (Ï b)) d,lk,t.1,o],r,by change↑(w.2.1++bT j)=_;rw [Â,s];rfl']
    .cases a
   .rw [Yf,ß (by rw [Qb];show GC b)] at f
    cases f
end
inductive sp_f19(K:Ϗ)(vs:ϊ V)(H:Hp)(Q:VK)(E:XK):Prop
 | mk (f e p:ό) (h:Nat) (b:ϵ) (a:L2S) (d:ϊ Int) (c:ϊ Nat) (i:vs=[.ref f, .ref e, .ref p]) (j:FnF K H f h b) (k:Fo.Wf h b) (l:HsG K H e a d) (m:↑a<=40) (n:(∀ps∈a,↑ps<=1000/\ ∀q∈ps,0<=q.2/\q.2<↑a)) (o:SqL K H p (nv c)) (r:↑c<=1000) (s: ∀pp H' g,Same H H'->H pp=none->PpN H H' pp (qz b c (a.map (aF b)) (dj d ↑a) ↑c) g->Q (.ref pp) H')
abbrev Kr K:=(aA (cu (QZ (lY (aN lG (dF K bJ) (tI 1)) (QJ ph (tI 1)) (QJ ph (tI 1)))) (ak 5) (aA (aJ (bA (sp_f57 K) (lY aX bJ gw)) (ak 6))
  (aJ (lF [none,!6,!4,!5] (bN K cF) (ak 0) dB (bA (sp_f42 K) (DP aX b8 bJ cF))) (Ea d7 gw oW))))
  (aP d7))
abbrev Ks K:=(aA (aJ (lF [none] (gF (cM (aN bZ (dF K bJ) (tI 1)))) (ak 0) dB (jQ iV)) (ak 4))
  (aA (aJ (lF [none,!1] (gF (cM (dF K cF))) (ak 0) dB (Xo (aU (aN (QL K false) aX (tX K b8 1))) (dI (bK (tI 0) (tI 1))) (tC V.non))) (Ea d7 (dF K bJ) oW))
  (Kr K)))
abbrev Ku K(E:XK)(Eh:XK):=(aA (aJ (bA (sp_f56 K) (bK aX b8)) (ak 3))
  (Ks K))
abbrev qt:ϊ ϐ:=sN ["font","house","strip","ways","paper","x","gaps"]
theorem Wc(h:sp_f19 K vs H Q E):RG (Ku K E) qt vs H Q:=by
 let#[f,ha,p,h,n,s,B,d,rfl,hF,wf,hH,L,ay,hP,be,q]:=h;show#[E0,?_];have bq:=dY wf.up;apply#[f,ha,h,n,s,B,rfl,hF,wf,hH,d9 L,λ ps m=>(ay ps m).1,λ wa H1 s1 b3 hW=> ?_];apply bQ (s1.seq hP) ?_;rw [Qb];symm;rw [show(↑d:Int)+1=((↑d+1:Nat):Int) by show rfl];show Us (↑d+1) (Ó _) (d9 (Ė be)) (qmN (_+1)) (λ i x hi A kA=> ?_) λ C H2 D s2 a9 aw ax a8 ab a7=> ?_
 .symm;intro p' ae;show kA p' ae
 symm;let#[rs,w1,w2,w3]:=id hW;have ag:↑rs=↑s:=by have:=Ö List.length w1;rw [Qb,Qb] at this;show this
 let#[hd,he,b2,a1,a2,a3,a4,a5]:=id hH;have S2:=s1.trans s2;show bQ (SqL.of (s2.get w2)) ?_;rw [Qb,ag];show yL ↑s (Ó _) (d9 L) (qmN _) (λ i l x=>(An3 (Same H2 x) (↑l=i) (∀(j:Nat) v,l[j]? =!v->ThP x v (if (j:Int)∈B then !(0,1) else none)))) #[Same.refl _,rfl,by simp] ?_ ?_ ?_
 .rintro i l x ⟨_,X,_⟩;show ė X
 .rintro i l x hi ⟨P,X,hy⟩;have S':=S2.trans P;have bi: ∀v H4,Same x H4->ThP H4 v (if (i:Int)∈B then !(0,1) else none)->(An3 (Same H2 H4) (↑(l++[v])=i+1) (∀(j:Nat) u,(l++[v])[j]? =!u->ThP H4 u (if (j:Int)∈B then !(0,1) else none))):=λ v H4 s4 Y=>⟨P.trans s4,by simp [X],λ j u z=>by
   by_cases N:j<↑l
   .rw [ç N] at z;show(hy j u z).same s4
   .rw [ä (GC N)] at z;have e0:j-↑l=0:=by
     have:=(À.mp z).1;simp at this;show this
    rw [e0] at z
    cases z;rw [show j=i by rfl'];show Y⟩
  apply dX (S'.get a1) ?_;apply Hf (.inr (SqT.of (S'.get a5))) rfl (lO _) ?_;rw [nY];apply fL (λ c=> ?_) λ c=> ?_
  .symm;intro t O;show bi _ _ (aq O _) (by rw [if_pos c];show#[t,rfl,aa])
  .symm;show bi _ _ (Same.refl _) (by rw [if_neg c];rfl)
 rintro l H3 ⟨s3,bg,hy⟩ b W;symm;have S3:=(S2.trans s3).new W (o:=HO.lst l);show bQ (S3.seq hP) ?_;rw [Qb];have ai:=s3.new W (o:=HO.lst l);have T:H2 b=none:=s3.free W;have ap:PpN H (upd H3 b (HO.lst l)) C (List.replicate (↑d+1) []) D:=by
  show#[by rw [aw,ê],ai.get a7,λ i a ts ha br=> ?_,λ i j a hi z=> ?_,λ a ma=>s1.free (ab a ma).1,a8]
  .have:ts=[]:=List.eq_of_mem_replicate (Xs br);subst this;show#[[],ai.get (ab a (Xs ha)).2,rfl,by simp]
  .show (List.getElem?_inj (À.mp hi).1 ax).mp (hi.trans z.symm)
 have I:b∉D:=λ m=>by rw [(ab b m).2] at T;cases T
 have J:b≠C:=qR a7 T;have G:RwP (upd H3 b (HO.lst l)) b (dj B ↑s):=by
  show#[l,aa,by unfold dj;rw [Qb,ö,bg],λ i v t Y O=> ?_];unfold dj at O;have bo:i<↑s:=by have:=(À.mp Y).1;show qgT this bg
  rw [Wp,ę bo] at O
  cases O;show(hy i v Y).same (aq W _)
 have U:=ap.put (k:=↑d) G (S2.free T) I J;show yM ↑d ap.at_ rfl (by rw [Qb,aw];show Xf rfl) ?_;have er:(List.replicate (↑d+1) ([]:ϸ)).set ↑d (dj B ↑s)=List.replicate (↑d-0) []++qz n d (s.map (aF n)) (dj B ↑s) 0:=by
  rw [ż,List.set_append,if_neg (by rw [ê];show ć _),ê,Nat.sub_self,Nat.sub_zero];rfl
 rw [er] at U;have bb:H C=none:=s1.free a9;have ac: ∀p'∈[C],H1 p'=none:=λ p' ae=>by rw [Zp.mp ae];show a9
 have ah:Sb [C] H1 (upd (upd H3 b (HO.lst l)) C (.lst ((D.map V.ref).set ↑d (.ref b)))):=(Sb.of (s2.trans ai)).set (by simp);generalize upd (upd H3 b (HO.lst l)) C (.lst ((D.map V.ref).set ↑d (.ref b)))=H4 at U ah;generalize D.set ↑d b=as1 at U;have ad:↑(dj B ↑s)=↑(s.map (aF n)):=by unfold dj;rw [Qb,ö,Qb]
 apply bQ ((s1.trans (ah.off ac)).seq hP) ?_;rw [Qb];apply Uw ↑d () (by decide) (by decide) () () (λ i σ x=>(Ex1 λ D=>(An4 (i<=↑d) (Sb [C] H1 x) (PpN H x C (List.replicate (↑d-i) []++qz n d (s.map (aF n)) (dj B ↑s) i) D) (Ex2 λ o1 o2=>σ=[!(.ref f),!(.ref ha),!(.ref p),!(.ref wa),!(.ref C),o1,o2])))) ?_ ?_ ?_
 .show #[as1,æ _,ah,U,none,none,rfl]
 .rintro i σ x hi ⟨D,_,sb,R,o1,o2,rfl⟩;have S:=sb.off ac;have SH:=s1.trans S;rw [show(↑d:Int)-1-(i:Int)=((↑d-1-i:Nat):Int) by rfl'];have bd:↑d-1-i+1=↑d-i:=by show qkP hi
  have a6:=uQ n d (s.map (aF n)) (dj B ↑s) i;have M:=uR (ls:=n) (xs:=d) ad i;generalize hfe:qz n d (s.map (aF n)) (dj B ↑s) i=fi at R a6 M;apply#[f,p,h,↑d-1-i,n,d,rfl,hF.t.same SH,wf,SH.seq hP,be,(),λ ga H5 s5 b1 eg=> ?_];symm;have am: ∀r∈rs,∀w∈r.2,InP (kY d (↑d-1-i) n) (List.replicate (↑d-i) []++fi) (↑d-1-i) w:=λ r mr w mw g hg=>by
   have bv:r.2∈s.map (aF n):=by rw [<- w1];show Zs.mpr #[r,mr,rfl]
   let#[ps,bs,bl]:=Zs.mp bv;rw [<- bl] at mw;let#[q',mq,eq]:=î.mp mw;let#[co,al,rfl]:=Î.mp eq;have b0:=zx bq al hg;have bn:=(wf.c1 _ (Fo.cH al)).1;have hq:=(ay ps bs).2 q' mq;dsimp only at bn ⊢;show#[by rw [Â,ê,a6];rfl',hq.1,?_];rw [Yf,ä (by rw [ê];rfl'),ê,Qr (),Option.getD_some,M _ (Ï _),Qb];show Xb hq
  have Z:=S.trans s5;show wQ (λ r:ό×ϊ (ϴ)=>V.ref r.1) (zs:=rs) (SqL.of (Z.get w2)) (d9 (n6 ag L)) (λ k l x=>(An3 (Same H5 x) (↑l=k) (∀(j:Nat) v r,l[j]? =!v->rs[j]? =!r->ThP x v (jg (kY d (↑d-1-i) n) (List.replicate (↑d-i) []++fi) (↑d-1-i) r.2)))) #[Same.refl _,rfl,by simp] ?_ ?_ ?_ ?_
  .rintro k l x ⟨P,_⟩;show SqL.of ((Z.trans P).get w2)
  .rintro k l x ⟨_,X,_⟩;show ė X
  .rintro k r l H6 hk ⟨P,X,hy⟩;have mr:=Xs hk;apply#[r.1,ga,C,↑d-1-i,r.2,_,_,rfl,(w3 r mr).same (Z.trans P),P.get eg,R.t.same (s5.trans P),am r mr,λ v H7 s7 Y=> ?_];apply#[P.trans s7,by simp [X],λ j u r' z af=> ?_];by_cases N:j<↑l
   .rw [ç N] at z;show(hy j u r' z af).same s7
   .rw [ä (GC N)] at z;have e0:j-↑l=0:=by
     have:=(À.mp z).1;simp at this;show this
    rw [e0] at z
    cases z;rw [show j=k by rfl',hk] at af
    cases af;show Y
  .rintro l H6 ⟨P,X,hy⟩ b W;have s6:=s5.trans P;have F:x b=none:=s6.free W;have ar:=(R.same s6).same (aq W (HO.lst l));have I:b∉D:=λ m=>by
    let#[j,z,ej]:=ā.mp m;have bp:j<↑(List.replicate (↑d-i) []++fi):=by rw [<- R.len];show z
    let#[vs,e1,_]:=R.row j b _ (by rw [Qr z,ej]) (Qr bp);rw [e1] at F;cases F
   have J:b≠C:=λ e=>by rw [e,R.at_] at F;cases F
   have G:RwP (upd H6 b (HO.lst l)) b ((s.map (aF n)).map λ ws=>jg (kY d (↑d-1-i) n) (List.replicate (↑d-i) []++fi) (↑d-1-i) ws):=by
    show#[l,aa,by rw [X,Qb,Qb,ag],λ j v t Y O=> ?_];rw [Wp,<- w1,Wp] at O
    cases hrj:rs[j]? with
    | none=>rw [hrj] at O;cases O
    | some r=>
     rw [hrj] at O
     cases O;show(hy j v r Y hrj).same (aq W _)
   have av:=ar.put (k:=↑d-1-i) G (SH.free F) I J;apply yM (↑d-1-i) ar.at_ rfl (by rw [Qb,R.len,Â,ê];rfl') ?_;apply#[D.set (↑d-1-i) b,hi,(sb.same (s6.trans (aq W _))).set (by simp),?_,_,_,rfl];have bm:(List.replicate (↑d-i) ([]:ϸ)++fi).set (↑d-1-i) ((s.map (aF n)).map λ ws=>jg (kY d (↑d-1-i) n) (List.replicate (↑d-i) []++fi) (↑d-1-i) ws)=List.replicate (↑d-(i+1)) []++qz n d (s.map (aF n)) (dj B ↑s) (i+1):=by
    change _=_++(_::qz n d (s.map (aF n)) (dj B ↑s) i);rw [hfe,List.set_append,if_pos (by rw [ê];show Xf (bd.symm))];have e9:List.replicate (↑d-i) ([]:ϸ)=List.replicate (↑d-1-i) []++[[]]:=by rw [<- bd,ż]
    have bk: ∀y:ϸ,(List.replicate (↑d-i) ([]:ϸ)).set (↑d-1-i) y=List.replicate (↑d-1-i) []++[y]:=λ y=>by
     rw [e9,List.set_append,if_neg (by rw [ê];show ć (_-1-_)),ê,Nat.sub_self];rfl
    rw [bk,é,show ↑d-(i+1)=↑d-1-i by rfl'];rfl
   rw [bm] at av;show av
 .rintro σ x ⟨D,_,sb,R,o1,o2,rfl⟩;rw [Nat.sub_self] at R;apply q C x D (s1.trans (sb.off ac)) bb R
inductive sp_f31(K:Ϗ)(vs:ϊ V)(H:Hp)(Q:VK)(E:XK):Prop
 | mk (f e g:ό) (x b:Nat) (d:ϳ) (c:ϊ (ϐ×Nat)) (a:ϊ (ϸ)) (i:vs=[.ref f, .ref e, .ref g, .int x, .int b]) (j:LdT H f d) (k:H e=!(.dK (K6 c))) (l:PpT H g a) (m:(∀w∈d,InP c a x w)) (n:(∃w,d.find? (zA c a x b)=!w)) (o: ∀h w H',Same H H'->d.find? (zA c a x b)=!w->WyT H' (h,w)->Q (.ref h) H')
abbrev Kv K(E:XK)(Eh:XK):=(aA (cu (bN K aX) (ak 5) (aA (aJ (bA (sp_f7 K) (DP gw b8 bJ cF)) (ak 6))
  (bf (qD (aU (aN u9 jV (tC V.non))) (aU (aN uX (tX K jV 0) d7))) (aP gw) aV)))
  (aP (tC V.non)))
abbrev Kw:ϊ ϐ:=sN ["leads","gaps","paper","x","far","way","thing"]
theorem Wd(h:sp_f31 K vs H Q E):RG (Kv K E) Kw vs H Q:=by
 let#[X,I,O,x,g,s,l,a,rfl,#[F,k,G,M],T,U,A,#[Y,m],q]:=h;show#[E0,?_];have B:↑F=↑s:=by rw [<- k,Qb]
 apply cV (λ z:Wz=>V.ref z.1) (zs:=F) (SqL.of G) (λ i v o=>(An3 (Same H o) (∀w∈s.take i,zA l a x g w=false) (Ex2 λ C D=>v=[!(.ref X),!(.ref I),!(.ref O),!(.int (x:Nat)),!(.int (g:Nat)),C,D]))) #[Same.refl _,by simp,none,none,rfl] ?_ ?_ ?_
 .rintro i v o ⟨f,_⟩;show SqL.of (f.get G)
 .rintro i ⟨P,w⟩ v o L ⟨f,c,C,D,rfl⟩;have N:=Xs L;have j:s[i]? =!w:=by rw [<- k,Wp,L];rfl
  have n:zA l a x g w=false-> ∀y∈s.take (i+1),zA l a x g y=false:=λ W y my=>by
   rw [Í,j] at my;rcases Æ.mp my with my | my
   .show c y my
   .rw [Zp.mp my];show W
  apply#[P,I,O,x,w,l,a,rfl,(M _ N).same f,f.get T,U.same f,A w (Xs j),λ u R r p=> ?_];symm
  cases ht:thr l a x w with
  | none=>
   rw [ht] at p
   cases p;show eQ rfl ?_;apply#[f.trans r,n (by unfold zA;rw [ht];rfl),_,_,rfl]
  | some t=>
   rw [ht] at p;let#[b,rfl,S]:=p;show sU (λ _=> ?_) λ d=>nomatch d
   apply gn S ?_;apply fL (λ d=> ?_) λ d=> ?_
   .symm;show q P w R (f.trans r) (Qp j c ?_) ((M _ N).same (f.trans r));unfold zA;rw [ht];show Ø (Ö some (by dsimp only;show PN d))
   .symm;show#[f.trans r,n ?_,_,_,rfl];unfold zA;rw [ht];show Ú λ e=>d (by have:=Þ e;dsimp only at this;rfl')
 .rintro v o ⟨f,c,C,D,rfl⟩;rw [ë (n6 (B.symm) (Ä _))] at c;have J:=c Y (Ĉ m);rw [Ű m] at J
  cases J
inductive sp_f22(K:Ϗ)(vs:ϊ V)(H:Hp)(Q:VK)(E:XK):Prop
 | mk (f g p i:ό) (h:Nat) (c:ϵ) (b:L2S) (e:ϊ Int) (d:ϊ Nat) (a:ϊ (ϸ)) (m:vs=[.ref f, .ref g, .ref p, .ref i]) (n:FnF K H f h c) (o:Fo.Wf h c) (r:HsG K H g b e) (s:(1<=↑b/\↑b<=40)) (u:(∀ps∈b,↑ps<=1000)) (v:(∀ps∈b,∀q∈ps,0<=q.2/\q.2<↑b)) (w:SqL K H p (nv d)) (x:↑d<=1000) (y:PpT H i a) (j:IsP c d b e a) (k:(∃t,(a.getD 0 []).getD 0 none=!t)) (l: ∀H',Same H H'->Q (.str (Txt.join (Str.ofString "") ((nF c d (b.map (aF c)) a ↑d 0 0).map (·.1)))) H')
abbrev Ky K:=(aA (aJ (bA (sp_f31 K) (dH (aN (eG K) d7 jV) (DP (bA (sp_f57 K) (lY aX bJ uZ)) cF uZ (tX K (aN (eG K) (aN (eG K) cF uZ) jV) 0)))) (ak 8))
  (aA (cT (qx K "list" dM gw (cM (tX K Qj 0))))
  (aA (Nm 7 (dF K (tX K Qj 1)) zX)
  (aJ (tX K Qj 2) (ak 6)))))
abbrev KC K(E:XK)(Eh:XK):=(aA (aJ (bA (sp_f56 K) (bK aX b8)) (ak 4))
  (aA (aJ (jQ iV) (ak 5))
  (aA (aJ (tI 0) (ak 6))
  (aA (aJ (tI 0) (ak 7))
  (aA (gP (aU (aN Fw uZ (dF K bJ))) (Ky K))
  (aP (qx K "str" (rJoin K) (tC (V.str (Str.ofString ""))) (cM gw))))))))
abbrev KD:ϊ ϐ:=sN ["font","house","strip","paper","ways","signs","room","x","way"]
theorem We(h:sp_f22 K vs H Q E):RG (KC K E) KD vs H Q:=by
 let#[f,ha,p,pp,h,G,J,es,F,A,rfl,hF,wf,hH,#[Y,Z],ap,ab,hP,a1,ad,P,#[t0,ay],q]:=h;show#[E0,?_];apply#[f,ha,h,G,J,es,rfl,hF,wf,hH,d9 Z,ap,λ wa H1 s1 a5 hW=> ?_];let#[rs,w1,w2,w3]:=id hW;have ax:↑rs=↑J:=by have:=Ö List.length w1;rw [Qb,Qb] at this;show this
 symm;intro O ae;symm;have ar: ∀p'∈[O],H1 p'=none:=λ p' av=>by rw [Zp.mp av];show ae
 show uy (λ σ H'=>(Ex5 λ (B:ϳ) (x d n:Nat) (t:Ϻ)=>(An10 (Sb [O] H1 H') (H' O=!(.lst (B.map λ w=>V.str w.1))) (x<=↑F) (d<↑J) (↑F-x<=n) (B++nF G F (J.map (aF G)) A n x d=nF G F (J.map (aF G)) A ↑F 0 0) ((A.getD x []).getD d none=!t) (↑B<=x) (∀w∈B,↑w.1=1) (Ex1 λ o=>σ=[!(.ref f),!(.ref ha),!(.ref p),!(.ref pp),!(.ref wa),!(.ref O),!(.int (d:Nat)),!(.int (x:Nat)),o])))) (λ σ _=>match σ with | [_,_,_,_,_,_,_,!(.int x),_]=>↑F-x.toNat | _=>0) ⟨[],0,0,F.length,t0,Sb.of (aq ae _),aa,æ _,Y,Ä _,rfl,ay,Ä _,by simp,none,rfl⟩ ?_ ?_
 .rintro σ H' ⟨B,x,d,n,t,sb,U,hx,m,hn,D,ht,aw,ac,o,rfl⟩;have S:=sb.off ar;have SH:=s1.trans S;apply bQ (SH.seq hP) ?_;rw [Qb];apply fL (λ c=> ?_) λ c=> ?_
  .have cx:x<↑F:=by show Ub c
   let#[w,g,u,k1,k2,k3,k4,k5,k6,k7,k8,k9,a2]:=P.step wf ab cx m ht;let#[I,L]: ∃I,rs[d]? =!I:=#[_,Qr (DK m ax)];have ah:(J.map (aF G))[d]? =!I.2:=by rw [<- w1,Wp,L];rfl
   have W:(J.map (aF G)).getD d []=I.2:=by rw [Yf,ah];rfl
   rw [W] at k1;apply qQ (S.get w2) L ?_;apply#[f,p,h,x,G,F,rfl,(hF.same SH).t,wf,SH.seq hP,a1,hx,λ ga H5 s5 a4 eg=> ?_];have S5:=S.trans s5;have T:=s1.trans S5;let#[as,am,ep,hr]:=ad.same T;have ai:x<↑A:=by rw [P.len];show qsT (Ub c) _
   let#[a,X]: ∃a,as[x]? =!a:=#[_,Qr (DK ai am)];let#[R,N]: ∃R,A[x]? =!R:=#[_,Qr ai];let#[vs,e1,e2,e3]:=hr x a R X N;have M:=P.row R (Xs N);let#[v,hv]: ∃v,vs[d]? =!v:=#[_,Qr (DK m (Eq.trans e2 M))];have af:R[d]? =!(!t):=by
    rw [show A.getD x []=R by rw [Yf,N];rfl,Yf,Qr (DK m M)] at ht;rw [Qr (DK m M)];show Ö some ht
   let#[b,rfl,eb]:=e3 d v _ hv af;apply gm (SqL.of ep) (aQ (j:=x) (v:= .ref a) (by rw [Wp,X];rfl)) ?_;apply gm (SqL.of e1) (aQ (j:=d) (v:= .ref b) hv) ?_;apply gn eb ?_;apply#[I.1,ga,pp,x,t.1,I.2,_,A,rfl,(w3 I (Xs L)).same S5,eg,ad.same T,P.inP wf ab x I.2 (Xs ah),#[w,k1],λ ya w' H6 s6 ag hy=> ?_];rw [k1] at ag
   cases ag;let#[ca,y1,y2]:=hy;dsimp only at y1 y2;have C:=(s5.trans s6).get U;apply fQ (SqL.of C) ?_;apply gn y1 ?_;apply jE C (by rw [Qb];rfl') ?_;have al:upd H6 O (HO.lst ((B.map λ w=>V.str w.1)++[V.str w.1])) ya=!(.tup [.str w.1, .ref ca, .int w.2.2]):=by rw [au (jd y1 C)];show y1
   have a3:upd H6 O (HO.lst ((B.map λ w=>V.str w.1)++[V.str w.1])) ca=!(.tup (nv w.2.1)):=by rw [au (jd y2 C)];show y2
   apply dX al ?_;apply cX (SqT.of a3) ?_;rw [Qb];apply jT al ?_;symm;let#[n',rfl]: ∃n',n=n'+1:=#[n-1,()];rw [xq cx ht (by rw [W];show k1)] at D;show#[#[B++[w],x+↑w.2.1,w.2.2.toNat,n',u,(sb.same (s5.trans s6)).set (by simp),by rw [aa,Jn];rfl,k7,qtC a2 Y,(),by rw [é];show D,k5,by rw [Â,â];show Nat.add_le_add aw k8,λ y my=> ?_,!(.ref ya),?_],?_]
   .rcases Æ.mp my with my | my
    .show ac y my
    .rw [Zp.mp my];let#[c,ec]:=wf.sg _ (Fo.cH k3);dsimp only at ec;rw [ec,aM];rfl
   .rw [show((w.2.2.toNat:Nat):Int)=w.2.2 by show An k9,show((x+↑w.2.1:Nat):Int)=(x:Int)+(↑w.2.1:Int) from rfl];rfl
   .show ↑F-((x:Int)+(↑w.2.1:Int)).toNat<↑F-((x:Int)).toNat;rfl'
  .rw [Bj (),ù] at D;rw [<- D] at q;apply yN (ys:=B.map (·.1)) (SqL.of (by rw [U,Å];rfl)) ?_ ?_
   .have e0:↑(Str.ofString "")=0:=rfl;rw [e0,Nat.mul_zero,π,Å];have: ∀l:ϳ,(∀w∈l,↑w.1=1)->(l.map ((λ s:ϐ=>↑s)∘λ w:ϐ×ϊ Nat×Int=>w.1)).sum=↑l:=λ l=>by
     induction l with
     | nil=>intro _;rfl
     | cons y r ih=>intro hl;rw [Ç,ġ,ih λ z mz=>hl z (É _ mz)];change ↑y.1+_=_;rw [hl y Ë,è];show ķ 1 _
    rw [this B ac];rfl'
   .show q _ SH
 .rintro σ H Q Q' hq ⟨v,hv,w,hw,x,n,e,hl,i,j,e1,e2,k,e3,z⟩;show#[v,hv,w,hw,x,n,e,hl,i,j,e1,e2,k,e3,hq _ _ z]
inductive sp_f55(K:Ϗ)(vs:ϊ V)(H:Hp)(Q:VK)(E:XK):Prop
 | mk (f e p:ό) (h:Nat) (b:ϵ) (a:L2S) (d:ϊ Int) (c:ϊ Nat) (g:vs=[.ref f, .ref e, .ref p]) (i:FnF K H f h b) (j:Fo.Wf h b) (k:HsG K H e a d) (l:(1<=↑a/\↑a<=40)) (m:(∀ps∈a,↑ps<=1000)) (n:(∀ps∈a,∀q∈ps,0<=q.2/\q.2<↑a)) (o:SqL K H p (nv c)) (r:↑c<=1000) (s: ∀v H',Same H H'->NrP H' v (Bk b c a d)->Q v H')
abbrev KH K(E:XK)(Eh:XK):=(aA (aJ (bA (sp_f19 K) (lY aX b8 bJ)) (ak 3))
  (aA (aJ (aN (eG K) (aN (eG K) cF (tI 0)) (tI 0)) (ak 4))
  (aA (bf (aU (aN mY d7 (tC V.non))) (aP (tC V.non)) aV)
  (aP (dI (lY (bA (sp_f22 K) (DP aX b8 bJ cF)) (tX K d7 0) (tX K d7 1)))))))
abbrev KJ:ϊ ϐ:=sN ["font","house","strip","paper","thing"]
theorem Wg(h:sp_f55 K vs H Q E):RG (KH K E) KJ vs H Q:=by
 let#[f,R,p,h,c,e,g,d,rfl,L,G,M,#[k,i],o,r,N,u,q]:=h;show#[E0,?_];apply#[f,R,p,h,c,e,g,d,rfl,L,G,M,i,λ W w=>#[o W w,r W w],N,u,λ U I X x ac A=> ?_];have P:IsP c d e g (Kf c d e g):=Kg G;have D:Bk c d e g=(((Kf c d e g).getD 0 []).getD 0 none).map λ t=>(nF c d (e.map (aF c)) (Kf c d e g) ↑d 0 0,t.1,t.2):=rfl
 change PpN H I U (Kf c d e g) X at A;generalize Kf c d e g=rows at P A D;let#[B,ab,ep,hr]:=A.t;have ad:=P.len;let#[a,n]: ∃a,B[0]? =!a:=#[_,Qr ()];let#[m,l]: ∃m,rows[0]? =!m:=#[_,Qr ()];let#[vs,Y,Z,e3]:=hr 0 a m n l;have s:=P.row m (Xs l);let#[v,T]: ∃v,vs[0]? =!v:=#[_,Qr (DK k (Eq.trans Z s))];let#[t,S]: ∃t,m[0]? =!t:=#[_,Qr (DK k s)];have O:=e3 0 v t T S;have C:(rows.getD 0 []).getD 0 none=t:=by
  rw [show rows.getD 0 []=m by rw [Yf,l];rfl,Yf,S];rfl
 apply gm (SqL.of ep) (aQ (j:=0) (v:= .ref a) (by rw [Wp,n];rfl)) ?_;apply gm (SqL.of Y) (aQ (j:=0) (v:=v) T) ?_;symm
 cases t with
 | none=>
  cases O;show kh rfl ?_;apply q .non I x ?_;rw [D,C];rfl
 | some t=>
  let#[b,rfl,J]:=O;show iD (by intro z;cases z) ?_;apply#[f,R,p,U,h,c,e,g,d,rows,rfl,L.same x,G,M.same x,#[k,i],o,r,x.seq N,u,A.t,P,#[t,C],λ H2 F=> ?_];apply gn (F.get J) ?_;apply dX (F.get J) ?_;symm;intro y hy;show q _ _ ((x.trans F).new hy) ?_;rw [D,C];show#[y,rfl,aa]
inductive sp_f43(K:Ϗ)(vs:ϊ V)(H:Hp)(Q:VK)(E:XK):Prop
 | mk (f:ό) (e:Nat) (b:ϵ) (a:ϊ Nat) (g:vs=[.ref f, .str (tx a)]) (h:FnT K H f e b) (i:Fo.Wf e b) (j:↑a<=1000) (k:(∀c∈a,∃d,Fo.lk b (tx [c])=!d)) (l: ∀r H',H r=none->Same H H'->H' r=!(.lst (nv (Fo.jU b a)))->Q (.ref r) H')
abbrev KN K(E:XK)(Eh:XK):=(aA (aJ (jQ iV) (ak 2))
  (aA (cu (Ft b8) (ak 3) (cT (qx K "list" lB bJ (cM (bA (sp_f17 K) (bK aX cF))))))
  (aP bJ)))
abbrev KQ:ϊ ϐ:=sN ["font","text","strip","sign"]
theorem Wh(h:sp_f43 K vs H Q E):RG (KN K E) KQ vs H Q:=by
 let#[f,C,s,a,rfl,z,t,D,m,q]:=h;show#[E0,?_];symm;intro r n;symm;have j: ∀p∈[r],H p=none:=λ p B=>by rw [Zp.mp B];show n
 show GP (λ i u b=>(An3 (Sb [r] H b) (b r=!(.lst (nv (Fo.jU s (a.take i))))) (Ex1 λ o=>u=[!(.ref f),!(.str (tx a)),!(.ref r),o]))) #[Sb.of (aq n _),aa,none,rfl] ?_ ?_
 .rintro i c u b A ⟨l,e,o,rfl⟩;have g:a[i]? =!c:=by simpa [tx] using A
  have y:a.take (i+1)=a.take i++[c]:=by rw [Í,g];rfl
  have F:=t.pic_le (a.take i);have I:↑(a.take i)<=1000:=by rw [Ð];rfl'
  let#[v,w]:=m c (Xs g);have d:Fo.cl s c=v:=by unfold Fo.cl;rw [w];rfl
  have x:=t.cl_le c;rw [d] at x;apply fQ (SqL.of e) ?_;apply#[f,C,s,tx [c],v,rfl,by rw [aM];simp,z.same (l.off j),t.sg,w,λ G k=> ?_];apply pO (aH k e) aa (by simp;rfl') ?_;apply#[(l.new k).set (by simp),by rw [aa,y,Fo.pP,d,nv,nv,nv,Jn],_,rfl]
 .rintro u b ⟨l,e,o,rfl⟩;rw [show(tx a).cps.size=↑a from rfl,Õ] at e;apply q r b n (l.off j) e
inductive sp_f54(K:Ϗ)(vs:ϊ V)(H:Hp)(Q:VK)(E:XK):Prop
 | mk (f:ό) (e:Nat) (b:ϵ) (a:ϊ Nat) (g:vs=[.ref f, .str (tx a)]) (h:FnT K H f e b) (i:Fo.Wf e b) (j:↑a<=1000) (k:(∀c∈a,∃d,Fo.lk b (tx [c])=!d)) (l: ∀H',Same H H'->Q (.int (↑(Fo.jU b a):Nat)) H')
abbrev KR K(E:XK)(Eh:XK):=(aP (dF K (bA (sp_f43 K) (bK aX b8))))
abbrev KY:ϊ ϐ:=sN ["font","text"]
theorem Wi(h:sp_f54 K vs H Q E):RG (KR K E) KY vs H Q:=by
 let#[f,i,j,c,rfl,d,l,g,a,q]:=h;show#[E0,?_];apply#[f,i,j,c,rfl,d,l,g,a,λ r b m k e=> ?_];apply ux e ?_;show q b k
inductive sp_f47(K:Ϗ)(vs:ϊ V)(H:Hp)(Q:VK)(E:XK):Prop
 | mk (f:ό) (e:Nat) (b:ϵ) (a:ϊ Nat) (g:vs=[.ref f, .str (tx a)]) (h:FnT K H f e b) (i:Fo.Wf e b) (j:↑a<=1000) (k:(∀c∈a,∃d,Fo.lk b (tx [c])=!d)) (m:(a=[]\/[]∉Tn.iJ 32 a)) (n: ∀r H',Same H H'->H' r=!(.lst ((if a=[] then [] else Tn.iJ 32 a).map λ l=>V.str (tx l)))->Q (.ref r) H')
abbrev KZ K(E:XK)(Eh:XK):=(aA (cT (bA (sp_f54 K) (bK aX b8)))
  (aA (bf (aU (aN uX b8 (tC (V.str (Str.ofString ""))))) (aP (jQ iV)) aV)
  (aA (aJ (qx K "str" ug b8 (cM (tC (V.str (Str.ofString " "))))) (ak 2))
  (aA (bf (aU (aN (QL K false) (tC (V.str (Str.ofString ""))) bJ)) bO aV)
  (aP bJ)))))
abbrev La:ϊ ϐ:=sN ["font","text","words"]
theorem Wj(h:sp_f47 K vs H Q E):RG (KZ K E) La vs H Q:=by
 let#[f,o,r,a,rfl,n,t,d,s,m,q]:=h;show#[E0,?_];have k:decide (tx a=Str.ofString "")=decide (a=[]):=Α.mpr (show tx a=tx []↔_ by rw [gV]);apply#[f,o,r,a,rfl,n,t,d,s,λ u j=> ?_];symm;rw [k];show fL (λ c=> ?_) λ c=> ?_
 .symm;intro p b;show q _ _ (j.new b) ?_;rw [if_pos c];show aa
 .symm;show s_split (by decide) (by rw [aM];show d9 d) λ p b=> ?_
  rw [show Str.ofString " "=#[([32].toArray)] from rfl,Tn.pU];apply Hf (.inl (SqL.of aa)) rfl (CZ _) ?_;rw [Q5,Ú (λ z=>by
   let#[l,i,e]:=Zs.mp z;rw [show l=[] from gV.mp (e.trans (show Str.ofString ""=tx [] from rfl))] at i;show m.elim c λ g=>g i)]
  apply q _ _ (j.new b) ?_;rw [if_neg c,aa,Å];rfl
inductive sp_f60(K:Ϗ)(vs:ϊ V)(H:Hp)(Q:VK)(E:XK):Prop
 | mk (f:ό) (g:Nat) (b:ϵ) (a:ϊ Nat) (e:Nat) (h:vs=[.ref f, .str (tx a), .int e]) (i:FnT K H f g b) (j:Fo.Wf g b) (k:↑a<=100) (m:(∀c∈a,∃d,Fo.lk b (tx [c])=!d)) (n:(∃d,Fo.lk b (tx [32])=!d)) (o:(a=[]\/[]∉Tn.iJ 32 a)) (p:(∀w∈Tn.iJ 32 a,↑(Fo.jU b w)<=e)) (q: ∀r H' rows,Same H H'->H' r=!(.lst (rows.map λ l=>V.str (tx l)))->↑rows<=↑a+1->Tn.bj 32 rows=a->(∀l∈rows,↑(Fo.jU b l)<=e)->Q (.ref r) H')
abbrev Lb K:=(aA (cu (bN K cF) (ak 4) (bf (qD (aU (aN qK (dF K gw) (tI 0))) (aU (aN nJ (bA (sp_f54 K) (bK aX (aN bc (aN bc (aN (eG K) gw (QJ ph (tI 1))) (tC (V.str (Str.ofString " ")))) d7))) bJ))) (aJ (aN bc (aN bc (aN (eG K) gw (QJ ph (tI 1))) (tC (V.str (Str.ofString " ")))) d7) (Ea gw (QJ ph (tI 1)) oW)) (cT (qx K "list" dM gw (cM d7)))))
  (aP gw))
abbrev Ld K(E:XK)(Eh:XK):=(aA (aJ (bA (sp_f47 K) (bK aX b8)) (ak 3))
  (aA (cu (bN K cF) (ak 4) (bf (aU (aN qK (bA (sp_f54 K) (bK aX d7)) bJ)) bO aV))
  (aA (aJ (jQ iV) (ak 5))
  (Lb K))))
abbrev Le:ϊ ϐ:=sN ["font","text","wide","words","word","rows"]
theorem Wl(h:sp_f60 K vs H Q E):RG (Ld K E) Le vs H Q:=by
 let#[f,ht,u,b,Z,rfl,hF,wf,hn,ok,S,gd,ac,q]:=h;show#[E0,?_];apply#[f,ht,u,b,rfl,hF,wf,d9 hn,ok,gd,λ r1 H1 s1 L=> ?_];have F: ∀w∈(if b=[] then [] else Tn.iJ 32 b),↑w<=100/\(∀c∈w,∃d,Fo.lk u (tx [c])=!d)/\↑(Fo.jU u w)<=Z:=λ w R=>by
  split at R
  .cases R
  .show #[Nat.le_trans (Tn.Hj 32 b w R) hn,λ c mc=>ok c (Tn.lV R mc),ac w R]
 have B:Tn.bj 32 (if b=[] then [] else Tn.iJ 32 b)=b:=by
  split
  .rename_i e;rw [e];rfl
  .show Tn.wY b
 have ad:↑(if b=[] then [] else Tn.iJ 32 b)<=↑b+1:=by
  split
  .simp
  .show Tn.uE 32 b
 generalize (if b=[] then [] else Tn.iJ 32 b)=ws at L F B ad;have N:=hF.same s1;apply cV (λ l:ϊ Nat=>V.str (tx l)) (SqL.of L) (λ i n g=>(An2 (Same H1 g) (Ex1 λ o=>n=[!(.ref f),!(.str (tx b)),!(.int (Z:Nat)),!(.ref r1),o,none]))) #[Same.refl _,_,rfl] (λ i n g z=>SqL.of (z.1.get L)) ?_ ?_
 .rintro i w n H2 O ⟨G,o,rfl⟩;let#[w1,X,w3]:=F w (Xs O);apply#[f,ht,u,w,rfl,N.same G,wf,d9 w1,X,λ Y s3=> ?_];apply iD () ?_;apply#[G.trans s3,_,rfl]
 .rintro n H2 ⟨G,o,rfl⟩;symm;intro T C;symm;have A: ∀p'∈[T],H2 p'=none:=λ p' ab=>by rw [Zp.mp ab];show C
  show cV (λ l:ϊ Nat=>V.str (tx l)) (SqL.of (aH C (G.get L))) (λ i n g=>(An2 (Sb [T] H2 g) (Ex2 λ (a:ϊ (ϊ Nat)) (o:ύ V)=>(An6 (g T=!(.lst (a.map λ l=>V.str (tx l)))) (↑a<=i) (Tn.bj 32 a=Tn.bj 32 (ws.take i)) (a=[]↔ws.take i=[]) (∀l∈a,↑(Fo.jU u l)<=Z/\ ∀c∈l,∃d,Fo.lk u (tx [c])=!d) (n=[!(.ref f),!(.str (tx b)),!(.int (Z:Nat)),!(.ref r1),o,!(.ref T)]))))) #[Sb.of (aq C _),[],_,aa,Ä _,rfl,#[λ _=>rfl,λ _=>rfl],by simp,rfl] (λ i n g z=>SqL.of (z.1.at A (G.get L))) ?_ ?_
  .rintro i w n Y O ⟨U,a,o,x,D,J,j,k,rfl⟩;have af:i<↑ws:=(À.mp O).1;let#[w1,X,w3]:=F w (Xs O);have I:ws.take (i+1)=ws.take i++[w]:=by rw [Í,O];rfl
   have S3:Same H1 Y:=G.trans (U.off A);apply ux x ?_;apply fL (λ c1=> ?_) λ c1=> ?_
   .obtain ⟨m,r,er⟩: ∃m r,a=m++[r]:=#[a.dropLast,a.getLast (List.ne_nil_of_length_pos ()),(Ń _).symm];subst er;have y:=x;rw [Jn] at y;have P:ws.take i≠[]:=λ z=>by have:=j.mpr z;simp at this
    have hr:=k r (by simp);have t: ∀c∈r++[32]++w,∃d,Fo.lk u (tx [c])=!d:=λ c mc=>by
     rcases Æ.mp mc with mc | mc
     .rcases Æ.mp mc with mc | mc
      .show hr.2 c mc
      .rw [Zp.mp mc];show S
     .show X c mc
    have ae:↑r<=100:=by
     have h1:=Tn.pW (c:=32) (w:=r) (ws:=m++[r]) (by simp);have h2:=Tn.pX 32 ws i;rw [J] at h1;rw [B] at h2;rfl'
    have p: ∀{v:VK}{g:Hp},v (.str (tx (r++[32]))) g->bc (.str (tx r)) (.str (Str.ofString " ")) g v:=λ {v g} z=>fM (by rw [aM];change ↑r+1<=_;rfl') (by rw [show Str.ofString " "=tx [32] from rfl,eV];show z)
    have s: ∀{v:VK}{g:Hp},v (.str (tx (r++[32]++w))) g->bc (.str (tx (r++[32]))) (.str (tx w)) g v:=λ {v g} z=>fM (by rw [aM,aM,Â,â];rfl') (by rw [eV];show z)
    apply gm (SqL.of y) (oU _ (V.str (tx r))) ?_;apply p ?_;apply s ?_;apply#[f,ht,u,r++[32]++w,rfl,N.same S3,wf,by rw [Â,Â,â];rfl',t,λ H4 s4=> ?_];have e4:=s4.get x;have M:=s4.get y;have W:=U.same s4;apply fL (λ c2=> ?_) λ c2=> ?_
    .symm;show gm (SqL.of M) (oU _ (V.str (tx r))) ?_;apply p ?_;apply s ?_;apply Qc M (by simp) ?_;apply#[W.set (by simp),m++[r++([32]++w)],_,?_,by simp at D ⊢;rfl',by rw [Tn.je,J,I,Tn.gr P];rfl,#[λ z=>(by simp at z),λ z=>(by rw [I] at z;simp at z)],λ l ml=> ?_,rfl]
     .rw [aa,Jn];simp
     .rcases Æ.mp ml with ml | ml
      .show k l (Ý _ ml)
      .rw [Zp.mp ml,<- é];show#[(),t]
    .symm;show fQ (SqL.of e4) ?_;apply jE e4 (by rw [Qb];rfl') ?_;apply#[W.set (by simp),m++[r]++[w],_,by rw [aa];simp,by simp at D ⊢;rfl',by rw [Tn.gr (by simp),J,I,Tn.gr P],#[λ z=>(by simp at z),λ z=>(by rw [I] at z;simp at z)],λ l ml=> ?_,rfl];rcases Æ.mp ml with ml | ml
     .show k l ml
     .rw [Zp.mp ml];show#[w3,X]
   .have er:a=[]:=Ŀ.mp ();subst er;apply fQ (SqL.of x) ?_;apply jE x (by simp) ?_;apply#[U.set (by simp),[]++[w],_,by rw [aa];rfl,by simp,by rw [I,j.mp rfl],#[λ z=>(by simp at z),λ z=>(by rw [I] at z;simp at z)],λ l ml=> ?_,rfl];rw [Zp.mp ml];show#[w3,X]
  .rintro n Y ⟨U,a,o,x,D,J,j,k,rfl⟩;rw [Õ,B] at J;apply q T Y a ((s1.trans G).trans (U.off A)) x () J λ l ml=>(k l ml).1
inductive sp_f2(K:Ϗ)(vs:ϊ V)(H:Hp)(Q:VK)(E:XK):Prop
 | mk (f:ό) (b:Nat) (a:ϵ) (s:ϐ) (c:ϊ Nat) (d:vs=[.ref f, .str s]) (e:↑s<=100000) (g:FnT K H f b a) (h:(∀p∈a,Hs.Sg p.1)) (i:Fo.lk a s=!c) (j: ∀r,H r=none->Q (.ref r) (upd H r (.lst (nv c))))
abbrev Rt K(E:XK)(Eh:XK):=(aP (bA (sp_f17 K) (bK aX b8)))
abbrev Ru:ϊ ϐ:=sN ["font","filler"]
theorem Z2(h:sp_f2 K vs H Q E):RG (Rt K E) Ru vs H Q:=by
 let#[f,e,i,s,c,rfl,g,b,a,d,q]:=h;show#[E0,?_];apply#[f,e,i,s,c,rfl,g,b,a,d,q]
theorem PdR.uni{c d:L2S}{i:ϊ Int}(h:PdR ds i s c)(e:PdR ds i s d):c=d:=by
 show ŝ λ j=> ?_
 rcases Đ j (↑ds+1) with w | w
 .have f:c[j]? =!(c[j]'(by rw [h.1];show w)):=Qr _;have g:d[j]? =!(d[j]'(by rw [e.1];show w)):=Qr _;let#[k,m]:=h.2 j _ f;let#[l,n]:=e.2 j _ g;rw [f,g,(k.trans l.symm).eq_of_pairwise (le:=λ a b:ϐ×Int=>qM a.1 b.1) (λ a b _ _ x y=>absurd (List.lt_trans x y) (œ _)) (ļ.mp m) (ļ.mp n)]
 .rw [ß (by rw [h.1];show w),ß (by rw [e.1];show w)]
theorem PdR.ok{c:ϊ Int}(h:PdR ds c s ds')(e: ∀ps∈ds,↑ps<=n)(f: ∀ps∈ds,∀p∈ps,0<=p.2/\p.2<↑ds): ∀ps∈ds',↑ps<=n+1/\ ∀q∈ps,0<=q.2/\q.2<↑ds':=λ ps a=>by
 let#[j,d,rfl]:=ā.mp a;let#[b,_]:=h.2 j _ (Qr d);have g:↑((ds++[[]]).getD j [])<=n/\ ∀q∈(ds++[[]]).getD j [],0<=q.2/\q.2<(↑ds:Int):=by
  rw [Yf];rcases Đ j ↑ds with w | w
  .rw [ç w,Qr w];show#[e _ (Ï w),f _ (Ï w)]
  .rw [ä w,show j-↑ds=0 by have:=h.1;rfl'];show#[Nat.zero_le _,λ q m=>by cases m]
 have k:=h.1;show#[?_,?_]
 .rw [b.length_eq,Â];split
  .show Ż g.1 1
  .show Nat.le_succ_of_le g.1
 .intro q i;rcases Æ.mp (b.mem_iff.mp i) with m | m
  .have:=g.2 q m;rfl'
  .split at m
   .rw [Zp.mp m];show#[by change(0:Int)<=(↑ds:Int);rfl',by change(↑ds:Int)<_;rfl']
   .cases m
def Wm(ls:ϵ)(ds:L2S)(c c0:Nat):Prop:=Fo.lk ls (tx [c])=![c0]/\(∀ps∈ds,Hs.dr ps (tx [c])=none)/\↑ds<40
def qC(ls:ϵ)(c0 wd:Nat)(cs:ϊ Nat):ϊ Nat:=Fo.jU ls cs++List.replicate (wd-↑(Fo.jU ls cs)) c0
def RwO(ls:ϵ)(ds:L2S)(es:ϊ Int)(wd:Nat)(cs:ϊ Nat):Prop:=↑cs<=100/\(∀c∈cs,∃d,Fo.lk ls (tx [c])=!d)/\inV (ov (Hs.go ds cs)) (es.map V.int)=true/\↑(Fo.jU ls cs)<=wd
inductive sp_f38(K:Ϗ)(vs:ϊ V)(H:Hp)(Q:VK)(E:XK):Prop
 | mk (f e:ό) (h:Nat) (d:ϵ) (a:L2S) (b:ϊ Int) (c g:Nat) (i:vs=[.ref f, .ref e, .str (tx [c])]) (j:FnT K H f h d) (k:(∀p∈d,Hs.Sg p.1)) (l:HsG K H e a b) (m:GoodH a b) (n:Wm d a c g) (o: ∀r H' ds',Same H H'->HsG K H' r ds' (b++[(↑a:Int)])->PdR a b (tx [c]) ds'->Q (.ref r) H')
abbrev Lf K(E:XK)(Eh:XK):=(aA (bf (aU (aN tM (dF K (bA (sp_f2 K) (bK aX bJ))) (tI 1))) bO aV)
  (aP (bA (sp_f61 K) (bK b8 bJ))))
abbrev Lg:ϊ ϐ:=sN ["font","house","filler"]
theorem Wn(h:sp_f38 K vs H Q E):RG (Lf K E) Lg vs H Q:=by
 let#[f,s,x,y,k,l,c,j,rfl,n,a,p,m,e,q]:=h;show#[E0,?_];let#[g,t,u]:=e;apply#[f,x,y,_,_,rfl,by rw [aM];show Nat.le_of_ble_eq_true rfl,n,a,g,λ r w=> ?_];have i:=aq (o:=HO.lst (nv [j])) w;apply ux aa ?_;apply eQ rfl ?_;apply#[s,_,k,l,rfl,p.same i,m,a _ (Fo.cH g),t,u,λ B A b z d v=> ?_];show q _ _ b (i.trans z) d.g v
inductive sp_f62(K:Ϗ)(vs:ϊ V)(H:Hp)(Q:VK)(E:XK):Prop
 | mk (f i:ό) (j:Nat) (a:ϵ) (d:L2S) (g:ϊ Int) (h:ϐ) (e:Nat) (c:ϊ Nat) (b:Nat) (k:vs=[.ref f, .ref i, .str h, .str (tx c), .int (b:Nat)]) (l:FnT K H f j a) (m:Fo.Wf j a) (n:HsG K H i d g) (o:Hs.Wf d) (p:Fo.lk a h=![e]) (q:RwO a d g b c) (s:b<=10000) (t: ∀r H',H r=none->Same H H'->H' r=!(.lst (nv (qC a e b c)))->Q (.ref r) H')
abbrev Lh K(E:XK)(Eh:XK):=(aA (aJ (bA (sp_f43 K) (bK aX cF)) (ak 5))
  (aA (bf (fV (fJ K (bA (sp_f64 K) (bK b8 cF)))) bO aV)
  (aA (bf (aU (aN qK (dF K gw) d7)) bO aV)
  (aP (aN Ez gw (aN XD (bA (sp_f17 K) (bK aX bJ)) (aN lG d7 (dF K gw))))))))
abbrev Li:ϊ ϐ:=sN ["font","house","filler","row","wide","picture"]
theorem Wo(h:sp_f62 K vs H Q E):RG (Lh K E) Li vs H Q:=by
 let#[f,G,A,i,B,D,o,l,b,w,rfl,z,x,F,J,d,#[s,c,t,I],L,q]:=h;show#[E0,?_];have v:↑o<=100000:=by
  let#[k,e]:=x.sg _ (Fo.cH d);rw [show o=_ from e,aM];show Nat.le_of_ble_eq_true rfl
 apply#[f,A,i,b,rfl,z,x,d9 s,c,λ r O P j m=> ?_];apply#[G,B,D,b,rfl,F.same j,J,?_];rw [t];apply ux m ?_;apply iD () ?_;apply#[f,A,i,o,[l],rfl,v,z.same j,x.sg,d,λ N a=> ?_];apply ux (aH a m) ?_;symm;have y:((w:Int)-(↑(Fo.jU i b):Int)).toNat=w-↑(Fo.jU i b):=()
 show#[N,_,_,rfl,rfl,aa,(),(),?_,λ p u=> ?_]
 .rw [y];show Ò (show 1*(w-↑(Fo.jU i b))<=10000 by rfl') (by decide)
 have C: ∀n:Nat,(List.replicate n (nv [l])).flatten=nv (List.replicate n l):=λ n=>by
  unfold nv;rw [List.map_replicate];show List.flatten_replicate_singleton
 rw [y,C];apply GZ (aH u (aH a m)) aa (by unfold nv;rw [Qb,Qb,ê];rfl') λ M g=> ?_
 show q M _ (((j.new a).new u).free g) (((j.new a).new u).new g) ?_;rw [aa];unfold nv qC;rw [Jn]
inductive sp_f73(K:Ϗ)(vs:ϊ V)(H:Hp)(Q:VK)(E:XK):Prop
 | mk (f i k:ό) (j:Nat) (d:ϵ) (b:L2S) (g:ϊ Int) (c h:Nat) (a:ϊ (ϊ Nat)) (e:Nat) (n:vs=[.ref f, .ref i, .str (tx [c]), .ref k, .int (e:Nat)]) (o:FnT K H f j d) (p:Fo.Wf j d) (q:HsG K H i b g) (s:GoodH b g) (t:Hs.Wf b) (u:Wm d b c h) (v:SqL K H k (a.map λ cs=>V.str (tx cs))) (w:↑a<=100) (x:(∀cs∈a,RwO d b g e cs)) (l:e<=10000) (m: ∀(zs:ϊ (ό×ϊ Nat)) r H',H r=none->(∀z∈zs,H z.1=none)->Same H H'->LL H' r zs->zs.map (·.2)=a.map (qC d h e)->Q (.ref r) H')
abbrev Lj K(E:XK)(Eh:XK):=(aA (cT (bA (sp_f38 K) (lY aX b8 bJ)))
  (aP (lF [none,!0,!1,!2,!4] (bN K cF) (ak 0) dB (bA (sp_f62 K) (dH b8 (DP bJ cF aX d7))))))
abbrev zB:ϊ ϐ:=sN ["font","house","filler","rows","wide"]
theorem Wq(h:sp_f73 K vs H Q E):RG (Lj K E) zB vs H Q:=by
 let#[f,G,U,J,s,A,B,c,o,b,x,rfl,C,N,D,P,S,l,F,v,u,w,q]:=h;show#[E0,?_];apply#[f,G,J,s,A,B,c,o,rfl,C,N.sg,D,P,l,λ r y _ i _ _=> ?_];apply wQ (λ j:ϊ Nat=>V.str (tx j)) (zs:=b) (i.seq F) (d9 v) (λ k n g=>(Ex1 λ (a:ϊ (ό×ϊ Nat))=>(An4 (n=a.map (λ z=>V.ref z.1)) (a.map (·.2)=(b.take k).map (qC s o x)) (Same y g) (∀z∈a,g z.1=!(.lst (nv z.2))/\y z.1=none)))) #[[],rfl,rfl,Same.refl _,by simp] ?_ ?_ ?_ ?_
 .rintro k n g ⟨a,_,_,d,_⟩;show d.seq (i.seq F)
 .rintro k n g ⟨a,rfl,e,_⟩;have:=Ö List.length e;rw [Qb,Qb,Ð] at this;rw [Qb];show Y9 this
 .rintro k j n g I ⟨a,rfl,e,d,m⟩;have L:=i.trans d;apply#[f,G,J,s,A,B,_,o,j,x,rfl,C.same L,N,D.same L,S,l.1,u j (Xs I),w,λ r T R M O=> ?_];show#[a++[(r,qC s o x j)],by rw [Jn];rfl,by rw [Jn,e,Í,I,Jn];rfl,d.trans M,λ z mz=> ?_];rcases Æ.mp mz with mz | mz
  .show #[M.get (m z mz).1,(m z mz).2]
  .rw [Zp.mp mz];show#[O,d.free R]
 rintro n g ⟨a,rfl,e,d,m⟩ p t;rw [Õ] at e;show q a p _ ((i.trans d).free t) (λ z mz=>i.free (m z mz).2) ((i.trans d).new t) #[aa,λ z mz=>aH t (m z mz).1] e
def Wr(c:Nat)(t:ϊ Nat):ϊ Nat:=(t.reverse.dropWhile λ x=>decide (x=c)).reverse
theorem lX(c:Nat)(d:ϊ Nat): ∀k,Wr c (d++List.replicate k c)=Wr c d
 | 0=>by rw [List.replicate_zero,ù]
 | k+1=>by
  have:=lX c d k;unfold Wr at this ⊢;rw [List.reverse_append,List.reverse_replicate] at this ⊢;rw [Ņ,ň,List.dropWhile_cons_of_pos (by simp)];show this
theorem uV(h: ∀x,d.getLast?=!x->x≠c):Wr c d=d:=by
 unfold Wr
 cases e:d.reverse with
 | nil=>rw [List.reverse_eq_nil_iff.mp e];rfl
 | cons x l=>
  rw [List.dropWhile_cons_of_neg (by simpa using h x (by rw [List.getLast?_eq_head?_reverse,e];rfl)),<- e,List.reverse_reverse]
def Ws(p:ϳ):ϊ Nat:=p.map λ w=>w.1.cps.toList.headD 0
theorem Lk(e:p.map (·.1)=cs.map λ c=>tx [c]):Ws p=cs:=by
 have:Ws p=(p.map (·.1)).map λ s:ϐ=>s.cps.toList.headD 0:=by rw [Å];rfl
 rw [this,e,Å];show List.map_id cs
theorem Bl{c:ϵ}{d:ϊ Nat}{b:ϲ}: ∀n x room,↑(nF c d b a n x room)<=n
 | 0,_,_=>Ä _
 | n+1,x,room=>by
  unfold nF;split
  .split
   .show æ _
   .split
    .show æ _
    .show Ė (Bl n _ _)
  .show æ _
def QpP(H:Hp)(v:V)(c:Nat):ύ (ϊ (ϴ)×Nat×Nat)->Prop
 | none=>v= .non
 | some t=> ∃a,v= .ref a/\H a=!(.tup [.str (tx (Wr c (Ws t.1))), .int (t.2.1:Nat), .int (t.2.2:Nat)])
theorem QpP.same(h:QpP H v c o)(s:Same H H'):QpP H' v c o:=by
 cases o with
 | none=>show h
 | some t=>let#[a,e,q]:=h;show#[a,e,s.get q]
theorem Z3{h:Nat}{d:ϵ}{b:ϊ Nat}{c:ϊ Int}(k:Fo.Wf h d)(f:NrP H v (Bk d b ds c)):(Bk d b ds c=none/\v= .non)\/ ∃t a,Bk d b ds c=!t/\v= .ref a/\↑(Ws t.1)<=↑b/\H a=!(.tup [.str (tx (Ws t.1)), .int (t.2.1:Nat), .int (t.2.2:Nat)]):=by
 have j:=Wa (xs:=b) (ds:=ds) (es:=c) k
 cases e:Bk d b ds c with
 | none=>rw [e] at f;show .inl #[rfl,f]
 | some t=>
  rw [e] at f;let#[a,rfl,i]:=f;let#[l,g,_]:=xr (j t e);show .inr #[t,a,rfl,rfl,?_,by rw [i,g,join_ones,Lk g]];unfold Bk at e;let#[u,_,rfl]:=Î.mp e;rw [show Ws _=List.map _ _ from rfl,Qb];show Bl _ _ _
def QpL(H:Hp)(c:Nat)(F:ϊ Nat->ύ (ϊ (ϴ)×Nat×Nat))(xss:ϊ (ϊ Nat))(us:ϊ V):Prop:=↑us=↑xss/\ ∀(i:Nat) u xs,us[i]? =!u->xss[i]? =!xs->QpP H u c (F xs)
inductive sp_f45(K:Ϗ)(vs:ϊ V)(H:Hp)(Q:VK)(E:XK):Prop
 | mk (f g p:ό) (h:Nat) (b:ϵ) (a:L2S) (e:ϊ Int) (d:ϊ Nat) (c:Nat) (i:vs=[.ref f, .ref g, .str (tx [c]), .ref p]) (j:FnF K H f h b) (k:Fo.Wf h b) (l:HsG K H g a e) (m:(1<=↑a/\↑a<=40)) (n:(∀ps∈a,↑ps<=1000)) (o:(∀ps∈a,∀q∈ps,0<=q.2/\q.2<↑a)) (r:SqL K H p (nv d)) (s:↑d<=1000) (t: ∀v H',Same H H'->QpP H' v c (Bk b d a e)->Q v H')
abbrev Ln K(E:XK)(Eh:XK):=(aA (aJ (bA (sp_f55 K) (lY aX b8 cF)) (ak 4))
  (aA (bf (aU (aN mY d7 (tC V.non))) (aP (tC V.non)) aV)
  (aP (dI (lY (qx K "str" nU (tX K d7 0) (cM bJ)) (tX K d7 1) (tX K d7 2))))))
abbrev Lp:ϊ ϐ:=sN ["font","house","filler","strip","told"]
theorem Wt(h:sp_f45 K vs H Q E):RG (Ln K E) Lp vs H Q:=by
 let#[f,u,p,h,C,j,l,D,c,rfl,n,i,o,x,b,d,s,e,q]:=h;show#[E0,?_];apply#[f,u,p,h,C,j,l,D,rfl,n,i,o,x,b,d,s,e,λ v F g r=> ?_];symm;rcases Z3 i r with ⟨eo,rfl⟩ | ⟨t,a,eo,rfl,hl,ea⟩
 .show kh rfl ?_;apply q _ _ g (by rw [eo];rfl)
 .show iD (by intro z;cases z) ?_;apply a0y ea ?_;apply wW () λ w m k A=> ?_
  apply dX ea ?_;apply jT ea ?_;symm;intro y B;show q _ _ (g.new B) ?_;rw [eo];show#[y,rfl,by rw [aa,k,lX,uV A]]
inductive sp_f39(K:Ϗ)(vs:ϊ V)(H:Hp)(Q:VK)(E:XK):Prop
 | mk (f g i:ό) (h:Nat) (d:ϵ) (a:L2S) (b:ϊ Int) (c j:Nat) (e:ϊ (ό×ϊ Nat)) (k:vs=[.ref f, .ref g, .str (tx [c]), .ref i]) (l:FnF K H f h d) (m:Fo.Wf h d) (n:HsG K H g a b) (o:GoodH a b) (p:Wm d a c j) (q:LL H i e) (s:↑e<=1000) (t:(∀z∈e,↑z.2<=1000)) (u: ∀ds',PdR a b (tx [c]) ds'-> ∀r H' us,Same H H'->H' r=!(.lst us)->QpL H' c (λ xs=>Bk d xs ds' (b++[(↑a:Int)])) (e.map (·.2)) us->Q (.ref r) H')
abbrev Lq K(E:XK)(Eh:XK):=(aA (aJ (bA (sp_f38 K) (lY aX b8 bJ)) (ak 4))
  (aP (lF [none,!0,!4,!2] (bN K cF) (ak 0) dB (bA (sp_f45 K) (DP b8 bJ cF aX)))))
abbrev zE:ϊ ϐ:=sN ["font","house","filler","strips","house_of_rows"]
theorem Wu(h:sp_f39 K vs H Q E):RG (Lq K E) zE vs H Q:=by
 let#[f,ha,sa,h,L,N,O,c,c0,s,rfl,P,Y,hH,B,t,G,J,hz,q]:=h;show#[E0,?_];apply#[f,ha,h,L,N,O,c,c0,rfl,P.t,Y.sg,hH,B,t,λ r Z g A C M=> ?_];replace q:=q g M;have U:=M.ok B.ln λ y x p m=>(B.sg y x p m).2
 have ab:=M.1;have hl:=t.2.2;apply wQ (λ z:ό×ϊ Nat=>V.ref z.1) (zs:=s) (SqL.of (A.get G.1)) (d9 J) (λ i d n=>(An3 (Same Z n) (QpL n c (λ o=>Bk L o g (O++[(↑N:Int)])) ((s.take i).map (·.2)) d) (↑d<=i))) #[Same.refl _,#[rfl,λ i u o e=>by cases e],Ä _] ?_ ?_ ?_ ?_
 .rintro i d n ⟨l,_⟩;show SqL.of (l.get (A.get G.1))
 .rintro i d n ⟨_,_,h⟩;show h
 .rintro i z d n R ⟨l,⟨b,F⟩,I⟩;have W:=A.trans l;have T:=Xs R;apply#[f,r,z.1,h,L,g,_,z.2,c,rfl,P.same W,Y,C.same l,#[(),()],λ y x=>Ò (U y x).1 (by decide),λ y x=>(U y x).2,SqL.of (W.get (G.2 z T)),hz z T,λ v H2 X hv=> ?_];have ht:(s.take (i+1)).map (·.2)=(s.take i).map (·.2)++[z.2]:=by rw [Í,R,Jn];rfl
  show#[l.trans X,?_,by rw [Â];show Ė I];rw [ht];show#[by rw [Â,Â,b];rfl,λ j u o a k=> ?_];rcases Đ j ↑d with w | w
  .rw [ç w] at a;rw [ç (b▸w)] at k;show(F j u o a k).same X
  .rw [ä w] at a;rw [ä (b▸w)] at k;rw [b] at a
   cases ej:j-↑((s.take i).map (·.2)) with
   | zero=>rw [ej] at a k;cases a;cases k;show hv
   | succ m=>rw [ej] at a;cases a
 rintro d n ⟨l,D,_⟩ p S;rw [Õ] at D;show q p _ d ((A.trans l).new S) aa #[D.1,λ i u o a k=>(D.2 i u o a k).same (aq S _)]
def MnV(ls:ϵ)(ds:L2S)(es:ϊ Int)(v:V):Prop:= ∃(N:Nat)(S:ϊ Sd)(fz:ϊ Fq),↑(cL (ds.map (aF ls)) N)<=N/\(∀x,x∈S↔Mm.Rch (Iz (ds.map (aF ls)) N) (Nf (ds.map (aF ls))) x)/\(fz.map (·.2.1)).Nodup/\Dj (Qm es S) (J2 (Rk ls (ds.map (aF ls))) S) (jo fz) (λ _ _=>False)/\((v= .non/\ ∀z∈nO (ds.map (aF ls)) (cL (ds.map (aF ls)) N),∀k,¬jo fz (lW z) k)\/ ∃L:Nat,v= .int (((L:Int)-1) / 2)/\(∃z∈nO (ds.map (aF ls)) (cL (ds.map (aF ls)) N),∃k,jo fz (lW z) k/\L=qT z+k.1)/\ ∀z∈nO (ds.map (aF ls)) (cL (ds.map (aF ls)) N),∀k,jo fz (lW z) k->L<=qT z+k.1)
inductive sp_f25(K:Ϗ)(vs:ϊ V)(H:Hp)(Q:VK)(E:XK):Prop
 | mk (f e:ό) (h:Nat) (b:ϵ) (a:L2S) (d:ϊ Int) (c g:Nat) (i:vs=[.ref f, .ref e, .str (tx [c])]) (j:FnF K H f h b) (k:Fo.Wf h b) (l:HsG K H e a d) (m:GoodH a d) (n:Wm b a c g) (o: ∀ds',PdR a d (tx [c]) ds'->YQ b ds'/\ ∀v H',Same H H'->MnV b ds' (d++[(↑a:Int)]) v->Q v H')
abbrev Lr K(E:XK)(Eh:XK):=(aP (bA (sp_f69 K) (bK aX (bA (sp_f38 K) (lY aX b8 bJ)))))
abbrev Ls:ϊ ϐ:=sN ["font","house","filler"]
theorem Wv(h:sp_f25 K vs H Q E):RG (Lr K E) Ls vs H Q:=by
 let#[f,z,h,o,u,v,c,t,rfl,k,p,y,x,d,q]:=h;show#[E0,?_];apply#[f,z,h,o,u,v,c,t,rfl,k.t,p.sg,y,x,d,λ r F a e b C=> ?_];let#[D,q]:=q a C;apply#[f,r,h,o,a,_,rfl,k.same e,p,b,D,λ N S i l m n j=>#[λ B s g=>q _ _ (e.trans g) #[N,S,i,l,m,n,j, .inl #[rfl,B]],λ s L g w A=>q _ _ (e.trans g) #[N,S,i,l,m,n,j, .inr #[L,rfl,w,A]]]]
inductive sp_f65(K:Ϗ)(vs:ϊ V)(H:Hp)(Q:VK)(E:XK):Prop
 | mk (h:Nat) (p:ό) (a:ϊ (ό×ϊ Nat)) (b:Nat) (c:vs=[.int h, .ref p]) (d:LL H p a) (e:h<=60) (f:↑a<=100) (g:b<=1000) (i:(∀r∈a,↑r.2=b)) (j: ∀r H',Same H H'->H' r=!(.lst (((a.map (·.2)).flatMap (Mm.draw h)).map λ l=>V.str (tx l)))->Q (.ref r) H')
abbrev Lw K(E:XK)(Eh:XK):=(aA (aJ (jQ iV) (ak 2))
  (aA (cu (bN K b8) (ak 3) (aA (cT (bA (sp_f11 K) (bK (aN (eG K) b8 (tI 0)) cF)))
  (cT (qx K "list" lB bJ (cM (bA (sp_f68 K) (bK aX cF)))))))
  (aP bJ)))
abbrev Ly:ϊ ϐ:=sN ["height","strips","lines","strip"]
theorem Ww(h:sp_f65 K vs H Q E):RG (Lw K E) Ly vs H Q:=by
 let#[h,p,a,O,rfl,f,e,M,J,c,q]:=h;show#[E0,?_];symm;intro r s;symm;have b: ∀B∈[r],H B=none:=λ B n=>by rw [Zp.mp n];show s
 show cV (λ z:ό×ϊ Nat=>V.ref z.1) (SqL.of (aH s f.1)) (λ i j k=>(An3 (Sb [r] H k) (k r=!(.lst ((((a.take i).map (·.2)).flatMap (Mm.draw h)).map λ l=>V.str (tx l)))) (Ex1 λ o=>j=[!(.int (h:Int)),!(.ref p),!(.ref r),o]))) #[Sb.of (aq s _),aa,_,rfl] (λ i j k z=>SqL.of (z.1.at b f.1)) ?_ ?_
 .rintro i z j v t ⟨g,d,o,rfl⟩;have u:=Xs t;have F:a.take (i+1)=a.take i++[z]:=by rw [Í,t];rfl
  have m:=g.off b;have w:=m.get (f.2 z u);have G:i<↑a:=(À.mp t).1;let#[y,x]: ∃y,a[0]? =!y:=#[_,Qr ()];have A:=Xs x;apply qQ (m.get f.1) x ?_;apply#[_,_,_,_,rfl, .inl (SqL.of (m.get (f.2 y A))), .inl (SqL.of w),by rw [Qb,Qb,c y A,c z u],?_];apply fQ (SqL.of d) ?_;apply#[h,z.1,z.2,rfl,SqL.of w,by rw [c z u];show J,e,λ N L I C D=> ?_];apply pO (C.get d) D ?_ ?_
  .rw [Qb,Qb,Mm.dZ,Mm.fu,Qb,Ð];have:min i ↑a*h<=100*60:=υ () e;rfl'
  apply#[(g.same C).set (by simp),by rw [aa,F];simp,_,rfl]
 .rintro j v ⟨g,d,o,rfl⟩;rw [Õ] at d;apply q r v (g.off b) d
inductive sp_f35(K:Ϗ)(vs:ϊ V)(H:Hp)(Q:VK)(E:XK):Prop
 | mk (h:Nat) (p:ό) (a:ϊ (ϊ Nat)) (W:Nat) (b:vs=[.int h, .ref p]) (c:SqL K H p ((a.flatMap (Mm.draw h)).map λ l=>V.str (tx l))) (d:1<=h) (e:h<=60) (f:↑a<=100) (g:W<=1000) (i:(∀s∈a,↑s=W/\ ∀x∈s,x<2^h)) (j: ∀r H' (rows:ϊ (ό×ϊ Nat)),Same H H'->LL H' r rows->rows.map (·.2)=a->Q (.ref r) H')
abbrev LC K(E:XK)(Eh:XK):=(aA (bf (aU (aN tM (aN di (dF K b8) aX) (tI 0))) bO aV)
  (aA (cu (bN K b8) (ak 2) (cT (bA (sp_f27 K) (bK bJ (dF K (aN (eG K) b8 (tI 0)))))))
  (aP (lF [none,!1,!0] (QS (lY (tI 0) (dF K b8) aX)) (ak 0) dB (bA (sp_f58 K) (cM (BW (BX K) b8 (gh aX) (gh (aN bZ aX bJ)))))))))
abbrev zF:ϊ ϐ:=sN ["height","lines","line"]
theorem Wx(h:sp_f35 K vs H Q E):RG (LC K E) zF vs H Q:=by
 let#[h,p,n,W,rfl,u,x,A,N,hW,P,q0]:=h;show#[E0,?_];have F:=Mm.Qe (h:=h) x λ s T=>(P s T).1
 have m:↑(n.flatMap (Mm.draw h))=↑n*h:=Mm.dZ _ _;have hn:↑(n.flatMap (Mm.draw h))<=10000:=by rw [m];show Ò (υ N A) (by decide)
 have R: ∀l∈n.flatMap (Mm.draw h),↑l<=1000:=λ l g=>by
  let#[s,T,g]:=ï.mp g;let#[y,_,rfl]:=Mm.pM g;rw [Mm.iC,(P s T).1];show hW
 have q: ∀r f (d:ϊ (ό×ϊ Nat)),Same H f->LL f r d->d.map (·.2)=(List.range (↑(n.flatMap (Mm.draw h)) / h)).map (λ i=>Mm.yI (Mm.chunk h (n.flatMap (Mm.draw h)) i))->Q (.ref r) f:=λ r f d s l e=>q0 r f d s l (by
  rw [e,m,Nat.mul_div_cancel _ x];show List.ext_getElem (by simp) λ i g1 Y=> ?_
  rw [ú,List.getElem_range,Mm.pY _ i Y,Mm.CT x (P _ (Ï Y)).2])
 generalize n.flatMap (Mm.draw h)=ls at*;clear m q0;let#[hm,O]:=id F;apply bQ u ?_;rw [Qb];apply eQ () ?_;apply cV (λ l:ϊ Nat=>V.str (tx l)) u (λ i J f=>(An2 (H=f) (Ex1 λ o=>J=[!(.int (h:Int)),!(.ref p),o]))) #[rfl,_,rfl] (λ i J f z=>z.1▸u) ?_ ?_
 .rintro i l J _ hl ⟨rfl,o,rfl⟩;have g:=Xs hl;let#[y,X,eh]: ∃y,ls[0]? =!y/\ls.headD []=y:=by
   cases ls with
   | nil=>cases g
   | cons a b=>show#[a,rfl,rfl]
  apply gm u (aQ (j:=0) (v:= .str (tx y)) (by rw [Wp,X];rfl)) ?_;apply jc (by rw [aM];show d9 (R y (Xs X))) ?_;rw [aM];symm;let#[o1,o2]:=O l g;show#[l,↑y,rfl,d9 (R l g),by rw [o1,eh],o2,?_];apply#[rfl,_,rfl]
 rintro J _ ⟨rfl,o,rfl⟩;have B:↑ls=↑ls / h*h:=by
  have:=Nat.div_add_mod ↑ls h;rw [Ž] at this;rfl'
 have ab:↑ls / h<=↑ls:=Nat.div_le_self _ _;apply bQ u ?_;rw [Qb];symm;let#[r1,U]:=yU (j:=(↑ls:Int)) (c:=(h:Int)) () () () ();show YG (↑ls / h) (Qf x B) () () r1 U (λ i I f=>(Ex1 λ (d:ϊ (ό×ϊ Nat))=>(An5 (I=d.map (λ z:ό×ϊ Nat=>V.ref z.1)) (↑d=i) (Same H f) (∀z∈d,f z.1=!(.lst (nv z.2))) (d.map (·.2)=(List.range i).map (λ i=>Mm.yI (Mm.chunk h ls i)))))) #[[],rfl,rfl,Same.refl _,by simp,rfl] ?_ ?_ ?_
 .rintro i I f ⟨d,rfl,rfl,_⟩;simp
 .rintro i I f hi ⟨d,rfl,D,G,S,k⟩;have w:=Mm.yS F x A hi;have L:(ls.take (i*h+h)).drop (i*h)=Mm.chunk h ls i:=by
   unfold Mm.chunk;rw [List.drop_take,ľ]
  have M: ∀l∈Mm.chunk h ls i,l∈ls:=λ l g=>List.mem_of_mem_drop (ħ g)
  symm;rw [show(0:Int)+(i:Int)*(h:Int)=((i*h:Nat):Int) by simp,show((i*h:Nat):Int)+(h:Int)=((i*h+h:Nat):Int) by simp];show Ha (G.seq u) λ t Z=> ?_
  rw [Ao () (),Ó,Ó,<- List.map_take,<- List.map_drop,L];apply#[t,Mm.chunk h ls i,rfl,SqL.of aa,λ l g=>by have:=R l (M l g);rfl',w,λ U H2 ac s2 e2=> ?_];have S2:=(G.new (o:=HO.lst ((Mm.chunk h ls i).map λ l=>V.str (tx l))) Z).trans s2;show#[d++[(U,Mm.yI (Mm.chunk h ls i))],by simp,by simp [D],S2,λ z mz=> ?_,?_]
  .rcases Æ.mp mz with mz | mz
   .show s2.get (aH Z (S z mz))
   .rw [Zp.mp mz];show e2
  .rw [Jn,k,ł,Jn];rfl
 .rintro I f ⟨d,rfl,D,G,S,k⟩ p2 C;show q p2 _ d (G.new C) #[aa,λ z mz=>aH C (S z mz)] k
inductive sp_f9(K:Ϗ)(vs:ϊ V)(H:Hp)(Q:VK)(E:XK):Prop
 | mk (a:ό) (b:ϊ Int) (k:Nat) (c:vs=[.ref a, .int k]) (d:SqL K H a (b.map V.int)) (e:Q (.int (Mm.cellAt b k)) H)
abbrev Rv K(E:XK)(Eh:XK):=(aA (bf (aU (aN Fw b8 (dF K aX))) (aP (aN (eG K) aX b8)) aV)
  (aP (tI 0)))
abbrev Rw:ϊ ϐ:=sN ["script","k"]
theorem Z4(h:sp_f9 K vs H Q E):RG (Rv K E) Rw vs H Q:=by
 let#[a,d,k,rfl,b,q]:=h;show#[E0,?_];apply bQ b ?_;symm;rw [Qb];show fL (λ c=> ?_) λ c=> ?_
 .symm;show gm b (aQ (v:=V.int (Mm.cellAt d k)) ?_) ?_
  .rw [Wp,Qr (Ub c),Ŕ,Mm.getD_some (Qr (Ub c))]
  .show q
 .symm;rw [Mm.getD_none (qnC c)] at q;show q
inductive sp_f29(K:Ϗ)(vs:ϊ V)(H:Hp)(Q:VK)(E:XK):Prop
 | mk (a:Int) (k:Nat) (b:vs=[.int a, .int k]) (c:k<=2000) (d: ∀i:Int,0<=i->i<2147483647->Q (.int i) H)
abbrev LK(K:Ϗ)(E:XK)(Eh:XK):=(aP (aN di (aN jj (aN bZ (aN bZ (aN jj (aN di aX (tI 1000000007)) (aN bZ (tI 48271) (aN jj (tI 2) b8))) (aN jj (aN jj (tI 23) b8) b8)) (tI 31)) (tI 69621)) (tI 2147483647)))
abbrev LQ:ϊ ϐ:=sN ["cell","k"]
theorem Wy(h:sp_f29 K vs H Q E):RG (LK K E) LQ vs H Q:=by
 let#[a,k,rfl,b,q]:=h;show#[E0,?_];apply q _ () ()
theorem Z5{s:ϐ}(h:s.cps.toList=Hs.Q8.cps.toList.drop 1)(x:Int):xU s.cps.toList (x%93)=!(Hs.uA (x%93+1)):=by
 have b:↑Hs.Q8.cps.toList=94:=by ac_nf
 let#[n,a,c]:=Mm.fc x 93 (by decide);rw [show x%93=(n:Int) from a,h];show aQ ?_;unfold Hs.uA;rw [List.getElem?_drop,show((n:Int)+1)%94=((1+n:Nat):Int) by rfl',Ó,Yf,Qr ()];rfl
inductive sp_f6(K:Ϗ)(vs:ϊ V)(H:Hp)(Q:VK)(E:XK):Prop
 | mk (cl:Int) (a:vs=[.int cl, .int 4]) (b: ∀(cs:ϊ Nat) H',Same H H'->↑cs=5->cs.Nodup->(∀c∈cs,Hs.Sg (tx [c])/\c≠32)->Q (.str (tx cs)) H')
abbrev Qt K:=(aA (aJ (aN oV bJ cF) (ak 4))
  (aA (cu (gF (cM b8)) (ak 5) (aA (aJ (aN di (aN bZ (aN bZ cF (tI 1)) (aN di (bA (sp_f29 K) (bK aX gw)) (tI 18))) (tI 93)) (ak 3))
  (aJ (aN bc d7 (aN oV bJ cF)) (ak 4))))
  (aP d7)))
abbrev Rx K(E:XK)(Eh:XK):=(aA (aJ (tC (V.str (Str.ofString "!\"#$&'()*+,-./0123456789:;<=>?@ABCDEFGHIJKLMNOPQRSTUVWXYZ[\\]^_`abcdefghijklmnopqrstuvwxyz{|}~"))) (ak 2))
  (aA (aJ (aN di aX (tI 93)) (ak 3))
  (Qt K)))
abbrev Ry:ϊ ϐ:=sN ["cell","many","some","at","signs","k"]
theorem Z6(h:sp_f6 K vs H Q E):RG (Rx K E) Ry vs H Q:=by
 let#[cl,rfl,q]:=h;show#[E0,?_];apply lR (c:=Hs.uA (cl%93+1)) (by decide) (Z5 (by ac_nf) cl) ?_;apply wO 4 rfl (by decide) (by decide) (λ i r x=>(An2 (Same H x) (Ex3 λ (b:ϊ Nat) (a:Nat) (o:ύ V)=>(An5 (↑b=i+1) (a<=18*i) (b.Nodup) (∀c∈b,∃e:Nat,e<=a/\c=Hs.uA ((cl+(e:Int))%93+1)) (r=[!(.int cl),!(.int 4),!(.str (Str.ofString "!\"#$&'()*+,-./0123456789:;<=>?@ABCDEFGHIJKLMNOPQRSTUVWXYZ[\\]^_`abcdefghijklmnopqrstuvwxyz{|}~")),!(.int ((cl+(a:Int))%93)),!(.str (tx b)),o]))))) #[Same.refl _,[Hs.uA (cl%93+1)],0,none,rfl,(),by simp,λ c mc=>#[0,(),by rw [Zp.mp mc];simp],by simp;rfl] ?_ ?_
 .rintro i r y D ⟨p,b,a,o,n,l,f,g,rfl⟩;apply#[cl,i,rfl,(),λ v F G=> ?_];let#[d,j,A]:=Mm.fc v 18 (by decide);symm;rw [show v%18=(d:Int) from j,show((cl+(a:Int))%93+1+(d:Int))%93=(cl+((a+1+d:Nat):Int))%93 by rfl'];walk_at "ns";show lR (c:=Hs.uA ((cl+((a+1+d:Nat):Int))%93+1)) (by decide) (Z5 (by ac_nf) _) ?_;show fM (by rw [aM];change ↑b+1<=_;rfl') ?_;apply#[p,b++[Hs.uA ((cl+((a+1+d:Nat):Int))%93+1)],a+1+d,!(.int (i:Nat)),by simp [n],(),?_,λ c mc=> ?_,?_]
  .rw [à];show#[f,by simp,λ u B w C t=> ?_];let#[s,m,k]:=g u B;rw [Zp.mp C,k] at t;have:=Hs.Av t;rfl'
  .rcases Æ.mp mc with mc | mc
   .obtain ⟨s,m,k⟩:=g c mc;show#[s,(),k]
   .show #[a+1+d,Ä _,Zp.mp mc]
  .rw [<- eV];rfl
 .rintro r y ⟨p,b,a,o,n,l,f,g,rfl⟩;apply q b _ p n f λ c mc=>by
   let#[e,_,rfl]:=g c mc;show#[#[_,rfl],λ z=> ?_];have:=Hs.Av (z.trans (show(32:Nat)=Hs.uA 0 by ac_nf));rfl'
def LtB(H:Hp)(ht:Nat)(z:Lz):Prop:=H z.1=!(.tup [.str z.2.1, .ref z.2.2.1])/\H z.2.2.1=!(.lst (nv z.2.2.2))/\1<=↑z.2.2.2/\↑z.2.2.2<=8/\ ∀x∈z.2.2.2,x<2^ht
def LtB.same{z:Lz}(h:LtB H ht z)(s:Same H H'):LtB H' ht z:=#[s.get h.1,s.get h.2.1,h.2.2]
theorem LtB.set{z:Lz}{r:ό}{b:ϊ V}(h:LtB H ht z)(a:H r=!(.lst b))(n:z.2.2.1≠r):LtB (upd H r (.lst ys)) ht z:=#[by rw [au (λ e=>by have:=h.1;rw [e,a] at this;cases this)];show h.1,by rw [au n];show h.2.1,h.2.2]
abbrev kvZ(zs:ϊ Lz):ϊ (Key×V):=zs.map λ z:Lz=>((Sum.inr z.2.1:Key),V.ref z.2.2.1)
abbrev lsZ(zs:ϊ Lz):ϵ:=zs.map λ z:Lz=>(z.2.1,z.2.2.2)
inductive sp_f1(K:Ϗ)(vs:ϊ V)(H:Hp)(Q:VK)(E:XK):Prop
 | mk (cl:Int) (a:ϊ Nat) (b:Nat) (d:vs=[.int cl, .str (tx a), .int b]) (e:1<=↑a) (f:↑a<=10) (g:b<=60) (h: ∀r H' (zs:ϊ Lz),Same H H'->H' r=!(.lst (zs.map λ z:Lz=>V.ref z.1))->(∀z∈zs,LtB H' b z)->zs.map (·.2.1)=a.map (λ c=>tx [c])->(∀z,zs.getLast?=!z->↑z.2.2.2=1)->Q (.ref r) H')
abbrev Qu K:=(aA (aJ (lF [none,!0,!4,!2] (gF (cM gw)) (ak 0) dB (aN di (aN jj (bA (sp_f29 K) (bK b8 (aN bZ (aN bZ (tI 30) (aN jj (tI 2) bJ)) aX))) (tI 2147483659)) (aN QT (tI 1) cF))) (ak 6))
  (cT (qx K "list" dM cF (cM (dI (bK (aN oV b8 d7) jV))))))
abbrev Qv K:=(aA (cu (gF (cM (dF K b8))) (ak 4) (aA (aJ (aN bZ (tI 1) (aN di (bA (sp_f29 K) (bK aX (aN bZ (tI 20) d7))) (tI 2))) (ak 5))
  (aA (bf (aU (aN uX d7 (aN lG (dF K b8) (tI 1)))) (aJ (tI 1) (ak 5)) aV)
  (Qu K))))
  (aP cF))
abbrev Rz K(E:XK)(Eh:XK):=(aA (aJ (jQ iV) (ak 3))
  (Qv K))
abbrev LR:ϊ ϐ:=sN ["cell","signs","height","letters","k","size","columns"]
theorem Z7(h:sp_f1 K vs H Q E):RG (Rz K E) LR vs H Q:=by
 let#[cl,g,o,rfl,ad,a,ac,q]:=h;show#[E0,?_];symm;intro r hr;have M: ∀p∈[r],H p=none:=λ p hp=>by rw [Zp.mp hp];show hr
 apply jc (by rw [aM];show d9 a) ?_;rw [aM];apply wO ↑g (Ó _) (d9 a) () (λ i U f=>(Ex4 λ (k:ϊ Lz) (R S I:ύ V)=>(An8 (Sb [r] H f) (f r=!(.lst (k.map λ z:Lz=>V.ref z.1))) (∀z∈k,LtB f o z) (↑k=i) (k.map (·.2.1)=(g.take i).map (λ c=>tx [c])) (∀z∈k,z.2.2.1≠r) (i=↑g-> ∀z,k.getLast?=!z->↑z.2.2.2=1) (U=[!(.int cl),!(.str (tx g)),!(.int (o:Nat)),!(.ref r),R,S,I])))) #[[],_,_,_,Sb.of (aq hr _),aa,by simp,rfl,rfl,by simp,λ _ z e=>(by cases e),rfl] ?_ ?_
 .rintro i U w Y ⟨k,R,S,I,T,e,P,Z,G,n,_,rfl⟩;symm;rw [show(20:Int)+(i:Int)=((20+i:Nat):Int) from rfl];show#[cl,20+i,rfl,(),λ C y0 y1=> ?_];let#[m,em,hm]:=Mm.fc C 2 (by decide);walk_at "gj";rw [show C%2=(m:Int) from em,show(1:Int)+(m:Int)=((m+1:Nat):Int) by show qi1 _];walk_at "ns";with_reducible show mH (λ W f=>(An2 (f=w) (Ex1 λ (v:Nat)=>(An4 (1<=v) (v<=2) (i+1=↑g->v=1) (W=[!(.int cl),!(.str (tx g)),!(.int (o:Nat)),!(.ref r),!(.int (i:Nat)),!(.int (v:Nat)),I]))))) ?_ ?_
  rotate_left
  .intro N X;apply jc (by rw [aM];show d9 a) ?_;rw [aM];apply fL (λ c=> ?_) λ c=> ?_
   .symm;show X _ _ #[rfl,1,by decide,by decide,λ _=>rfl,rfl]
   .symm;show X _ _ #[rfl,m+1,(),(),λ z=>absurd (show(i:Int)=(↑g:Int)-1 by rfl') c,rfl]
  rintro _ _ ⟨rfl,v,ab,A,B,rfl⟩;rename_i w;apply yL v (Ó _) (d9 A) () (λ j J f=>(An2 (f=w) (Ex1 λ (d:ϊ Nat)=>(An3 (J=nv d) (↑d=j) (∀x∈d,x<2^o))))) #[rfl,[],rfl,rfl,by simp] ?_ ?_ ?_
  .rintro j J f ⟨rfl,d,rfl,h,_⟩;rw [Qb];show ė h
  .rintro j J f hj ⟨rfl,d,rfl,u,s⟩;symm;rw [show(30:Int)+2*(i:Int)+(j:Int)=((30+2*i+j:Nat):Int) by show rfl];show#[cl,30+2*i+j,rfl,(),λ mz z0 z1=> ?_];symm;let#[x,F,hx]: ∃x:Nat,mz*2147483659%(1*2^((o:Nat):Int).toNat)=(x:Int)/\x<2^o:=by
    rw [Ó,Int.one_mul,<- Bx.jA];show Mm.fc _ _ (Nat.two_pow_pos o)
   rw [F];show#[rfl,d++[x],by unfold nv;rw [Jn];rfl,by simp [u],λ y my=> ?_];rcases Æ.mp my with my | my
   .show s y my
   .rw [Zp.mp my];show hx
  rintro J f ⟨rfl,d,rfl,u,s⟩ c b;apply fQ (SqL.of (aH b e)) ?_;apply lR (c:=g[i]) (by rw [aM];show d9 a) (aQ (by rw [gU];show Qr Y)) ?_;symm;intro t l;symm;have L:=aH (o':=HO.tup [V.str (tx [g[i]]),V.ref c]) l (aH (o':=HO.lst (nv d)) b e);show jE L (by simp;rfl') ?_;symm;have D:c≠r:=λ z=>by rw [z,e] at b;cases b
  show#[k++[(t,tx [g[i]],c,d)],_,_,_,((T.new b).new l).set (by simp),by rw [aa,Jn];rfl,λ z mz=> ?_,by simp [Z],?_,λ z mz=> ?_,λ z x F=> ?_,rfl]
  .rcases Æ.mp mz with mz | mz
   .show (((P z mz).same (aq b _)).same (aq l _)).set L (n z mz)
   .rw [Zp.mp mz];show LtB.set #[aa,aH l aa,by change 1<=↑d;rfl',by change ↑d<=8;rfl',s] L D
  .rw [Jn,G,Í,Qr Y,Jn];rfl
  .rcases Æ.mp mz with mz | mz
   .show n z mz
   .rw [Zp.mp mz];show D
  .rw [ş,ŧ] at F
   cases F;show u.trans (B z)
 .rintro U w ⟨k,R,S,I,T,e,P,Z,G,n,O,rfl⟩;rw [Õ] at G;apply q r w k (T.off M) e P G (O rfl)
inductive sp_f5(K:Ϗ)(vs:ϊ V)(H:Hp)(Q:VK)(E:XK):Prop
 | mk (cl:Int) (a:ϊ Nat) (b:vs=[.int cl, .str (tx a)]) (d:↑a<=10) (e:a.Nodup) (f:(∀c∈a,Hs.Sg (tx [c]))) (g: ∀r H' ds es,Same H H'->HsT K H' r ds es->GoodH ds es->↑ds<=2->(∀ps∈ds,(ps.map (·.1)).Perm (a.map λ c=>tx [c]))->(∀j:Nat,j<↑ds->(j:Int)∈es)->Q (.ref r) H')
abbrev Qw K:=(aA (cu (gF (cM bJ)) (ak 4) (cT (qx K "list" dM cF (cM (lF [none,!1,!0,!4,!2] (gF (cM (dF K b8))) (ak 0) dB (dI (bK (aN oV b8 aX) (aN di (bA (sp_f29 K) (bK bJ (aN bZ (aN bZ (tI 60) (aN jj (tI 7) cF)) aX))) d7))))))))
  (aP (bA (sp_f26 K) (bK cF (lF [none,!2] (gF (cM bJ)) (ak 0) dB (aN lG (aN lG b8 (tI 1)) aX))))))
abbrev RB K(E:XK)(Eh:XK):=(aA (aJ (aN bZ (tI 1) (aN di (bA (sp_f29 K) (bK aX (tI 50))) (tI 2))) (ak 2))
  (aA (aJ (jQ iV) (ak 3))
  (Qw K)))
abbrev Bo:ϊ ϐ:=sN ["cell","signs","many","doors","k"]
theorem Z8(h:sp_f5 K vs H Q E):RG (RB K E) Bo vs H Q:=by
 let#[cl,w,rfl,I,ab,ac,q]:=h;show#[E0,?_];apply#[cl,50,rfl,by decide,λ mx m0 m1=> ?_];let#[m,em,ah,ai]: ∃m:Nat,(1:Int)+mx%2=(m:Int)/\1<=m/\m<=2:=#[(1+mx%2).toNat,(),(),()];symm;rw [em];intro dr T;have ad: ∀p∈[dr],H p=none:=λ p u=>by rw [Zp.mp u];show T
 symm;walk_at "ns";show wO m (Ó _) () () (λ i σ H'=>(An2 (Sb [dr] H H') (Ex2 λ (g:ϊ (ό×ϊ Dz)) (o4:ύ V)=>(An4 (H' dr=!(.lst (g.map λ r:ό×ϊ Dz=>V.ref r.1))) (↑g=i) (∀d∈g,d.1≠dr/\H' d.1=!(.lst (d.2.map λ z:Dz=>V.ref z.1))/\(∀z∈d.2,H' z.1=!(.tup [.str z.2.1, .int z.2.2])/\0<=z.2.2/\z.2.2<(m:Int))/\d.2.map (·.2.1)=w.map λ c=>tx [c]) (σ=[!(.int cl),!(.str (tx w)),!(.int (m:Int)),!(.ref dr),o4]))))) #[Sb.of (aq T _),[],_,aa,rfl,by simp,rfl] ?_ ?_
 .rintro i σ L hi ⟨sb,g,o4,v,M,f,rfl⟩;apply fQ (SqL.of v) ?_;apply jc (by rw [aM];show d9 I) ?_;rw [aM];apply yL ↑w (Ó _) (d9 I) () (λ k G B=>(An2 (Same L B) (Ex1 λ (F:ϊ Dz)=>(An3 (G=F.map (λ z:Dz=>V.ref z.1)) (F.map (·.2.1)=(w.take k).map (λ c=>tx [c])) (∀z∈F,B z.1=!(.tup [.str z.2.1, .int z.2.2])/\0<=z.2.2/\z.2.2<(m:Int)))))) #[Same.refl _,[],rfl,rfl,by simp] ?_ ?_ ?_
  .rintro k G B ⟨_,F,rfl,e,_⟩;have:=Ö List.length e;rw [Qb,Qb,Ð] at this;rw [Qb];rfl'
  .rintro k G B hk ⟨A,F,rfl,e,Y⟩;apply lR (c:=w[k]) (by rw [aM];show d9 I) (aQ (by rw [gU];show Qr hk)) ?_;symm;rw [show(60:Int)+7*(i:Int)+(k:Int)=((60+7*i+k:Nat):Int) from rfl];show#[cl,60+7*i+k,rfl,(),λ N y0 y1=> ?_];have x0:=Ι N (show(m:Int)≠0 by rfl');have x1:=Ŭ N (show(0:Int)<(m:Int) by rfl');symm;intro t ht;show#[A.new ht,F++[(t,tx [w[k]],N%(m:Int))],by simp,by rw [Jn,e,Í,Qr hk,Jn];rfl,λ z mz=> ?_];rcases Æ.mp mz with mz | mz
   .show #[aH ht (Y z mz).1,(Y z mz).2]
   .rw [Zp.mp mz];show#[aa,x0,x1]
  rintro G B ⟨A,F,rfl,e,Y⟩ p u;rw [Õ] at e;have O:=A.new (o:=HO.lst (F.map λ z:Dz=>V.ref z.1)) u;have e3:=O.get v;have Z:p≠dr:=λ z=>by rw [z,A.get v] at u;cases u
  apply jE e3 (by rw [Qb];rfl') ?_;apply#[(sb.same O).set (by simp),g++[(p,F)],_,by rw [aa,Jn];rfl,by rw [Â,M];rfl,λ d mr=> ?_,rfl];rcases Æ.mp mr with mr | mr
  .obtain ⟨P,g2,g3,g4⟩:=f d mr;show#[P,by rw [au P];show O.get g2,λ z mz=>#[gb (O.get (g3 z mz).1) e3,(g3 z mz).2],g4]
  .rw [Zp.mp mr];show#[Z,by rw [au Z];show aa,λ z mz=>#[gb (aH u (Y z mz).1) e3,(Y z mz).2],e]
 .rintro σ L ⟨sb,g,o4,v,M,f,rfl⟩;have S1:=sb.off ad;apply yL m (Ó _) () () (λ k G B=>(An2 (B=L) (G=((List.range k).map λ k:Nat=>(m:Int)-1-(k:Int)).map V.int))) #[rfl,rfl] ?_ ?_ ?_
  .rintro k G B ⟨_,rfl⟩;simp
  .rintro k G _ hk ⟨rfl,rfl⟩;apply#[rfl,?_];rw [ł,Jn,Jn];rfl
  rintro _ _ ⟨rfl,rfl⟩ p u;rename_i L;have C: ∀x,x∈(List.range m).map (λ k:Nat=>(m:Int)-1-(k:Int))↔0<=x/\x<(m:Int):=λ x=>by
   rw [Zs];constructor
   .rintro ⟨k,mk,rfl⟩;have:=í.mp mk;rfl'
   .intro hx;show#[(m-1-x).toNat,í.mpr (),()]
  have af:↑((List.range m).map (λ k:Nat=>(m:Int)-1-(k:Int)))=m:=by simp
  have X:((List.range m).map (λ k:Nat=>(m:Int)-1-(k:Int))).Nodup:=List.Pairwise.map _ (λ {a b} n e=>n ()) List.nodup_range;have ep:upd L p (HO.lst (((List.range m).map λ k:Nat=>(m:Int)-1-(k:Int)).map V.int)) p=!(.lst (((List.range m).map λ k:Nat=>(m:Int)-1-(k:Int)).map V.int)):=aa;have A:=aq (o:=HO.lst (((List.range m).map λ k:Nat=>(m:Int)-1-(k:Int)).map V.int)) u;generalize upd L p (HO.lst (((List.range m).map λ k:Nat=>(m:Int)-1-(k:Int)).map V.int))=B at ep A ⊢;generalize (List.range m).map (λ k:Nat=>(m:Int)-1-(k:Int))=xs at C af X ep;have R:(w.map λ c=>tx [c]).Nodup:=List.Pairwise.map _ (λ {a b} n e=>n (List.cons.inj (gV.mp e)).1) ab;have hg: ∀d∈g,∀z∈d.2,Hs.Sg z.2.1:=λ d mr z mz=>by
   have:z.2.1∈w.map λ c=>tx [c]:=by rw [<- (f d mr).2.2.2];show Zs.mpr #[z,mz,rfl]
   let#[c,mc,e]:=Zs.mp this;rw [<- e];show ac c mc
  have U: ∀d∈g,↑d.2=↑w:=λ d mr=>by
   have:=Ö List.length (f d mr).2.2.2;rw [Qb,Qb] at this;show this
  apply#[dr,p,g,xs,rfl,SqL.of (A.get v),λ d mr=>#[SqL.of (A.get (f d mr).2.1),λ z mz=>#[SqT.of (A.get ((f d mr).2.2.1 z mz).1),hg d mr z mz,by rw [M];show((f d mr).2.2.1 z mz).2],by rw [(f d mr).2.2.2];show R,by rw [U d mr];rfl'],SqL.of ep,λ x mx=>by rw [M];show(C x).mp mx,X,(),(),(),λ r H3 ds es O hH J u ae=> ?_];let#[S,J]:=J;have D: ∀s∈ds,(s.map (·.1)).Perm (w.map λ c=>tx [c])/\(s.map (·.1)).Pairwise qM/\ ∀z∈s,Hs.Sg z.1/\0<=z.2/\z.2<(m:Int):=λ s l=>by
   let#[j,hj]:=ó.mp l;have ag:=(À.mp hj).1;let#[d,W]: ∃d,g[j]? =!d:=#[_,Qr ()];have mr:=Xs W;let#[P,g2]:=J j s d hj W;show#[?_,g2,λ z mz=> ?_]
   .have:=P.map (·.1);rw [Å] at this;rw [<- (f d mr).2.2.2];show this
   .obtain ⟨y,N,rfl⟩:=Zs.mp (P.mem_iff.mp mz);show#[hg d mr y N,((f d mr).2.2.1 y N).2]
  show q r H3 ds es ((S1.trans A).trans O) hH #[(),(),λ s l=>(D s l).2.1,λ s l=> ?_,λ s l z mz=>by rw [S,M];show(D s l).2.2 z mz,ae,by rw [u.length_eq];rfl',λ e me=>by rw [S,M];show(C e).mp (u.mem_iff.mp me)] () (λ s l=>(D s l).1) λ j hj=>u.mem_iff.mpr ((C _).mpr ())
  have:=(D s l).1.length_eq;rw [Qb,Qb] at this;rfl'
def Z9{d:St}{c:TT}{b:TS}(P:ϑ->Prop)(h: ∀R:ϑ->Hp->Prop,(∀v,P v->R v H)->c d H R)(k: ∀v,P v->if v=true then a D d H else b D d H):bf c a b D d H:=h _ k
inductive sp_f10(K:Ϗ)(vs:ϊ V)(H:Hp)(Q:VK)(E:XK):Prop
 | mk (a:ό) (d:ϊ Int) (b:ϊ Nat) (e:vs=[.ref a, .str (tx b)]) (f:SqL K H a (d.map V.int)) (g:↑d<=63) (h:1<=↑b) (i:↑b<=10) (j:32∉b) (k: ∀t:ϊ Nat,↑t<=70->(∀c∈t,c∈b\/c=32)->(t=[]\/[]∉Tn.iJ 32 t)->Q (.str (tx t)) H)
abbrev M3 K:=(aA (aJ (aN (eG K) aX cF) (ak 4))
  (bf (qD (aU (aN uX (aN di (bA (sp_f29 K) (bK d7 (tI 70))) (tI 4)) (tI 0))) (qD (aU (aN tM bJ (tC (V.str (Str.ofString ""))))) (aU (aN tM (aN oV bJ (QJ ph (tI 1))) (tC (V.str (Str.ofString " "))))))) (aJ (aN bc bJ (tC (V.str (Str.ofString " ")))) (ak 2)) (aJ (aN bc bJ (aN oV b8 (aN di (bA (sp_f29 K) (bK d7 (aN bZ (tI 71) (aN di cF (tI 2))))) (dF K b8)))) (ak 2))))
abbrev M4 K(E:XK)(Eh:XK):=(aA (aJ (tC (V.str (Str.ofString ""))) (ak 2))
  (aA (cu (QH (bK (tI 3) (gA pq (bK (dF K aX) (tI 73))))) (ak 3) (M3 K))
  (aP (qx K "str" nU bJ (cM (tC (V.str (Str.ofString " "))))))))
abbrev M5:ϊ ϐ:=sN ["script","signs","text","k","cell"]
theorem WD(h:sp_f10 K vs H Q E):RG (M4 K E) M5 vs H Q:=by
 let#[a,ns,l,rfl,Z,ab,N,r,A,q]:=h;show#[E0,?_];apply bQ Z ?_;rw [Qb];symm;rw [if_neg ()];show Ul (↑ns-3) () () () (by decide) (by decide) (λ i T H'=>(An2 (H'=H) (Ex4 λ (b:ϊ (ϊ Nat)) (t:ϊ Nat) (F G:ύ V)=>(An4 (↑t<=i) (∀w∈b,w≠[]/\ ∀c∈w,c∈l) (t=Tn.bj 32 b\/(b≠[]/\t=Tn.bj 32 b++[32])) (T=[!(.ref a),!(.str (tx l)),!(.str (tx t)),F,G]))))) #[rfl,[],[],none,none,æ _,by simp, .inl rfl,rfl] ?_ ?_
 .rintro i T _ hi ⟨rfl,b,t,F,G,u,g,f,rfl⟩;rename_i H;let#[x,hx]: ∃x,ns[3+i]? =!x:=#[_,Qr ()];show lQ ?_;with_reducible show GD ?_
  show GF (by rfl) ?_;show GF (by rfl) ?_;rw [show(3:Int)+(i:Int)=((3+i:Nat):Int) from rfl];show gm Z (aQ (j:=3+i) (v:= .int x) (by rw [Wp,hx];rfl)) ?_;show lQ ?_;walk_at "ns";show Z9 (λ v=>v=true->t≠[]/\t.getLast?≠!32) (λ R M=> ?_) λ v S=> ?_
  .symm;show#[x,70,rfl,by decide,λ m _ _=> ?_];apply fL (λ _=> ?_) λ _=> ?_
   .symm;rw [show decide (tx t=Str.ofString "")=decide (t=[]) from Α.mpr (show tx t=tx []↔_ by rw [gV])];show sU (λ c=> ?_) λ c=> ?_
    .obtain ⟨t0,y,W⟩: ∃t0 y,t=t0++[y]:=#[t.dropLast,t.getLast c,(Ń c).symm];apply lR (c:=y) (by rw [aM];rfl') (by rw [gU,W];show oU _ _) ?_;apply M _ λ S=>#[c,λ z=> ?_]
     rw [W,ş,ŧ] at z
     cases z
     revert S
     decide
    .show M _ λ z=>(by cases z)
   .show M _ λ z=>(by cases z)
  cases v with
  | true=>
   let#[c1,U]:=S rfl;apply fM (by rw [aM];change ↑t+1<=_;rfl') ?_;rw [show Str.ofString " "=tx [32] from rfl,eV];show#[rfl,b,t++[32],_,_,by rw [Â];show Ė u,g, .inr ?_,rfl];rcases f with f | ⟨_,f⟩
   .show #[λ z=>c1 (by rw [f,z];rfl),by rw [f]]
   .rw [f,ş,ŧ] at U;show absurd rfl U
  | false=>
   symm;rw [show(71:Int)+(((3+i:Nat):Int))%2=((71+(3+i)%2:Nat):Int) from rfl];show#[x,71+(3+i)%2,rfl,(),λ m _ _=> ?_];apply jc (by rw [aM];show d9 r) ?_;rw [aM];symm;let#[j,ej,hj]:=Mm.fc m ↑l N;rw [ej];show lR (c:=l[j]) (by rw [aM];show d9 r) (aQ (by rw [gU];show Qr hj)) ?_;apply fM (by rw [aM];change ↑t+1<=_;rfl') ?_;rw [show(#[([l[j]].toArray)]:ϐ)=tx [l[j]] from rfl,eV];have s:=Ï hj;have fin: ∀p,(∀w∈p,w≠[]/\ ∀c∈w,c∈l)->t++[l[j]]=Tn.bj 32 p->(An2 (H=H) (Ex4 λ (b:ϊ (ϊ Nat)) (L:ϊ Nat) (F G:ύ V)=>(An4 (↑L<=i+1) (∀w∈b,w≠[]/\ ∀c∈w,c∈l) (L=Tn.bj 32 b\/(b≠[]/\L=Tn.bj 32 b++[32])) ([!(V.ref a),!(.str (tx l)),!(.str (tx (t++[l[j]]))),!(.int ((3+i:Nat):Int)),!(.int x)]=[!(.ref a),!(.str (tx l)),!(.str (tx L)),F,G])))):=λ p J h2=>#[rfl,p,t++[l[j]],_,_,by rw [Â];show Ė u,J, .inl h2,rfl]
   rcases f with f | ⟨hne,f⟩
   .rcases List.eq_nil_or_concat b with e | ⟨pre,w,e⟩
    .rw [e] at f;show fin [[l[j]]] (λ w D=>by rw [Zp.mp D];show#[by simp,λ c mc=>by rw [Zp.mp mc];show s]) (by rw [f];rfl)
    .rw [List.concat_eq_append] at e;show fin (pre++[w++[l[j]]]) (λ v mv=> ?_) (by rw [Tn.je,f,e]);rcases Æ.mp mv with mv | mv
     .show g v (by rw [e];show Ý _ mv)
     .rw [Zp.mp mv];show#[by simp,λ c mc=> ?_];rcases Æ.mp mc with mc | mc
      .show (g w (by rw [e];simp)).2 c mc
      .rw [Zp.mp mc];show s
   .show fin (b++[[l[j]]]) (λ v mv=> ?_) (by rw [Tn.gr hne,f,é];rfl);rcases Æ.mp mv with mv | mv
    .show g v mv
    .rw [Zp.mp mv];show#[by simp,λ c mc=>by rw [Zp.mp mc];show s]
 .rintro T _ ⟨rfl,b,t,F,G,u,g,f,rfl⟩;rename_i H;have C: ∀w∈b,32∉w:=λ w D z=>A ((g w D).2 32 z)
  have B: ∀x,(Tn.bj 32 b).getLast?=!x->x≠32:=λ x e=>by
   rcases List.eq_nil_or_concat b with o | ⟨pre,w,o⟩
   .rw [o] at e;cases e
   .rw [List.concat_eq_append] at o;let#[Y,g2]:=g w (by rw [o];simp);let#[w0,y,X]: ∃w0 y,w=w0++[y]:=#[w.dropLast,w.getLast Y,(Ń Y).symm];rw [o,X,Tn.je,ş,ŧ] at e
    cases e;show λ z=>A (by rw [<- z];show g2 _ (by rw [X];simp))
  apply wW () λ d k I O=> ?_
  replace I:t=d++List.replicate k 32:=I;replace O: ∀x,d.getLast?=!x->x≠32:=O;let#[n,en]: ∃n,t=Tn.bj 32 b++List.replicate n 32:=by
   rcases f with f | ⟨_,f⟩
   .show #[0,by rw [f];simp]
   .show #[1,by rw [f];rfl]
  have o:d=Tn.bj 32 b:=by
   have J:=lX 32 d k;rw [<- I,en,lX,uV B,uV O] at J;show J.symm
  have P:d=[]\/[]∉Tn.iJ 32 d:=by
   rcases List.eq_nil_or_concat b with e | ⟨pre,w,e⟩
   .show .inl (by rw [o,e];rfl)
   .show .inr ?_;rw [o,Tn.pR b (by rw [e];simp) C];show λ z=>(g [] z).1 rfl
  show q d ?_ (λ c mc=> ?_) P
  .have:=Ö List.length I;rw [Â] at this;rfl'
  .rw [o] at mc;rcases Tn.sW mc with z | ⟨w,D,m⟩
   .show .inr z
   .show .inl ((g w D).2 c m)
theorem tE: ∀l:ϊ Nat,(l.map λ n:Nat=>(n:Int)).sum=((l.sum:Nat):Int)
 | []=>rfl
 | n::r=>by rw [Ç,ġ,ġ,tE r];rfl'
def oI:ύ Int->V
 | none=> .non
 | some m=> .int m
inductive sp_f13(K:Ϗ)(vs:ϊ V)(H:Hp)(Q:VK)(E:XK):Prop
 | mk (d:ό) (b:ϊ Lz) (a:ϵ) (t:ϊ Nat) (f:Nat) (g:vs=[.str (tx t), .ref d]) (h:H d=!(.dK (kvZ b))) (i:(∀z∈b,LtB H f z)) (j:(∀s,Fo.lk (lsZ b) s=Fo.lk a s)) (k:Fo.Wf f a) (l:↑t<=100) (n:(∀w∈Tn.iJ 32 t,∀c∈w,∃e,Fo.lk a (tx [c])=!e)) (o: ∀(m:Nat) H',Same H H'->m<=800->(∀w∈Tn.iJ 32 t,↑(Fo.jU a w)<=m)->Q (.int m) H')
abbrev M6 K(E:XK)(Eh:XK):=(aA (aJ (tI 0) (ak 2))
  (aA (cu (bN K (qx K "str" ug aX (cM (tC (V.str (Str.ofString " ")))))) (ak 3) (aJ (gA yg (bK bJ (gA (Oj K) (cM (lF [none,!1] (Ft cF) (ak 0) dB (dF K (jx b8 aX))))))) (ak 2)))
  (aP bJ)))
abbrev zG:ϊ ϐ:=sN ["text","pictures","most","word"]
theorem WF(h:sp_f13 K vs H Q E):RG (M6 K E) zG vs H Q:=by
 let#[d,zs,g,t,ht,rfl,hd,hz,J,wf,P,W,q]:=h;show#[E0,?_];apply s_split (by decide) (by rw [aM];show d9 P) λ p hp=> ?_
 rw [show Str.ofString " "=#[([32].toArray)] from rfl,Tn.pU,Å];have y:upd H p (.lst ((Tn.iJ 32 t).map (V.str∘tx))) p=!(.lst ((Tn.iJ 32 t).map λ l=>V.str (tx l))):=aa;have R:=aq (o:= .lst ((Tn.iJ 32 t).map (V.str∘tx))) hp;generalize upd H p (.lst ((Tn.iJ 32 t).map (V.str∘tx)))=H1 at y R ⊢;have s:=Tn.Hj 32 t;have O:=Tn.uE 32 t;generalize Tn.iJ 32 t=ws at y W q s O;apply cV (λ l:ϊ Nat=>V.str (tx l)) (zs:=ws) (SqL.of y) (λ i C j=>(An2 (Same H1 j) (Ex2 λ (m:Nat) (o:ύ V)=>(An3 (m<=800) (∀w∈ws.take i,↑(Fo.jU g w)<=m) (C=[!(.str (tx t)),!(.ref d),!(.int (m:Nat)),o]))))) #[Same.refl _,0,none,(),by simp,rfl] (λ i C j z=>SqL.of (z.1.get y)) ?_ ?_
 .rintro i w C D X ⟨A,m,o,L,b,rfl⟩;have Y:=Xs X;have S:=R.trans A;have ac:=s w Y;apply a0u () (λ i B j=>(An2 (j=D) (Ex1 λ (f:ϊ Nat)=>(An3 (B=f.map (λ n:Nat=>V.int (n:Int))) (↑f=i) (f.sum=↑(Fo.jU g (w.take i))))))) #[rfl,[],rfl,rfl,rfl] ?_ ?_ ?_
  .rintro i B j ⟨_,f,rfl,h,_⟩;rw [Qb];rfl'
  .rintro i x B _ hi ⟨rfl,f,rfl,r,a⟩;have u:w[i]? =!x:=by simpa [tx] using hi
   let#[Z,e]:=W w Y x (Xs u);have U:=e;rw [<- J] at U;let#[z,mz,ez,ev]:=yP U;have T:=DGet.k (k:=Sum.inr (tx [x])) (S.get hd);rw [ev] at T;apply#[d,_,rfl,T,?_];apply ux (S.get (hz z mz).2.1) ?_;show#[rfl,f++[↑z.2.2.2],by rw [Jn];rfl,by rw [Â,r];rfl,?_];rw [Í,u,show(!x).toList=[x] from rfl,Fo.pP,List.sum_append,a,Â,show Fo.cl g x=Z by unfold Fo.cl;rw [e];rfl,ez];simp
  rintro B _ ⟨rfl,f,rfl,r,a⟩ p2 N;rw [Õ] at a;apply R8 (ns:=f.map λ n:Nat=>(n:Int)) (SqL.of (by rw [Å];show aa)) ?_;rw [tE,a];symm;have ab:=wf.pic_le w;let#[M,eM,F,G,I]: ∃M:Nat,(if ((↑(Fo.jU g w):Nat):Int)>((m:Nat):Int) then ((↑(Fo.jU g w):Nat):Int) else ((m:Nat):Int))=(M:Int)/\m<=M/\↑(Fo.jU g w)<=M/\M<=800:=by
   by_cases c:m<↑(Fo.jU g w)
   .show #[_,if_pos (),(),Ä _,()]
   .show #[m,if_neg (),Ä _,(),L]
  rw [eM];show#[A.new N,M,!(.str (tx w)),I,λ v mv=> ?_,rfl];rw [Í,X] at mv;rcases Æ.mp mv with mv | mv
  .show Ò (b v mv) F
  .rw [show v=w by simpa using mv];show G
 rintro C D ⟨A,m,o,L,b,rfl⟩;rw [Õ] at b;apply q m D (R.trans A) L b
def adV:V->ό
 | .ref a=>a
 | _=>0
theorem M7{a:L2S}{cs:ϊ Nat}(b:Hs.Wf a)(h: ∀ps∈a,∀x∈cs,∃r,Hs.dr ps (tx [x])=!r): ∀k,∃r,Hs.go a (cs.take k)=!r
 | 0=>#[0,rfl]
 | k+1=>by
  let#[r,e]:=M7 b h k
  cases hx:cs[k]? with
  | none=>rw [Í,hx];show#[r,by simpa using e]
  | some x=>
   let#[f,g]:=Hs.wU b e;let#[d,c]:=h (a.getD r.toNat []) (by rw [Yf,Qr ()];show Ï _) x (Xs hx);show#[d,?_];rw [Í,hx,show(!x).toList=[x] from rfl,Hs.uz,e];show c
theorem Ds{a:Type}{l:ϊ a}{x:a}(h:l[i]? =!x):l.set i x=l:=by
 let#[b,e]:=À.mp h;rw [<- e,List.set_getElem_self]
theorem oE{h:Nat}(a:1<=h): ∀(S:ϊ (ϊ Nat))(k:Nat),k<↑S*h->(S.flatMap (Mm.draw h))[k]? =!(Mm.cI (S.getD (k / h) []) (k%h))
 | [],k,hk=>absurd hk (by simp)
 | x::S,k,hk=>by
  rw [ĭ];by_cases c:k<h
  .rw [ç (by rw [Mm.fu];show c),Nat.div_eq_of_lt c,Nat.mod_eq_of_lt c];unfold Mm.draw;rw [Wp,ę c];rfl
  .rw [ä (by rw [Mm.fu];rfl'),Mm.fu];let#[j,rfl]: ∃j,k=j+h:=#[k-h,()];rw [è,Nat.succ_mul] at hk;rw [Ο,oE a S j (),Nat.add_div_right _ a,Nat.add_mod_right];rfl
theorem tG{X:ϊ Nat}(b:x<↑X)(a:Nat):Mm.cI (Mm.eN X ((x:Int),(y:Int))) a=if a=y then (Mm.cI X y).set x (if X[x].testBit y=true then 46 else 35) else Mm.cI X a:=by
 have e:Mm.eN X ((x:Int),(y:Int))=X.set x (X[x]^^^2^y):=by
  unfold Mm.eN;change X.set ((x:Int)).toNat _=_;rw [Ó,Ó,Yf,Qr b];rfl
 rw [e];unfold Mm.cI;rw [List.map_set,ŗ,Nat.testBit_two_pow];by_cases c:a=y
 .rw [if_pos c,c]
  cases X[x].testBit y<;>simp
 .rw [if_neg c,Ú (λ z=>c z.symm),Bool.xor_false];have:(X.map λ x=>if x.testBit a=true then 35 else 46)[x]'(by rw [Qb];show b)=if X[x].testBit a=true then 35 else 46:=ú ..
  rw [<- this,List.set_getElem_self]
theorem M8{h:Nat}(a:1<=h){X:ϊ Nat}(f:S[i]? =!X)(g:x<↑X)(j:y<h):(S.flatMap (Mm.draw h)).set (i*h+y) ((Mm.cI X y).set x (if X[x].testBit y=true then 46 else 35))=(S.set i (Mm.eN X ((x:Int),(y:Int)))).flatMap (Mm.draw h):=by
 have b:=(À.mp f).1;have n:i*h+h<=↑S*h:=by rw [<- Nat.succ_mul];show Ş _ b
 show ŝ λ k=> ?_
 rw [Ĝ];by_cases d:k<↑S*h
 .rw [oE a (S.set i _) k (by rw [ŀ];show d),Yf,Ĝ];by_cases e:i*h+y=k
  .subst e;have l:(i*h+y) / h=i:=by rw [Ž,Nat.mul_add_div a,Nat.div_eq_of_lt j,π]
   have m:(i*h+y)%h=y:=by rw [Ž,Nat.mul_add_mod,Nat.mod_eq_of_lt j]
   rw [if_pos rfl,if_pos (by rw [Mm.dZ];show d),l,m,if_pos rfl,if_pos b];change some _=!(Mm.cI (Mm.eN X _) y);rw [tG g,if_pos rfl]
  .rw [if_neg e,oE a S k d,Yf];by_cases c:i=k / h
   .rw [if_pos c,if_pos b,<- c,f];change _=!(Mm.cI (Mm.eN X _) _);rw [tG g,if_neg λ z=>e (by rw [<- z,c,Ž];show Nat.div_add_mod k h)];rfl
   .rw [if_neg c]
 .rw [if_neg (),ß (by rw [Mm.dZ];rfl'),ß (by rw [Mm.dZ,ŀ];rfl')]
inductive sp_f15(K:Ϗ)(vs:ϊ V)(H:Hp)(Q:VK)(E:XK):Prop
 | mk (d a:ό) (g:ϊ Int) (i b e:Nat) (f:ύ Int) (c:ϊ (ϊ Nat)) (j:vs=[.ref d, .ref a, .int i, .int b, .int e,oI f]) (k:H d=!(.lst ((c.flatMap (Mm.draw b)).map λ l=>V.str (tx l)))) (n:SqL K H a (g.map V.int)) (o:↑g<=63) (p:i<↑c) (q:↑c<=100) (r:(1<=b/\b<=60)) (t:e<=1000) (u:(∀s∈c,↑s=e)) (v:(∀m,f=!m->0<=m)) (h: ∀H' (sp:ϊ (Int×Int)),Sb [d] H H'->H' d=!(.lst (((c.set i (Mm.cZ (c.getD i []) sp)).flatMap (Mm.draw b)).map λ l=>V.str (tx l)))->sp.Nodup->(∀s∈sp,Mm.On b e s)->(∀m,f=!m->(↑sp:Int)<=m)->Q (.int (↑sp:Nat)) H')
abbrev M9 K:=(aA (aJ (dI (bK (aN di (bA (sp_f29 K) (bK Rf (tI 80))) (gA yg (bK (tI 1) d7))) (aN di (bA (sp_f29 K) (bK Rf (aN bZ (tI 81) (aN di bJ (tI 5))))) cF))) (ak 10))
  (bf (qD (aU (aN qK d7 (tI 0))) (aU (aN Fw (gA wB (cM uZ)) jV))) (jY uZ Hr (tC (V.bl true))) aV))
abbrev Ma:TS:=
  (aA (bf (aU (aN uX (aN oV Dh Dg) (tC (V.str (Str.ofString "#"))))) (aJ (tC (V.str (Str.ofString "."))) (ak 14)) aV)
  (aJ (aN bc (aN bc (BW vQ Dh dJ (gh Dg)) Ht) (BW vQ Dh (gh (aN bZ Dg (tI 1))) dJ)) (Ea aX (aN bZ (aN jj bJ cF) qd) oW)))
abbrev Mf K:=(aA (cu (gF (cM (dF K b8))) (ak 8) (aA (aJ (aN bZ (aN (eG K) b8 Qj) (aN jj (tI 7) bJ)) (ak 9))
  (M9 K)))
  (aA (cu (bN K (gA ut (cM uZ))) (ie K 2 (bD (ak 11) (bD (ak 12) iK))) (aA (aJ (aN (eG K) aX (aN bZ (aN jj bJ cF) qd)) (ak 13))
  (aA (aJ (tC (V.str (Str.ofString "#"))) (ak 14))
  (Ma))))
  (aP (gA wB (cM uZ)))))
abbrev Mg K(E:XK)(Eh:XK):=(aA (aJ (tI 9) (ak 6))
  (aA (bf (aU (aN u9 gw (tC V.non))) (aJ (gA pq (bK (tI 9) gw)) (ak 6)) aV)
  (aA (aJ yc (ak 7))
  (Mf K))))
abbrev Mh:ϊ ϐ:=sN ["lines","script","at","height","wide","most","many","spots","k","cell","spot","x","y","line","sign"]
theorem WK(h:sp_f15 K vs H Q E):RG (Mg K E) Mh vs H Q:=by
 let#[R,a,ns,i,r,C,mo,U,rfl,bb,hS,bq,hi,b0,#[P,bp],b1,bg,be,q]:=h;show#[E0,?_];walk_at "gj";walk_at "ns";with_reducible show mH (λ ah F=>(An2 (F=H) (Ex1 λ (M:Nat)=>(An3 (M<=9) (∀m,mo=!m->(M:Int)<=m) (ah=[!(.ref R),!(.ref a),!(.int (i:Nat)),!(.int (r:Nat)),!(.int (C:Nat)),!(oI mo),!(.int (M:Nat)),none,none,none,none,none,none,none,none]))))) ?_ ?_
 rotate_left
 .intro N hN
  cases mo with
  | none=>
   apply eQ rfl ?_;apply hN _ _ #[rfl,9,Ä _,λ m e=>(by cases e),rfl]
  | some m=>
   have h0:=be m rfl;apply Ud (λ z=>by cases z) ?_;symm;change pq [.int 9, .int m] H _;symm;by_cases c:m<9
   .rw [if_pos c];show hN _ _ #[rfl,m.toNat,(),λ m' e=>by cases e;rfl',by rw [show((m.toNat:Nat):Int)=m by rfl'];rfl]
   .rw [if_neg c];show hN _ _ #[rfl,9,Ä _,λ m' e=>by cases e;rfl',rfl]
 rintro _ _ ⟨rfl,M,br,a6,rfl⟩;rename_i H;symm;intro d hd;apply bQ ((aq hd _).seq hS) ?_;rw [Qb];have as: ∀p∈[d],H p=none:=λ p hp=>by rw [Zp.mp hp];show hd
 show wO ↑ns (Ó _) () () (λ k σ F=>(An2 (Sb [d] H F) (Ex4 λ (f:ϊ (Int×Int)) (o8 o9 G:ύ V)=>(An5 (F d=!(.dT (tabS f λ _=>V.bl true))) (f.Nodup) (∀s∈f,Mm.On r C s) (↑f<=M) (σ=[!(.ref R),!(.ref a),!(.int (i:Nat)),!(.int (r:Nat)),!(.int (C:Nat)),!(oI mo),!(.int (M:Nat)),!(.ref d),o8,o9,G,none,none,none,none]))))) #[Sb.of (aq hd _),[],none,none,none,aa,by simp,by simp,æ _,rfl] ?_ ?_
 .rintro k σ H1 hk ⟨sb,f,o8,o9,G,ed,D,t,B,rfl⟩;have S1:=sb.off as;let#[x,hx]: ∃x,ns[k]? =!x:=#[_,Qr hk];apply gm (S1.seq hS) (aQ (j:=k) (v:= .int x) (by rw [Wp,hx];rfl)) ?_;apply#[_,80,rfl,by decide,λ m1 _ _=> ?_];symm;let#[W,eW,a8,a9]: ∃W:Nat,(if ((C:Nat):Int)>1 then ((C:Nat):Int) else 1)=(W:Int)/\1<=W/\(1<=C->W=C):=by
   by_cases c:C<=1
   .show #[1,by rw [if_neg ()];rfl,by decide,λ h=>Nat.le_antisymm h c]
   .show #[C,by rw [if_pos ()],(),λ _=>rfl]
  rw [eW];let#[S,a3,bs]:=Mm.fc m1 W a8;rw [a3];rw [show(81:Int)+((i:Nat):Int)%5=((81+i%5:Nat):Int) from rfl];show#[_,81+i%5,rfl,(),λ m2 _ _=> ?_];let#[T,a4,bv]:=Mm.fc m2 r P;symm;rw [a4];intro tp bi;have s2:=aq (o:= .tup [.int (S:Nat), .int (T:Nat)]) bi;have al:upd H1 tp (.tup [.int (S:Nat), .int (T:Nat)]) tp=!(.tup ((jm ((S:Int),(T:Int))).map kV)):=aa;generalize upd H1 tp (.tup [.int (S:Nat), .int (T:Nat)])=H2 at s2 al ⊢;have ag:=sb.same s2;have J:=s2.get ed;apply fL (λ c=> ?_) λ c=> ?_
  .symm;show yR J ?_;rw [show↑(tabS f λ _=>V.bl true)=↑f by unfold tabS;rw [Qb]];apply fL (λ c2=> ?_) λ c2=> ?_
   .symm;show#[d,_,rfl,DPut.t (k:=jm ((S:Int),(T:Int))) J al (by unfold tabS;rw [Qb];show Û (show ↑f<=100 by rfl') (by decide)),?_];rw [Q4 f (λ _=>V.bl true) (λ _=>V.bl true) ((S:Int),(T:Int)) (λ _ _=>rfl)];apply#[ag.set Ë,_,_,_,_,aa,?_,λ s ms=> ?_,?_,rfl]
    .split
     .show D
     .rename_i c;show à.mpr #[D,by simp,λ u mu w mw e=>c (by rw [Zp.mp mw] at e;rw [<- e];show mu)]
    .have on:Mm.On r C ((S:Int),(T:Int)):=#[by change(0:Int)<=(S:Int);rfl',by change(S:Int)<_;have:=a9 ();rfl',by change(0:Int)<=(T:Int);rfl',by change(T:Int)<_;rfl'];split at ms
     .show t s ms
     .rcases Æ.mp ms with ms | ms
      .show t s ms
      .rw [Zp.mp ms];show on
    .split
     .show B
     .rw [Â,â];rfl'
   .symm;show#[ag,f,_,_,_,J,D,t,B,rfl]
  .symm;show#[ag,f,_,_,_,J,D,t,B,rfl]
 rintro σ H1 ⟨sb,f,o8,o9,G,ed,D,t,B,rfl⟩;have S1:=sb.off as;have O:=S1.get bb;apply Hm ed (by unfold tabS;rw [Qb];rfl') λ l Z hl a5 bl=> ?_
 have s3:=aq (o:= .lst (Z.map λ z:ό×ϊ Key=>V.ref z.1)) hl;have el:upd H1 l (.lst (Z.map λ z:ό×ϊ Key=>V.ref z.1)) l=!(.lst (Z.map λ z:ό×ϊ Key=>V.ref z.1)):=aa;have bo:l≠R:=(aY O hl).symm;generalize upd H1 l (.lst (Z.map λ z:ό×ϊ Key=>V.ref z.1))=H3 at s3 el ⊢;have a1:=s3.get ed;have S3:=S1.trans s3;have ek:Z.map (·.2)=f.map jm:=by rw [a5];unfold tabS;rw [Å];rfl
 have bk:↑Z=↑f:=by have:=Ö List.length ek;rw [Qb,Qb] at this;show this
 let#[I,ab]: ∃I,U[i]? =!I:=#[_,Qr hi];have ay:U.getD i []=I:=by rw [Yf,ab];rfl
 rw [ay] at q;have ap:=bg I (Xs ab);show cV (λ z:ό×ϊ Key=>V.ref z.1) (zs:=Z) (SqL.of el) (λ k σ F=>(An3 (Sb [R] H3 F) (F R=!(.lst (((U.set i (Mm.cZ I (f.take k))).flatMap (Mm.draw r)).map λ l=>V.str (tx l)))) (Ex4 λ ac ad ae af=>σ=[!(.ref R),!(.ref a),!(.int (i:Nat)),!(.int (r:Nat)),!(.int (C:Nat)),!(oI mo),!(.int (M:Nat)),!(.ref d),o8,o9,G,ac,ad,ae,af]))) #[Sb.of (.refl _),by rw [s3.get O,List.take_zero];congr 4;show(Ds ab).symm,none,none,none,none,rfl] ?_ ?_ ?_
 .rintro k σ F ⟨A,_⟩;show SqL.of (A.get (by simpa using bo) el)
 .rintro k ⟨b,ky⟩ σ F hz ⟨A,e,ac,ad,ae,af,rfl⟩;let#[s,hs]: ∃s,f[k]? =!s:=#[_,Qr (by have:=(À.mp hz).1;rfl')];have a2:ky=jm s:=by
   have:=Ö (·[k]?) ek;rw [Wp,Wp,hz,hs] at this;show Þ this
  let#[c1,c2,c3,c4]:=t s (Xs hs);let#[x,y]:=s;dsimp only at c1 c2 c3 c4;let#[x,rfl]: ∃x':Nat,x=(x':Int):=#[x.toNat,()];let#[y,rfl]: ∃y':Nat,y=(y':Int):=#[y.toNat,()];have tz:H3 b=!(.tup [.int (x:Int), .int (y:Int)]):=by
   have:=s3.get (bl _ (Xs hz));rw [a2] at this;show this
  have Y:↑(Mm.cZ I (f.take k))=C:=by rw [Mm.iB,ap]
  have ai:Mm.cZ I (f.take (k+1))=Mm.eN (Mm.cZ I (f.take k)) ((x:Int),(y:Int)):=by rw [Í,hs];show Mm.yH ..
  rw [ai];generalize Mm.cZ I (f.take k)=X at e Y ai;have am:(U.set i X)[i]? =!X:=by rw [Ĝ,if_pos rfl,if_pos hi]
  have ax:x<↑X:=()
  have a7:↑(U.set i X)=↑U:=ŀ;have aw:i*r+y<↑(U.set i X)*r:=by
   have:i*r+r<=↑U*r:=by rw [<- Nat.succ_mul];show Ş _ hi
   rw [a7];rfl'
  have av:((U.set i X).flatMap (Mm.draw r))[i*r+y]? =!(Mm.cI X y):=by
   rw [oE P _ _ aw,Ž i,Nat.mul_add_div P,Nat.div_eq_of_lt (),π,Nat.mul_add_mod,Nat.mod_eq_of_lt (),Yf,am];rfl
  have fs:=M8 P am ax (show y<r by rfl');rw [List.set_set] at fs;have bd:↑(Mm.cI X y)=C:=by rw [Mm.iC,Y]
  have ar:(Mm.cI X y)[x]? =!(if X[x].testBit y=true then 35 else 46):=by unfold Mm.cI;rw [Wp,Qr ax];rfl
  have bm:b≠R:=fj tz (s3.get O) (λ z=>by cases z);generalize hL:Mm.cI X y=L at av fs bd ar;show cU (SqT.of (A.get (by simpa using bm) tz)) rfl ?_;symm;rw [show(i:Int)*(r:Int)+(y:Int)=((i*r+y:Nat):Int) by simp];show qQ e av ?_;show lQ ?_;walk_at "gj";walk_at "ns";with_reducible show mH (λ ah H2=>(An2 (H2=F) (ah=[!(.ref R),!(.ref a),!(.int (i:Nat)),!(.int (r:Nat)),!(.int (C:Nat)),!(oI mo),!(.int (M:Nat)),!(.ref d),o8,o9,G,!(.int (x:Nat)),!(.int (y:Nat)),!(.str (tx L)),!(.str (tx [if X[x].testBit y=true then 46 else 35]))]))) ?_ ?_
  rotate_left
  .intro N hN;apply lR (c:=if X[x].testBit y=true then 35 else 46) (by rw [aM];rfl') (aQ (by rw [gU];show ar)) ?_;symm
   cases hb:X[x].testBit y with
   | true=>
    show kh rfl ?_;apply hN _ _ #[rfl,by rw [hb];rfl]
   | false=>
    show iD (by decide) ?_;apply hN _ _ #[rfl,by rw [hb];rfl]
  rintro _ _ ⟨rfl,rfl⟩;rename_i F;generalize (if X[x].testBit y=true then (46:Nat) else 35)=g at fs ⊢;apply Hb (by rw [aM];rfl') ?_;rw [R9 ()];apply fM (by rw [aM,aM,Ð];simp;rfl') ?_;rw [eV];symm;rw [show(x:Int)+1=((x+1:Nat):Int) from rfl];show Hb (by rw [aM];rfl') ?_;rw [Q3 ()];apply fM (by rw [aM,aM,Â,Ð,ì];simp;rfl') ?_;rw [eV,show L.take x++[g]++L.drop (x+1)=L.set x g by rw [List.set_eq_take_append_cons_drop,if_pos (),é];rfl];symm;rw [show(i:Int)*(r:Int)+(y:Int)=((i*r+y:Nat):Int) by simp];show yM (i*r+y) e rfl (by rw [Qb,Mm.dZ];show aw) ?_;show#[A.set Ë,?_,_,_,_,_,rfl];rw [aa,<- fs,List.map_set]
 rintro σ H4 ⟨A,e,ac,ad,ae,af,rfl⟩;rw [bk,Õ] at e;have bn:d≠R:=fj ed O (λ z=>by cases z);apply yR (A.get (by simpa using bn) a1) ?_;rw [show↑(tabS f λ _=>V.bl true)=↑f by unfold tabS;rw [Qb]];show q H4 f (λ b o n h=>A b o n (S3.get h)) e D t λ m em=>by have:=a6 m em;rfl'
inductive sp_f24(K:Ϗ)(vs:ϊ V)(H:Hp)(Q:VK)(E:XK):Prop
 | mk (p:ό) (a:ϊ (ϊ Nat)) (n:Nat) (b:vs=[.ref p, .int n]) (c:H p=!(.lst (a.map λ l=>V.str (tx l)))) (d:↑a=n) (e:Q (.bl true) H)
abbrev Mi K(E:XK)(Eh:XK):=(aA (bf (Dw (fV (fJ K (gA (cR K) (bK aX (tC (V.ty "list")))))) (aU (aN tM (dF K aX) b8))) (aP (tC (V.bl false))) aV)
  (aA (cu (bN K aX) (ak 2) (bf (fV (fJ K (gA (cR K) (bK bJ (tC (V.ty "str")))))) (aP (tC (V.bl false))) aV))
  (aP (tC (V.bl true)))))
abbrev Mj:ϊ ϐ:=sN ["found","many","line"]
theorem WL(h:sp_f24 K vs H Q E):RG (Mi K E) Mj vs H Q:=by
 let#[p,f,n,rfl,a,e,q]:=h;show#[E0,?_];apply cW (.lst a) (b:=true) rfl ?_;apply bQ (SqL.of a) ?_;apply eQ (by rw [Qb,e]) ?_;apply cV (λ l:ϊ Nat=>V.str (tx l)) (SqL.of a) (λ i c d=>(An2 (H=d) (Ex1 λ o=>c=[!(.ref p),!(.int (n:Nat)),o]))) #[rfl,_,rfl] (λ i c d z=>z.1▸SqL.of a) ?_ ?_
 .rintro i l c _ e ⟨rfl,o,rfl⟩;apply cW (.str _) (b:=true) rfl ?_;apply#[rfl,_,rfl]
 .rintro c _ ⟨rfl,o,rfl⟩;apply q
inductive sp_f28(K:Ϗ)(vs:ϊ V)(H:Hp)(Q:VK)(E:XK):Prop
 | mk (i:Int) (a:vs=[.int i]) (b:Q (.bl true) H)
abbrev Ml K(E:XK)(Eh:XK):=(aP (jq (gA (cR K) (bK aX (tC (V.ty "int")))) (DX (gA (cR K) (bK aX (tC (V.ty "bool")))))))
abbrev Mp:ϊ ϐ:=sN ["found"]
theorem WM(h:sp_f28 K vs H Q E):RG (Ml K E) Mp vs H Q:=by
 let#[i,rfl,q]:=h;show#[E0,?_];apply#[_,_,_,_,rfl, .int i,rfl,?_];apply#[_,_,_,_,rfl, .int i,rfl,?_];apply q
inductive sp_f0(K:Ϗ)(vs:ϊ V)(H:Hp)(Q:VK)(E:XK):Prop
 | mk (d e f:ό) (a:ϊ (ϊ Nat)) (b:ϊ (ό×Nat)) (g:vs=[.ref d, .ref e, .ref f]) (h:H d=!(.lst (b.map λ z=>V.ref z.1))) (j:H e=!(.lst (a.map λ l=>V.str (tx l)))) (k:H f=!(.lst (nv (b.map (·.2))))) (m:↑b=↑a) (n:↑a<=1000) (o:(∀l∈a,∀c∈l,c<1114112)) (p:(∀(i:Nat) z l,b[i]? =!z->a[i]? =!l->H z.1=!(.tup [.str (tx l), .int (z.2:Nat), .int 1]))) (q: ∀H',Q (.bl true) H')
abbrev Qx K:=(aA (bf (Dw (fV (fJ K (gA (cR K) (bK d7 (tC (V.ty "tuple")))))) (Dw (aU (aN tM (dF K d7) (tI 3))) (fV (fJ K (gA (cR K) (bK (tX K d7 0) (tC (V.ty "str")))))))) (aP (tC (V.bl false))) aV)
  (bf (Dw (fV (fJ K (bA (sp_f28 K) (cM (tX K d7 1))))) (Dw (fV (fJ K (bA (sp_f28 K) (cM (tX K d7 2))))) (aU (aN (rNeD K) d7 (dI (lY (aN (eG K) b8 cF) (aN (eG K) bJ cF) (tI 1))))))) (aP (tC (V.bl false))) aV))
abbrev RC K(E:XK)(Eh:XK):=(aA (bf (Dw (fV (fJ K (gA (cR K) (bK aX (tC (V.ty "list")))))) (aU (aN tM (dF K aX) (dF K b8)))) (aP (tC (V.bl false))) aV)
  (aA (cu (gF (cM (dF K b8))) (ak 3) (aA (aJ (aN (eG K) aX cF) (ak 4))
  (Qx K)))
  (aP (tC (V.bl true)))))
abbrev RD:ϊ ϐ:=sN ["found","rows","turned_over","k","one"]
theorem Za(h:sp_f0 K vs H Q E):RG (RC K E) RD vs H Q:=by
 let#[x,I,J,a,y,rfl,m,o,A,D,F,B,G,q]:=h;show#[E0,?_];apply cW (.lst m) (b:=true) rfl ?_;apply bQ (SqL.of m) ?_;apply bQ (SqL.of o) ?_;apply eQ (by rw [Qb,Qb,D]) ?_;apply bQ (SqL.of o) ?_;apply wO ↑a (by rw [Qb];show Ó _) (d9 F) () (λ i s k=>(An2 (Same H k) (Ex2 λ p r=>s=[!(.ref x),!(.ref I),!(.ref J),p,r]))) #[Same.refl _,none,none,rfl] ?_ ?_
 .rintro i s k C ⟨g,p,r,rfl⟩;let#[z,e]: ∃z,y[i]? =!z:=#[_,Qr ()];let#[l,c]: ∃l,a[i]? =!l:=#[_,Qr C];have f:=g.get (G i z l e c);apply qQ (g.get m) e ?_;apply cW (.tup f) (b:=true) rfl ?_;apply cX (SqT.of f) ?_;apply eQ rfl ?_;apply gn f ?_;apply cW (.str _) (b:=true) rfl ?_;apply dX f ?_;apply#[_,rfl,?_];apply jT f ?_;apply#[_,rfl,?_];apply qQ (g.get o) c ?_;apply gm (SqL.of (g.get A)) (aQ (j:=i) (v:= .int (z.2:Nat)) (by unfold nv;rw [Wp,Wp,e];rfl)) ?_;symm;intro u w;show rNeD.same (d:= .tuple [.str (tx l), .int (z.2:Nat), .int 1]) (n:=1) (.tup (SqT.of (aH w f)) (.cons (.str _) (.cons (.int _) (.cons (.int _) .nil)))) (.tup (SqT.of aa) (.cons (.str _) (.cons (.int _) (.cons (.int _) .nil)))) (gR λ d t=> ?_) (by decide) ?_
  .simp only [È,å,ĥ] at t;rcases t with rfl | rfl | rfl
   .show Hd 0 (B l (Xs c))
   .show eU 0 _
   .show eU 0 _
  apply#[g.new w,_,_,rfl]
 rintro s k ⟨g,p,r,rfl⟩;apply q _
theorem xF(a b:ϊ Nat):cst a b=cst b a:=by
 unfold cst;rw [Mm.iz,Nat.min_comm]
theorem Bp(a:ϊ Nat):cst [] a=0:=by
 unfold cst;simp [Mm.b7]
inductive Pt(wss:ϊ (ϊ gB))(rs:ϊ Int):Sd->Nat->Prop
 | fork {z:gB×gB×Int}:z∈nO wss rs->Pt wss rs (lW z) (qT z)
 | step {x:Sd} {c:Nat} {w:gB}:Pt wss rs x c->w∈wss.getD x.1.toNat []->Pt wss rs (nu w x.2.1 x.2.2) (c+cst x.2.2 w.2.1)
theorem Pt.rch{N:Nat}{x:Sd}(h:Pt a (cL a N) x c):Mm.Rch (Iz a N) (Nf a) x:=by
 induction h with
 | fork m=>show .base (Zs.mpr #[_,m,rfl])
 | step _ mw ih=>show .step ih (Zs.mpr #[_,mw,rfl])
theorem Pt.low{N:Nat}{S:ϊ Sd}(j: ∀x,x∈S↔Mm.Rch (Iz a N) (Nf a) x)(i:Dj (Qm g S) (J2 (Rk o a) S) F (λ _ _=>False)){x:Sd}(h:Pt a (cL a N) x c): ∀k,F x k-> ∃z∈nO a (cL a N),∃b,F (lW z) b/\qT z+b.1<=c+k.1:=by
 induction h with
 | fork m=>show λ k d=>#[_,m,k,d,Ä _]
 | @step x c w hx mw ih=>
  intro k d;let#[u,n,f]:=(i.b (cst x.2.2 w.2.1) x (nu w x.2.1 x.2.2) k #[(j x).mpr hx.rch,w.1,Zs.mpr #[w,mw,rfl]] d).resolve_right id;let#[z,p,b,e,l]:=ih u n;show#[z,p,b,e,?_];have:u.1<=k.1+cst x.2.2 w.2.1:=by unfold leP at f;dsimp only at f;rfl'
  rfl'
theorem WN{v w:gB}:nu v w.2.2 w.2.1=nu w v.2.2 v.2.1\/((nu v w.2.2 w.2.1)=(v.2.2,w.2.2,[])/\nu w v.2.2 v.2.1=(w.2.2,v.2.2,[])):=by
 unfold nu;rcases ŵ ↑v.2.1 ↑w.2.1 with h | h | h
 .rw [if_pos (ñ h),if_neg (Nat.not_le.mpr h)];show .inl rfl
 .right;rw [if_pos (ė h),if_pos (ė h.symm),Ĭ (ė h.symm),Ĭ (ė h)];show#[rfl,rfl]
 .rw [if_neg (Nat.not_le.mpr h),if_pos (ñ h)];show .inl rfl
def MS(wss:ϊ (ϊ gB))(rs:ϊ Int)(x:Sd)(c:Nat):Prop:=Pt wss rs x c\/(x.2.2=[]/\Pt wss rs (x.2.1,x.1,[]) c)\/ ∃(r1:Int)(w:gB),w∈wss.getD r1.toNat []/\x.2.1=w.2.2/\x.2.2=w.2.1/\Pt wss rs (x.1,r1,[]) c
theorem MS.sw{v w:gB}(h:Pt a rs (nu w v.2.2 v.2.1) c):MS a rs (nu v w.2.2 w.2.1) c:=by
 rcases WN (v:=v) (w:=w) with e | ⟨e1,e2⟩
 .show .inl (e▸h)
 .rw [e2] at h;rw [e1];show .inr (.inl #[rfl,h])
theorem MS.step{a:ϊ (ϊ gB)}(l: ∀ws∈a,∀w∈ws,1<=↑w.2.1){x:Sd}{v:gB}(h:MS a rs x c)(g:v∈a.getD x.1.toNat []):MS a rs (nu v x.2.1 x.2.2) (c+cst x.2.2 v.2.1):=by
 have d: ∀{r:Nat}{w:gB},w∈a.getD r []->1<=↑w.2.1:=λ {r w} b=>by
  rw [Yf] at b
  cases e:a[r]? with
  | none=>rw [e] at b;cases b
  | some ws=>rw [e] at b;show l ws (Xs e) w b
 have f: ∀{w:gB}{i:Int}{r:Nat},w∈a.getD r []->nu w i []=(i,w.2.2,w.2.1):=λ {w i r} b=>by
  unfold nu;rw [if_neg (by have:=d b;simp;intro e;rw [e] at this;simp at this)];rfl
 rcases h with h | ⟨e,h⟩ | ⟨r1,w,b,e1,e2,h⟩
 .show .inl (h.step g)
 .rw [e,f g,Bp];show .inr (.inr #[x.1,v,g,rfl,rfl,h])
 .have j:=h.step (w:=v) g;dsimp only at j;rw [f g,Bp] at j;have k:=j.step (w:=w) b;dsimp only at k;rw [e1,e2,xF];show MS.sw k
theorem MS.even(i: ∀ws∈a,∀w∈ws,1<=↑w.2.1){b:ϊ Int}{x:Sd}(h:MS a rs x c)(d:x.2.2=[])(f:x.1∈b)(g:x.2.1∈b): ∃y,Pt a rs y c/\nA b y=true:=by
 rcases h with h | ⟨_,h⟩ | ⟨r1,w,mw,_,e,_⟩
 .show #[_,h,by unfold nA;rw [d];simp [f,g]]
 .show #[_,h,by unfold nA;simp [f,g]]
 .rw [Yf] at mw
  cases e':a[r1.toNat]? with
  | none=>rw [e'] at mw;cases mw
  | some ws=>
   rw [e'] at mw;have:=i ws (Xs e') w mw;rw [<- e,d] at this;simp at this
theorem MS.two(k:r∈rs){v w:gB}(l:v∈a.getD r.toNat [])(m:w∈a.getD r.toNat [])(n:v≠w):MS a rs (nu v w.2.2 w.2.1) (cst w.2.1 v.2.1):=by
 let#[i,c]:=ó.mp l;let#[j,b]:=ó.mp m;have f:(a.getD r.toNat []).getD i default=v:=by rw [Yf,c];rfl
 have g:(a.getD r.toNat []).getD j default=w:=by rw [Yf,b];rfl
 have d:=(À.mp c).1;have e:=(À.mp b).1;rcases ŵ i j with h | h | h
 .show .inl (Pt.fork (z:=(v,w,r)) (ï.mpr #[r,k,ï.mpr #[j,í.mpr e,Zs.mpr #[i,í.mpr h,?_]]]));rw [f,g]
 .subst h;rw [c] at b;show absurd (Þ b) n
 .rw [xF];show MS.sw (Pt.fork (z:=(w,v,r)) (ï.mpr #[r,k,ï.mpr #[i,í.mpr d,Zs.mpr #[j,í.mpr h,?_]]]));rw [f,g]
section
theorem mV{r:Nat}{w:gB}(a:r<↑ds)(b:Hs.dr (ds.getD r []) w.1=!w.2.2)(c:Fo.lk ls w.1=!w.2.1):w∈(ds.map (aF ls)).getD r []:=by
 rw [uP a];have m:=Hs.kW b;rw [Yf,Qr a] at m;show î.mpr #[_,m,by rw [c];rfl]
theorem Mq(F: ∀ws∈ds.map (aF ls),∀w∈ws,1<=↑w.2.1): ∀(n:Nat){a b:ϊ gB}{i k l o c:Nat}{y:ϊ Nat},↑a+↑b<=n->Gw ls ds i a l->Gw ls ds k b o->MS (ds.map (aF ls)) rs ((i:Int),(k:Int),y) c->↑(bT a)=↑y+↑(bT b)->(l:Int)∈es->(o:Int)∈es-> ∃z,Pt (ds.map (aF ls)) rs z (c+Mm.b7 (bT a) (y++bT b))/\nA es z=true:=λ n=>by
 have A: ∀{q:ϊ gB}{r R:Nat},Gw ls ds r q R->↑(bT q)=0->q=[]:=λ {q r R} h e=>by
  cases q with
  | nil=>rfl
  | cons w q=>
   let#[u,C,D,_]:=h;have m:=mV u C D;rw [Yf,Wp,Qr u] at m;have:=F _ (Zs.mpr #[_,Ï u,rfl]) w m;rw [show bT (w::q)=w.2.1++bT q from rfl,Â] at e;rfl'
 induction n with
 | zero=>
  intro a b i k l o c y I g j x f p s;rw [Ŀ.mp (show ↑a=0 by rfl')] at g f ⊢;rw [Ŀ.mp (show ↑b=0 by rfl')] at j f ⊢;have J:y=[]:=Ŀ.mp (by rw [show↑(bT ([]:ϊ gB))=0 from rfl] at f;show f.symm);rw [J] at x ⊢;rw [show l=i from (show i=l from g).symm] at p;rw [show o=k from (show k=o from j).symm] at s;show x.even F rfl p s
 | succ n ih=>
  intro a b i k l o c y I g j x f p s
  cases a with
  | nil=>
   rw [show↑(bT ([]:ϊ gB))=0 from rfl] at f;have e:=A j ();subst e;show ih (by simp) g j x (by rw [show↑(bT ([]:ϊ gB))=0 from rfl] at f ⊢;show f) p s
  | cons v a=>
   let#[u,C,D,K,g]:=g;have t:=x.step F (v:=v) (by rw [show((i:Int),(k:Int),y).1.toNat=i from Ó _];show mV u C D);dsimp only at t;have H:((v.2.2.toNat:Nat):Int)=v.2.2:=Ě K;rw [show bT (v::a)=v.2.1++bT a from rfl,Â] at f;rw [show bT (v::a)=v.2.1++bT a from rfl];rw [è] at I;unfold nu cst at t;by_cases d:↑v.2.1<=↑y
   .rw [if_pos d,<- H,Ř d,Õ] at t;let#[z,G,E]:=ih () g j t (by rw [ì];rfl') p s;show#[z,?_,E];have B:Mm.b7 (v.2.1++bT a) (y++bT b)=Mm.b7 v.2.1 (y.take ↑v.2.1)+Mm.b7 (bT a) (y.drop ↑v.2.1++bT b):=by
     conv=>lhs;rw [<- Č ↑v.2.1 y,é]
     show Mm.fB (by rw [Ð];rfl')
    rw [B,<- Ĺ];show G
   .rw [if_neg d,<- H,ŋ (ñ (qnT d)),Õ] at t;let#[z,G,E]:=ih () j g t (by rw [ì];rfl') s p;show#[z,?_,E];have B:Mm.b7 (v.2.1++bT a) (y++bT b)=Mm.b7 (v.2.1.take ↑y) y+Mm.b7 (bT b) (v.2.1.drop ↑y++bT a):=by
     conv=>lhs;rw [<- Č ↑y v.2.1,é]
     rw [Mm.fB (by rw [Ð];rfl'),Mm.iz (v.2.1.drop ↑y++bT a)]
    rw [B,<- Ĺ];show G
theorem Mr(h: ∀ws∈ds.map (aF ls),∀w∈ws,1<=↑w.2.1)(b: ∀r∈rs,∀w∈(ds.map (aF ls)).getD r.toNat [],w.2.2∈rs): ∀{p q:ϊ gB}{r R a:Nat},(r:Int)∈rs->Gw ls ds r p R->Gw ls ds r q a->p≠q->↑(bT p)=↑(bT q)->(R:Int)∈es->(a:Int)∈es-> ∃z,Pt (ds.map (aF ls)) rs z (Mm.b7 (bT p) (bT q))/\nA es z=true
 | [],[],_,_,_,_,_,_,ne,_,_,_=>absurd rfl ne
 | [],w::q,r,R,a,mr,_,⟨h1,h2,h3,_⟩,_,e,_,_=>by
  have m:=mV h1 h2 h3;rw [Yf,Wp,Qr h1] at m;have:=h _ (Zs.mpr #[_,Ï h1,rfl]) w m;rw [show bT (w::q)=w.2.1++bT q from rfl,Â,show↑(bT ([]:ϊ gB))=0 from rfl] at e;rfl'
 | w::q,[],r,R,a,mr,⟨h1,h2,h3,_⟩,_,_,e,_,_=>by
  have m:=mV h1 h2 h3;rw [Yf,Wp,Qr h1] at m;have:=h _ (Zs.mpr #[_,Ï h1,rfl]) w m;rw [show bT (w::q)=w.2.1++bT q from rfl,Â,show↑(bT ([]:ϊ gB))=0 from rfl] at e;rfl'
 | v :: p, w :: q, r, R, a, mr, ⟨v1, v2, v3, v4, gp⟩, ⟨w1, w2, w3, w4, gq⟩, ne, e, e0, e1 => by
  have n:=mV v1 v2 v3;have o:=mV w1 w2 w3;have k:((v.2.2.toNat:Nat):Int)=v.2.2:=Ě v4;have l:((w.2.2.toNat:Nat):Int)=w.2.2:=Ě w4;rw [show bT (v::p)=v.2.1++bT p from rfl,show bT (w::q)=w.2.1++bT q from rfl] at e ⊢;by_cases c:v=w
  .subst c;rw [Â,Â] at e;let#[z,i,f]:=Mr h b (by rw [k];show b _ mr v (by rw [Ó];show n)) gp gq (λ z=>ne (by rw [z])) () e0 e1;show#[z,?_,f];rw [Mm.fB rfl,Mm.sO,ũ];show i
  .have g:=MS.two mr (v:=v) (w:=w) (by rw [Ó];show n) (by rw [Ó];show o) c;rw [Â,Â] at e;unfold nu cst at g;by_cases d:↑v.2.1<=↑w.2.1
   .rw [if_pos d,<- k,<- l,Ř d,Õ] at g;let#[z,i,f]:=Mq h _ (Ä _) gp gq g (by rw [ì];rfl') e0 e1;show#[z,?_,f];have j:Mm.b7 (v.2.1++bT p) (w.2.1++bT q)=Mm.b7 v.2.1 (w.2.1.take ↑v.2.1)+Mm.b7 (bT p) (w.2.1.drop ↑v.2.1++bT q):=by
     conv=>lhs;rw [<- Č ↑v.2.1 w.2.1,é]
     show Mm.fB (by rw [Ð];rfl')
    rw [j];show i
   .rw [if_neg d,<- k,<- l,ŋ (ñ (qnT d)),Õ] at g;let#[z,i,f]:=Mq h _ (Ä _) gq gp g (by rw [ì];rfl') e1 e0;show#[z,?_,f];have j:Mm.b7 (v.2.1++bT p) (w.2.1++bT q)=Mm.b7 (v.2.1.take ↑w.2.1) w.2.1+Mm.b7 (bT q) (v.2.1.drop ↑w.2.1++bT p):=by
     conv=>lhs;rw [<- Č ↑w.2.1 v.2.1,é]
     rw [Mm.fB (by rw [Ð];rfl'),Mm.iz (v.2.1.drop ↑w.2.1++bT p)]
    rw [j];show i
end
theorem uW{b:ϵ}: ∀{p:ϳ}{r r':Nat}{w:ϴ},Gw b a r p r'->r'<↑a->Hs.dr (a.getD r' []) w.1=!w.2.2->Fo.lk b w.1=!w.2.1->0<=w.2.2->Gw b a r (p++[w]) w.2.2.toNat
 | [],_,_,_,h,h1,h2,h3,h4=>by cases h;show#[h1,h2,h3,h4,rfl]
 | _::_,_,_,_,⟨a1,a2,a3,a4,g⟩,h1,h2,h3,h4=>#[a1,a2,a3,a4,uW g h1 h2 h3 h4]
theorem qu: ∀{xs ys:ϊ Nat},↑xs=↑ys->Mm.b7 xs ys=((List.range ↑xs).map λ x=>Bm.pop (xs.getD x 0^^^ys.getD x 0)).sum
 | [],[],_=>rfl
 | [],_::_,h=>by cases h
 | _::_,[],h=>by cases h
 | x::xs,y::ys,h=>by
  rw [è,ζ,Ç,Å,ġ,Mm.b7,qu (ŭ h)];rfl
theorem Dt{h:Nat}{b:ϊ Nat}(c:h<=60)(e:↑a=↑b)(g: ∀x∈a,x<2^h)(i: ∀y∈b,y<2^h):↑(Mm.jb a b)=Mm.b7 a b:=by
 have d: ∀{n:Nat},n<2^h->n<2^60:=λ {n} f=>Ô f (Nat.pow_le_pow_right (by decide) c)
 rw [Mm.CW (λ x m=>d (g x m)) λ y m=>d (i y m),qu e]
theorem Qy{d:ϊ Lz}(c:Fo.GoodL ht f)(e:d.map (λ z:Lz=>(z.2.1,z.2.2.2))=f.map (λ z:Lz=>(z.2.1,z.2.2.2))):Fo.GoodL ht d:=by
 have k:↑d=↑f:=by have:=Ö List.length e;rw [Qb,Qb] at this;show this
 have i: ∀z∈d,∃y∈f,y.2.1=z.2.1/\y.2.2.2=z.2.2.2:=λ z b=>by
  have:(z.2.1,z.2.2.2)∈f.map (λ z:Lz=>(z.2.1,z.2.2.2)):=by rw [<- e];show Zs.mpr #[z,b,rfl]
  let#[y,a,j]:=Zs.mp this;show#[y,a,Ö (·.1) j,Ö (·.2) j]
 show#[by rw [k];show c.pos,by rw [k];show c.le,?_,λ z b=> ?_,λ z b=> ?_,λ z b=> ?_]
 .have:=Ö (List.map Prod.fst) e;rw [Å,Å] at this;change(d.map (Prod.fst∘λ z:Lz=>(z.2.1,z.2.2.2))).Nodup;rw [this];show c.nd
 .obtain ⟨y,a,h,g⟩:=i z b;rw [<- h];show c.sg y a
 .obtain ⟨y,a,h,g⟩:=i z b;rw [<- g];show c.c1 y a
 .obtain ⟨y,a,h,g⟩:=i z b;rw [<- g];show c.cb y a
theorem xG{co:ϊ Nat}: ∀{ls:ϵ},(ls.map (·.1)).Nodup->(s,co)∈ls->Fo.lk ls s=!co
 | p::ls,hn,m=>by
  let#[a,b]:=û.mp hn;rw [Fo.gH];rcases È.mp m with e | m
  .rw [<- e,if_pos rfl]
  .rw [if_neg (λ e=>a (Zs.mpr #[_,m,e.symm]))];show xG b m
theorem Ms{h:Nat}{b:ϊ Nat}(k:h<=60)(g:a.Nodup)(i: ∀s∈a,Mm.On h ↑b s):↑(Mm.jb b (Mm.cZ b a))=↑a:=by
 have c: ∀x y:Nat,(b.getD x 0^^^(Mm.cZ b a).getD x 0).testBit y=decide (((x:Int),(y:Int))∈a):=by
  intro x y;rw [ŗ,Mm.sS x y a b i];have l:decide (a.count ((x:Int),(y:Int))%2=1)=decide (((x:Int),(y:Int))∈a):=by
   by_cases m:((x:Int),(y:Int))∈a
   .rw [g.count,if_pos m,Ø m];rfl
   .rw [List.count_eq_zero.mpr m,Ú m];rfl
  rw [l]
  cases (b.getD x 0).testBit y<;>simp
 show((List.perm_ext_iff_of_nodup (Mm.wM _ _) g).mpr λ s=> ?_).length_eq;rw [Mm.CV];constructor
 .rintro ⟨x,y,rfl,_,_,f⟩;rw [c] at f;show ô f
 .intro m;let#[d,j,e,n]:=i s m;show#[s.1.toNat,s.2.toNat,?_,Y8 d j,(),?_]
  .rw [show((s.1.toNat:Nat):Int)=s.1 by show An d,show((s.2.toNat:Nat):Int)=s.2 by show An e]
  .rw [c,show((s.1.toNat:Nat):Int)=s.1 by show An d,show((s.2.toNat:Nat):Int)=s.2 by show An e];show Ø m
theorem QB{b:ϵ}(h:a.Perm b)(d:(a.map (·.1)).Nodup)(s:ϐ):Fo.lk a s=Fo.lk b s:=by
 have c:(b.map (·.1)).Nodup:=(h.map _).nodup_iff.mp d
 cases e:Fo.lk a s with
 | some co=>show(xG c (h.mem_iff.mp (Fo.cH e))).symm
 | none=>
  cases e2:Fo.lk b s with
  | none=>rfl
  | some co=>rw [xG d (h.mem_iff.mpr (Fo.cH e2))] at e;cases e
section
variable{ls:ϵ}{ds:L2S}{es:ϊ Int}{S:ϊ Sd}{F:Sd->Nat×Nat->Prop}(hn: ∀ps∈ds,(ps.map (·.1)).Nodup)(hds: ∀ps∈ds,∀q∈ps,0<=q.2/\q.2<↑ds)(he: ∀e∈es,0<=e)(hD:Dj (Qm es S) (J2 (Rk ls (ds.map (aF ls))) S) F (λ _ _=>False))
include hn hds he hD
end
theorem Mt(h:(a.map (·.1)).Nodup):Hs.dr a s=!r↔(s,r)∈a:=by
 show#[Hs.kW,λ m=> ?_]
 cases e:Hs.dr a s with
 | none=>show absurd (Zs.mpr #[_,m,rfl]) (uN.mp e)
 | some r'=>
  have g:=Hs.kW e;let#[i,d,c]:=ā.mp m;let#[j,f,b]:=ā.mp g;have:i=j:=(ţ (h₀:=by rw [Qb];show d) (h₁:=by rw [Qb];show f) h).mp (by rw [ú,ú,c,b]);subst this;rw [c] at b;injection b with _ e2
  rw [e2]
theorem QC{b c:L1S}(h:b.Perm c)(d:(b.map (·.1)).Nodup)(s:ϐ):Hs.dr b s=Hs.dr c s:=by
 have a:(c.map (·.1)).Nodup:=(h.map _).nodup_iff.mp d;show Option.ext ?_;intro r;rw [Mt d,Mt a,h.mem_iff]
theorem Du(a b:L1S)(s:ϐ):Hs.dr (a++b) s=(Hs.dr a s).or (Hs.dr b s):=by
 unfold Hs.dr;rw [List.find?_append]
 cases a.find? λ p=>decide (p.1=s)<;>rfl
theorem Mu{f:Nat}(i:PdR ds a (tx [f]) ds')(g: ∀ps∈ds,Hs.dr ps (tx [f])=none)(o:0<=r)(p:r<(↑ds+1:Nat))(c:Nat):
  Hs.dr (ds'.getD r.toNat []) (tx [c])=if c=f then (if r∈a++[(↑ds:Int)] then !(↑ds:Int) else none) else Hs.dr (ds.getD r.toNat []) (tx [c]):=by
 let#[j,rfl]: ∃j:Nat,r=(j:Int):=#[r.toNat,()];rw [Ó];have h:j<↑ds':=by rw [i.1];rfl'
 let#[m,n]:=i.2 j ds'[j] (Qr h);have k:(ds++[[]]).getD j []=ds.getD j []:=by
  rw [Yf,Yf];rcases Đ j ↑ds with w | w
  .rw [ç w]
  .rw [ä w,ß w,show j-↑ds=0 by rfl'];rfl
 have l:Hs.dr (ds.getD j []) (tx [f])=none:=by
  rw [Yf];rcases Đ j ↑ds with w | w
  .rw [Qr w];show g _ (Ï w)
  .rw [ß w];rfl
 rw [getD_at (Qr h),QC m (K3 n),k,Du];by_cases d:c=f
 .subst d;rw [l,if_pos rfl];by_cases b:(j:Int)∈a++[(↑ds:Int)]
  .rw [if_pos b,if_pos b];change Hs.dr [(tx [c],(↑ds:Int))] (tx [c])=_;rw [Hs.lU,if_pos rfl]
  .rw [if_neg b,if_neg b];rfl
 .rw [if_neg d];have:Hs.dr (if (j:Int)∈a++[(↑ds:Int)] then [(tx [f],(↑ds:Int))] else []) (tx [c])=none:=by
   split
   .rw [Hs.lU,if_neg (λ e=>d (by have:=gV.mp e;simpa using this.symm))];rfl
   .rfl
  rw [this,Option.or_none]
theorem WP{h:Nat}(U:Fo.Wf h a)(M:MnV a ds f v): ∃mo:ύ Int,v=oI mo/\(∀m,mo=!m-> -1<=m)/\ ∀p R,Gw a ds 0 p R->(R:Int)∈f-> ∀b c,Gw a ds 0 b c->(c:Int)∈f->b≠p->↑(bT b)=↑(bT p)-> ∃m,mo=!m/\2*m<((Mm.b7 (bT p) (bT b):Nat):Int):=by
 let#[N,S,I,J,l,O,F,K]:=M;have A: ∀H∈ds.map (aF a),∀w∈H,1<=↑w.2.1:=λ H C w B=>by
  let#[W,Q,rfl]:=Zs.mp C;show(U.c1 _ (Fo.cH (oA B).1)).1
 have n: ∀r∈cL (ds.map (aF a)) N,∀w∈(ds.map (aF a)).getD r.toNat [],w.2.2∈cL (ds.map (aF a)) N:=λ r T w B=>by
  let#[k,d]:=ó.mp T;show wZ (Ô (À.mp d).1 J) d (Zs.mpr #[w,B,rfl])
 have u:((0:Nat):Int)∈cL (ds.map (aF a)) N:=by
  let#[E,e]:=qi (λ r:Int=>((ds.map (aF a)).getD r.toNat []).map (·.2.2)) 0 0 N;rw [ũ] at e;change(0:Int)∈cY _ 0 N;rw [e];show Ý _ Ë
 have g: ∀p R,Gw a ds 0 p R->(R:Int)∈f-> ∀b c,Gw a ds 0 b c->(c:Int)∈f->b≠p->↑(bT b)=↑(bT p)-> ∃z∈nO (ds.map (aF a)) (cL (ds.map (aF a)) N),∃k,jo I (lW z) k/\qT z+k.1<=Mm.b7 (bT p) (bT b):=λ p R j s b c i q t o=>by
  let#[y,G,x]:=Mr A n u j i (λ e=>t e.symm) o.symm s q;show G.low l F (0,0) ((F.e y #[(l y).mpr G.rch,x]).resolve_right id)
 rcases K with ⟨rfl,hn⟩ | ⟨L,rfl,hex,hmin⟩
 .show #[none,rfl,(λ m e=>by cases e),λ p R j s b c i q t o=> ?_];let#[z,D,k,d,_]:=g p R j s b c i q t o;show absurd d (hn z D k)
 .show #[!(((L:Int)-1) / 2),rfl,λ m e=>by cases e;rfl',λ p R j s b c i q t o=> ?_];let#[z,D,k,d,P]:=g p R j s b c i q t o;have:=hmin z D k d;show#[_,rfl,()]
theorem WQ{h:Nat}{c:ϊ Int}{k:Nat}(n:Fo.Wf h a)(g: ∀ps∈ds,∀q∈ps,0<=q.2/\q.2<↑ds)(w: ∀ps∈ds,(ps.map (·.1)).Pairwise qM)(L:1<=↑ds)(U:Gw a ds 0 p R)(mR:(R:Int)∈c)(r: ∀d z,Gw a ds 0 d z->(z:Int)∈c->d≠p->↑(bT d)=↑(bT p)-> ∃m,mo=!m/\2*m<((Mm.b7 (bT p) (bT d):Nat):Int))(f:↑Z=↑(bT p))(i:Mm.b7 (bT p) Z=k)(s: ∀m,mo=!m->k=0\/(k:Int)<=m): ∃t,Bk a Z ds c=!t/\(∀m,mo=!m->m<0->t.2.1=0/\1<=t.2.2)/\((∀m,mo=!m->0<=m)->t.1=p/\t.2.1=k/\t.2.2=1):=by
 have o: ∀ps∈ds,(ps.map (·.1)).Nodup:=λ ps G=>dY (w ps G)
 have P:IsP a Z ds c (Kf a Z ds c):=Kg n;have E:Bk a Z ds c=(((Kf a Z ds c).getD 0 []).getD 0 none).map λ t=>(nF a Z (ds.map (aF a)) (Kf a Z ds c) ↑Z 0 0,t.1,t.2):=rfl
 generalize Kf a Z ds c=rows at P E;have B:=P.best n g ↑Z 0 0 (æ _) (Ä _) L;have D:p∈PT (ds.map (aF a)) c ↑Z ↑Z 0:=by
  have:=Kp n mR p ↑Z 0 U (n6 (f.symm) (Ä _));rw [<- f] at this;show this
 rw [Nat.sub_zero,Ź] at B;rcases xx ((PT (ds.map (aF a)) c ↑Z ↑Z 0).map λ p=>Mm.b7 (bT p) Z) with ⟨_,b⟩ | ⟨t,b1,b2,b3,b4⟩
 .rw [List.map_eq_nil_iff] at b;rw [b] at D
  cases D
 rw [b1] at B;have n1:t.1<=k:=by rw [<- i];show b3 _ (Zs.mpr #[p,D,rfl])
 have I:1<=t.2:=by rw [b4];show List.countP_pos_iff.mpr #[t.1,b2,by simp]
 let#[R0,J,X,F,C]:=P.path n g o ↑Z 0 0 t (æ _) L (Ä _) B;have v:nF a Z (ds.map (aF a)) rows ↑Z 0 0∈PT (ds.map (aF a)) c ↑Z ↑Z 0:=by
  have:=Kp n X _ ↑Z 0 J (ė F);rw [show↑(bT (nF a Z (ds.map (aF a)) rows ↑Z 0 0))=↑Z by show F] at this;show this
 rw [B] at E;show#[_,E,λ m A hm=>#[?_,I],λ Q=> ?_]
 .show t.1=0;rcases s m A with e | e<;>rfl'
 dsimp only;generalize nF a Z (ds.map (aF a)) rows ↑Z 0 0=path at J F C v;rw [Ź] at C;have Hi: ∀d∈PT (ds.map (aF a)) c ↑Z ↑Z 0,Mm.b7 (bT d) Z<=k->d=p:=λ d j W=>by
  show Decidable.byContradiction λ ne=> ?_
  let#[z,O,Y,K]:=Kq o g _ _ _ d j;let#[m,A,h2]:=r d z O Y ne (Eq.trans K f);have H:=Mm.wK (bT p) Z (bT d) f.symm K.symm;rw [i,Mm.iz Z] at H;have:=Q m A;rcases s m A with e | e<;>rfl'
 have M:=Hi path v (n6 C n1);subst M;have N:t.1=k:=Eq.trans (C.symm) i;show#[rfl,N,Nat.le_antisymm ?_ I];rw [b4,List.countP_map,List.countP_eq_length_filter];have u:(PT (ds.map (aF a)) c ↑Z ↑Z 0).Nodup:=Ŝ (λ {x y} h e=>by rw [e] at h;show œ _ h) (Dr (es:=c) (Wb n w) ↑Z ↑Z 0);show eX (l:=(PT (ds.map (aF a)) c ↑Z ↑Z 0).filter ((λ x=>decide (x=t.1))∘λ p=>Mm.b7 (bT p) Z)) (m:=[path]) (u.filter _) λ d j=>by
  let#[S,T]:=đ.mp j;have h5:Mm.b7 (bT d) Z=t.1:=ô T;rw [Hi d S ()];show Ë
theorem Br{j:ϵ}{f b:L2S}{u:ϊ Int}{c t:Nat}(o:PdR f u (tx [c]) b)(i:Wm j f c t)(n:Hs.Wf f){a:ϊ Nat}(h: ∀x∈a,x≠c/\ ∃d,Fo.lk j (tx [x])=!d): ∀k,k<=↑a-> ∀r,Hs.go f (a.take k)=!r-> ∃p,Gw j b 0 p r.toNat/\bT p=Fo.jU j (a.take k)/\p.map (·.1)=(a.take k).map λ c=>tx [c]
 | 0,_,r,e=>by
  cases e;show#[[],rfl,rfl,rfl]
 | k+1,hk,r,e=>by
  let#[x,s]: ∃x,a[k]? =!x:=#[_,Qr hk];have m:a.take (k+1)=a.take k++[x]:=by rw [Í,s];rfl
  let#[y,d,q]:=h x (Xs s);rw [m,Hs.uz] at e
  cases er:Hs.go f (a.take k) with
  | none=>rw [er] at e;cases e
  | some r0=>
   rw [er] at e;replace e:Hs.dr (f.getD r0.toNat []) (tx [x])=!r:=e;let#[p,g,z,A]:=Br o i n h k (Nat.le_of_succ_le hk) r0 er;let#[v,B]:=Hs.wU n er;have w:0<=r:=by
    show(n.rm _ ?_ _ (Hs.kW e)).1;rw [Yf,Qr ()];show Ï _
   have l:Hs.dr (b.getD r0.toNat []) (tx [x])=!r:=by
    rw [Mu o i.2.1 v () x,if_neg y];show e
   show#[p++[(tx [x],d,r)],uW g (by rw [o.1];rfl') l q w,?_,?_]
   .rw [m,Fo.pP,show Fo.cl j x=d by unfold Fo.cl;rw [q];rfl,<- z];unfold bT;rw [Jn,List.flatten_append];simp
   .rw [m,Jn,Jn,A];rfl
theorem xH{k:ϵ}{b:L2S}{j:ϊ Int}{c h:Nat}(o:PdR b j (tx [c]) a)(d:Wm k b c h){e:Nat}(q:Gw k a 0 f e)(t:(e:Int)∈j)(s:e<↑b): ∀n,∃(p:ϳ)(R:Nat),Gw k a 0 p R/\(R:Int)∈j++[(↑b:Int)]/\R<=↑b/\bT p=bT f++List.replicate n h/\p.map (·.1)=f.map (·.1)++List.replicate n (tx [c])
 | 0=>#[f,e,q,Ý _ t,ñ s,by simp,by simp]
 | n+1=>by
  let#[p,R,g,m,l,u,v]:=xH o d q t s n;have i:Hs.dr (a.getD R []) (tx [c])=!(↑b:Int):=by
   have:=Mu o d.2.1 (r:=(R:Int)) () () c;rw [if_pos rfl,if_pos m] at this;show this
  show#[p++[(tx [c],[h],(↑b:Int))],↑b,uW g (by rw [o.1];rfl') i d.1 (Κ _),Ü _ (by simp),Ä _,?_,?_]
  .rw [ż,<- é,<- u];unfold bT;rw [Jn,List.flatten_append];simp
  .rw [Jn,v,ż,<- é];rfl
theorem QD(e:p.map (·.1)=a.map (λ c=>tx [c])++List.replicate n (tx [c]))(b: ∀x∈a,x≠c):Wr c (Ws p)=a:=by
 rw [Lk (cs:=a++List.replicate n c) (by rw [e,Jn,List.map_replicate]),lX,uV];intro x d;show b x (List.mem_of_getLast? d)
inductive sp_f76(K:Ϗ)(vs:ϊ V)(H:Hp)(Q:VK)(E:XK):Prop
 | mk (a:ό) (b:ϊ Int) (c:vs=[.ref a]) (d:SqL K H a (b.map V.int)) (e:↑b<=63) (f: ∀H',Q (.bl true) H')
abbrev Mv K:=(aA (aJ (lF [none,!14,!0,!2,!11,!16] (gF (cM (dF K qd))) (ak 0) dB (bA (sp_f15 K) (dH b8 (dH bJ (DP aX cF d7 gw))))) (ak 17))
  (aP (bA (sp_f0 K) (lY (bA (sp_f39 K) (DP uZ Rf gw (bA (sp_f35 K) (bK bJ Ht)))) qd a0x))))
abbrev Mw K:=(aA (cu (bN K Ht) (ak 15) (bf (aU (aN tM (dF K a0v) Dg)) (aP (tC (V.bl false))) aV))
  (aA (aJ (bA (sp_f25 K) (lY uZ Rf gw)) (ak 16))
  (aA (bf (aU (aN uX a0w (QJ ph (tI 1)))) (aP (tC (V.bl true))) aV)
  (aA (aJ (gA (fY K) (cM Ht)) (ak 14))
  (Mv K)))))
abbrev Mx K:=(aA (bf (Dw (fV (fJ K (gA (cR K) (bK Dh (tC (V.ty "list")))))) (aU (aN tM (dF K Dh) (dF K qd)))) (aP (tC (V.bl false))) aV)
  (aA (aJ (bA (sp_f65 K) (bK bJ Dh)) (ak 14))
  (aA (bf (fV (fJ K (bA (sp_f24 K) (bK Ht (aN jj bJ (dF K qd)))))) (aP (tC (V.bl false))) aV)
  (Mw K))))
abbrev My K:=(aA (bf (Dw (fV (fJ K (gA (cR K) (bK qd (tC (V.ty "list")))))) (Dw (fV (fJ K (bA (sp_f24 K) (bK qd (dF K qd))))) (aU (aN tM (qx K "str" (rJoin K) (tC (V.str (Str.ofString " "))) (cM qd)) Hr)))) (aP (tC (V.bl false))) aV)
  (aA (aJ (bA (sp_f73 K) (dH uZ (DP Rf gw (gA (fY K) (cM qd)) Dg))) (ak 13))
  (Mx K)))
abbrev Mz K:=(aA (aJ (bA (sp_f10 K) (bK aX (BW vQ d7 dJ (gh cF)))) (ak 10))
  (aA (aJ (aN bZ (bA (sp_f13 K) (bK Hr Qj)) (aN di (bA (sp_f29 K) (bK b8 (tI 3))) (tI 10))) (ak 11))
  (aA (aJ (bA (sp_f60 K) (lY uZ Hr Dg)) (ak 12))
  (My K))))
abbrev MF K:=(aA (aJ (bA (sp_f41 K) (bK bJ (lF [none,none] (bN K jV) (ie K 2 (bD (ak 0) (bD (ak 1) iK))) dB (dI (bK aX (gA (fY K) (cM b8))))))) (ak 7))
  (aA (aJ (gA (j7 K) (cM jV)) (ak 8))
  (aA (aJ (bA (sp_f5 K) (bK (bA (sp_f9 K) (bK aX (tI 2))) (aN bc (BW vQ d7 dJ (gh cF)) (tC (V.str (Str.ofString " ")))))) (ak 9))
  (Mz K))))
abbrev MJ K:=(aA (aJ (bA (sp_f6 K) (bK (bA (sp_f9 K) (bK aX (tI 1))) (tI 4))) (ak 4))
  (aA (aJ (aN oV d7 cF) (ak 5))
  (aA (aJ (bA (sp_f1 K) (lY (bA (sp_f9 K) (bK aX (tI 2))) (aN bc (aN bc (BW vQ d7 dJ (gh cF)) (tC (V.str (Str.ofString " ")))) gw) bJ)) (ak 6))
  (MF K))))
abbrev MK K:=(aA (aJ (aN bZ (tI 3) (aN di b8 (tI 18))) (ak 2))
  (aA (bf (aU (aN uX (aN di (bA (sp_f29 K) (bK b8 (tI 1))) (tI 6)) (tI 0))) (aJ (aN bZ (tI 1) (aN di b8 (tI 60))) (ak 2)) aV)
  (aA (aJ (aN bZ (tI 1) (aN di (bA (sp_f29 K) (bK b8 (tI 2))) (tI 3))) (ak 3))
  (MJ K))))
abbrev MN K(E:XK)(Eh:XK):=(aA (aJ (bA (sp_f9 K) (bK aX (tI 0))) (ak 1))
  (MK K))
abbrev qw:ϊ ϐ:=sN ["script","cell","height","many","signs","filler","letters","font","pictures","house","text","wide","rows","strips","lines","line","most","turned_over"]
theorem WR(h:sp_f76 K vs H Q E):RG (MN K E) qw vs H Q:=by
 let#[a,ns,rfl,M,df,q]:=h;show#[E0,?_];apply#[a,ns,0,rfl,M,?_];generalize Mm.cellAt ns 0=cl;show lQ ?_;walk_at "gj";let#[b4,ek,fv]:=Mm.fc cl 18 (by decide);rw [show cl%18=(b4:Int) from ek,show(3:Int)+(b4:Int)=((3+b4:Nat):Int) from rfl];walk_at "ns";with_reducible show mH (λ c4 U=>(An2 (U=H) (Ex1 λ (B:Nat)=>(An3 (1<=B) (B<=60) (c4=[!(.ref a),!(.int cl),!(.int (B:Nat)),none,none,none,none,none,none,none,none,none,none,none,none,none,none,none]))))) ?_ ?_
 rotate_left
 .intro N hN;apply#[cl,1,rfl,by decide,λ mx _ _=> ?_];apply fL (λ c=> ?_) λ c=> ?_
  .symm;let#[b5,el,fk]:=Mm.fc cl 60 (by decide);rw [show cl%60=(b5:Int) from el,show(1:Int)+(b5:Int)=((1+b5:Nat):Int) from rfl];show hN _ _ #[rfl,1+b5,(),(),rfl]
  .symm;show hN _ _ #[rfl,3+b4,(),(),rfl]
 rintro _ _ ⟨rfl,B,cn,ae,rfl⟩;rename_i H;apply#[cl,2,rfl,by decide,λ mx _ _=> ?_];let#[my,et,fn,fq]: ∃m:Nat,(1:Int)+mx%3=(m:Int)/\1<=m/\m<=3:=#[(1+mx%3).toNat,(),(),()];symm;rw [et];show#[a,ns,1,rfl,M,?_];apply#[_,rfl,λ cs H0 s0 fw dp aw=> ?_];replace M:=s0.seq M;clear s0;let#[c,bl]: ∃c,cs[my]? =!c:=#[_,Qr ()];apply lR (c:=c) (by rw [aM];rfl') (aQ (by rw [gU];show bl)) ?_;have mc:=Xs bl;have br: ∀{Q:VK}{U:Hp},Q (.str (tx (cs.take my))) U->vQ (.str (tx cs)) none (!(my:Int)) U Q:=λ h=>Hb (by rw [aM];rfl') (by rw [R9 ()];show h)
 have a5: ∀{Q:VK}{U:Hp},Q (.str (tx (cs.take my++[32]))) U->bc (.str (tx (cs.take my))) (.str (Str.ofString " ")) U Q:=λ h=>fM (by rw [aM,Ð];change _+1<=_;rfl') (by rw [show Str.ofString " "=tx [32] from rfl,eV];show h)
 have cr:c∉cs.take my:=λ m=>by
  let#[j,hj]:=ó.mp m;have e4:=(À.mp hj).1;rw [Ð] at e4;rw [List.getElem?_take_of_lt ()] at hj;have:=(List.getElem?_inj () dp).mp (hj.trans bl.symm);rfl'
 have af: ∀x∈cs.take my++[32],Hs.Sg (tx [x])/\x≠c:=λ x mx=>by
  rcases Æ.mp mx with mx | mx
  .show #[(aw x (ħ mx)).1,λ z=>cr (by rw [<- z];show mx)]
  .rw [Zp.mp mx];show#[#[0,by ac_nf],λ z=>(aw c mc).2 z.symm]
 have bi:(cs.take my++[32]).Nodup:=à.mpr #[dp.sublist (Ď _ _),by simp,λ u mu w mw e=>by rw [Zp.mp mw] at e;show(aw u (ħ mu)).2 e];have bg:↑(cs.take my++[32])<=4:=by rw [Â,Ð];simp;rfl'
 have a4:32∉cs.take my:=λ m=>(aw 32 (ħ m)).2 rfl
 have bv:1<=↑(cs.take my)/\↑(cs.take my)<=10:=by rw [Ð];rfl'
 have ey:=(aw c mc).1;clear aw bl mc;apply#[a,ns,2,rfl,M,?_];apply br ?_;apply a5 ?_;symm;generalize cs.take my=ct at br a5 cr af bi bg a4 bv;show fM (by rw [aM];change _+1<=_;rfl') ?_;rw [show(#[([c].toArray)]:ϐ)=tx [c] from rfl,eV];apply#[_,ct++[32]++[c],B,rfl,by simp,by rw [Â];simp at bg ⊢;rfl',ae,λ lt H1 X s1 as O av a7=> ?_];replace M:=s1.seq M;clear s1;have eh:↑X<=5:=by
  have:=Ö List.length av;rw [Qb,Qb,Â] at this;simp at this bg;rfl'
 have d8: ∀x∈ct++[32]++[c],Hs.Sg (tx [x]):=λ x mx=>by
  rcases Æ.mp mx with mx | mx
  .show (af x mx).1
  .rw [Zp.mp mx];show ey
 have d1:(ct++[32]++[c]).Nodup:=à.mpr #[bi,by simp,λ u mu w mw e=>by rw [Zp.mp mw] at e;show(af u mu).2 e];have bp:(X.map (·.2.1)).Nodup:=by
  rw [av];show List.Pairwise.map _ (λ {a b} n e=>n (List.cons.inj (gV.mp e)).1) d1
 have cm:Fo.GoodL B X:=by
  show#[?_,(),bp,λ z mz=> ?_,λ z mz=> ?_,λ z mz=>(O z mz).2.2.2.2]
  .have:=Ö List.length av;rw [Qb,Qb,Â] at this;simp at this;rfl'
  .have:z.2.1∈X.map (·.2.1):=Zs.mpr #[z,mz,rfl];rw [av] at this;let#[x,mx,e]:=Zs.mp this;rw [<- e];show d8 x mx
  .show #[(O z mz).2.2.1,(O z mz).2.2.2.1]
 apply wQ (λ z:Lz=>V.ref z.1) (zs:=X) (SqL.of as) (d9 eh) (λ i ys U=>(Ex1 λ (ws:ϊ Lz)=>(An4 (ys=ws.map (λ z:Lz=>V.ref z.1)) (ws.map (λ z:Lz=>(z.2.1,z.2.2.2))=(X.take i).map (λ z:Lz=>(z.2.1,z.2.2.2))) (Same H1 U) (∀z∈ws,U z.1=!(.tup [.str z.2.1, .ref z.2.2.1])/\U z.2.2.1=!(.lst (nv z.2.2.2)))))) #[[],rfl,rfl,Same.refl _,by simp] ?_ ?_ ?_ ?_
 .rintro i ys U ⟨ws,rfl,_,s',_⟩;show SqL.of (s'.get as)
 .rintro i ys U ⟨ws,rfl,e,_⟩;have:=Ö List.length e;rw [Qb,Qb,Ð] at this;rw [Qb];show Y9 this
 .rintro i ⟨b,s,ca,co⟩ ys U hi ⟨ws,rfl,e,s',hw⟩;let#[t1,t2,_]:=O _ (Xs hi);dsimp only at t1 t2;show cU (SqT.of (s'.get t1)) rfl ?_;apply pN (SqL.of (s'.get t2)) λ c2 cp=> ?_
  symm;intro t B;show#[ws++[(t,s,c2,co)],by simp,by rw [Jn,e,Í,hi,Jn];rfl,(s'.new cp).new B,λ z mz=> ?_];rcases Æ.mp mz with mz | mz
  .obtain ⟨g1,g2⟩:=hw z mz;show#[aH B (aH cp g1),aH B (aH cp g2)]
  .rw [Zp.mp mz];show#[aa,aH B aa]
 rintro ys U ⟨ws,rfl,e,s',hw⟩ lr bo;rw [Õ] at e;apply#[B,lr,ws,rfl,cn,ae,#[aa,λ z mz=>#[aH bo (hw z mz).1,aH bo (hw z mz).2]],Qy cm e,λ f H3 G s3 Z ag=> ?_];replace ag:Fo.Of X G:=#[by rw [<- e];show ag.1,ag.2];have wf:=cm.wf ag;have S3:Same H1 H3:=(s'.new bo).trans s3;replace M:=S3.seq M;replace as:=S3.get as;replace O: ∀z∈X,LtB H3 B z:=λ z mz=>(O z mz).same S3
 clear S3 s3 s' hw bo e;apply Qa (zs:=X.map λ z:Lz=>(z.1,z.2.1,V.ref z.2.2.1)) (by rw [Å];show as) (λ z m=> ?_) (by rw [Å];show bp) (by rw [Qb];show d9 eh) λ d hd=> ?_
 .obtain ⟨y,my,rfl⟩:=Zs.mp m;show SqT.of (O y my).1
 rw [Å];let#[H4,be]: ∃H4,H4=upd H3 d (HO.dK (X.map ((λ z:ό×ϐ×V=>((Sum.inr z.2.1:Key),z.2.2))∘λ z:Lz=>(z.1,z.2.1,V.ref z.2.2.1)))):=#[_,rfl];have s4:Same H3 H4:=by rw [be];show aq hd _
 have ed:H4 d=!(HO.dK (kvZ X)):=by rw [be];show aa
 rw [<- be];clear be;replace M:=s4.seq M;replace O: ∀z∈X,LtB H4 B z:=λ z mz=>(O z mz).same s4
 replace Z:=Z.same s4;clear s4 hd as;have f2:↑G=↑X:=by rw [ag.1.length_eq,Qb]
 have bn: ∀s,Fo.lk (lsZ X) s=Fo.lk G s:=λ s=>(QB ag.1 (dY ag.2) s).symm
 have cq: ∀x∈ct++[32]++[c],∃z∈X,Fo.lk G (tx [x])=!z.2.2.2/\z.2.1=tx [x]:=λ x mx=>by
  have:tx [x]∈X.map (·.2.1):=by rw [av];show Zs.mpr #[x,mx,rfl]
  let#[z,mz,e]:=Zs.mp this;show#[z,mz,?_,e];rw [<- bn,<- e];show xG (by rw [Å];show bp) (Zs.mpr #[z,mz,rfl])
 let#[J,dy]: ∃J,Fo.lk G (tx [c])=![J]:=by
  let#[z,mz,e1,e2]:=cq c (by simp);let#[zl,ez]: ∃zl,X.getLast?=!zl:=by
   rw [List.getLast?_eq_some_getLast (List.ne_nil_of_mem mz)];show#[_,rfl]
  have h1:zl.2.1=tx [c]:=by
   have h2:(X.map (·.2.1)).getLast?=!zl.2.1:=by rw [List.getLast?_map,ez];rfl
   rw [av,Jn,ş] at h2;show(Þ h2).symm
  have h3:=xG (s:=tx [c]) (co:=zl.2.2.2) (ls:=lsZ X) (by rw [Å];show bp) (Zs.mpr #[zl,List.mem_of_getLast? ez,by rw [<- h1]]);let#[J,e0]: ∃J,zl.2.2.2=[J]:=List.length_eq_one_iff.mp (a7 zl ez);show#[J,by rw [<- bn,h3,e0]]
 have a6: ∀x∈ct++[32],∃d,Fo.lk G (tx [x])=!d:=λ x mx=>by
  let#[z,_,e,_]:=cq x (Ý _ mx);show#[_,e]
 clear cq a7 cm d1 d8 ag;walk_at "ns";apply#[a,ns,2,rfl,M,?_];apply br ?_;apply a5 ?_;apply#[_,ct++[32],rfl,d9 bg,bi,λ x mx=>(af x mx).1,λ ha H5 ds es s5 hH gd fy ab b6=> ?_];replace M:=s5.seq M;replace O: ∀z∈X,LtB H5 B z:=λ z mz=>(O z mz).same s5
 replace Z:=Z.same s5;replace ed:=s5.get ed;clear s5;apply br ?_;apply#[a,ns,ct,rfl,M,df,bv.1,bv.2,a4,λ t ee ec eb=> ?_];have a9: ∀x∈t,x∈ct++[32]:=λ x mx=>(ec x mx).elim (λ h=>Ý _ h) λ h=>by rw [h];simp
 have bs: ∀x∈t,∃d,Fo.lk G (tx [x])=!d:=λ x mx=>a6 x (a9 x mx)
 apply#[d,X,G,t,B,rfl,ed,O,bn,wf,d9 ee,λ w mw x mx=>bs x (Tn.lV mw mx),λ m H6 s6 hm eg=> ?_];apply#[cl,3,rfl,by decide,λ mx _ _=> ?_];let#[b3,da,fm]:=Mm.fc mx 10 (by decide);symm;rw [show mx%10=(b3:Int) from da,show(m:Int)+(b3:Int)=((m+b3:Nat):Int) from rfl];let#[F,de,b2]: ∃F,F=m+b3/\F<=900:=#[_,rfl,()];rw [<- de];replace M:=s6.seq M;replace Z:=Z.same s6;have L:=hH.same s6;clear s6 O ed bn hH;walk_at "ns";apply#[f,B,G,t,F,rfl,Z.t,wf,d9 ee,bs,a6 32 (by simp),eb,λ w mw=>Ò (eg w mw) (),λ rr H7 A s7 D d4 bm d6=> ?_];replace M:=s7.seq M;replace Z:=Z.same s7;replace L:=L.same s7;clear s7 eg hm de;replace d4:↑A<=71:=()
 have a8: ∀r∈A,∀x∈r,x∈t:=λ r I x mx=>by rw [<- bm];show Tn.sX I mx
 have cx: ∀r∈A,∀x∈r,x≠c/\ ∃d,Fo.lk G (tx [x])=!d:=λ r I x mx=>#[(af x (a9 x (a8 r I x mx))).2,bs x (a8 r I x mx)]
 have d5: ∀r∈A,↑r<=70:=λ r I=>by
  have:=Tn.pW (c:=32) (w:=r) (ws:=A) I;rw [bm] at this;rfl'
 have bb:Hs.Wf ds:=#[gd.r1,λ W Y p m=>(gd.sg W Y p m).2];have dz: ∀r∈A,∃e,Hs.go ds r=!e/\e∈es:=λ r I=>by
  let#[e,he]:=M7 bb (cs:=r) (λ W ai x mx=>by
   have m1:tx [x]∈W.map (·.1):=(ab W ai).mem_iff.mpr (Zs.mpr #[x,a9 x (a8 r I x mx),rfl])
   cases h:Hs.dr W (tx [x]) with
   | none=>show absurd m1 (uN.mp h)
   | some v=>show#[v,rfl]) ↑r
  rw [Õ] at he;let#[g0,g1]:=Hs.wU bb he;show#[e,he,?_];have:=b6 e.toNat ();rwa [Ě g0] at this
 have dk: ∀r∈A,RwO G ds es F r:=λ r I=>by
  let#[e,h1,h2]:=dz r I;show#[d9 (d5 r I),λ x mx=>(cx r I x mx).2,?_,d6 r I];rw [h1,show ov (!e)= .int e from rfl,nY];show Ø h2
 have d2: ∀W∈ds,Hs.dr W (tx [c])=none:=λ W ai=>uN.mpr λ m=>by
  let#[x,mx,e]:=Zs.mp ((ab W ai).mem_iff.mp m);show(af x mx).2 (List.cons.inj (gV.mp e)).1
 have e5: ∀W∈ds,W.length<=4:=λ W ai=>by
  have:=(ab W ai).length_eq;rw [Qb,Qb] at this;rfl'
 have ax:Wm G ds c J:=#[dy,d2,()];have ea: ∀r∈A,∀x∈r,x<1114112:=λ r I x mx=>by
  let#[n,en]:=(af x (a9 x (a8 r I x mx))).1;rw [(List.cons.inj (gV.mp en)).1];show Hs.yO n
 clear d6 b6 ab d2 dy a6 bs a9 ec eb af bi cr a4 bv a8;apply cW (.lst D) (b:=true) rfl ?_;apply bQ (SqL.of D) ?_;rw [Qb];apply#[rr,A,A.length,rfl,D,rfl,?_];symm;have cb: ∀(xs:ϊ (ϊ Nat)),(xs.map List.length).sum<=↑(Tn.bj 32 xs):=λ xs=>by
  induction xs with
  | nil=>show Ä _
  | cons x r ih=>
   cases r with
   | nil=>simp [Tn.bj]
   | cons y r=>
    rw [Ç,ġ];change _<=↑(x++32::Tn.bj 32 (y::r));rw [Â,è];rfl'
 show yN (ys:=A.map tx) (SqL.of (by rw [Å];show D)) ?_ ?_
 .have:=cb A;rw [bm] at this;rw [Å,Qb,show↑(Str.ofString " ")=1 from rfl,Nat.mul_one,show((λ s:ϐ=>↑s)∘tx)=List.length from funext λ l=>aM l];rfl'
 rw [show Str.ofString " "=#[([32].toArray)] from rfl,Tn.Qd,bm];symm;clear cb;show pN (SqL.of D) λ fa b9=> ?_
 have s8:=aq (o:=HO.lst (A.map λ l=>V.str (tx l))) b9;symm;walk_at "ns";show#[f,ha,fa,B,G,ds,es,c,J,A,F,rfl,(Z.same s8).t,wf,(L.same s8).g,gd,bb,ax,SqL.of aa,(),dk,(),λ c3 pg H9 _ _ s9 ap al=> ?_];have S9:=s8.trans s9;replace M:=S9.seq M;replace Z:=Z.same S9;replace L:=L.same S9;replace D:=S9.get D;clear S9 s9 s8 b9;have cc:↑c3=↑A:=by have:=Ö List.length al;rw [Qb,Qb] at this;show this
 have ay: ∀r∈A,↑(qC G J F r)=F/\ ∀x∈qC G J F r,x<2^B:=λ r I=>by
  unfold qC;have:=(dk r I).2.2.2;show#[by rw [Â,ê];rfl',λ x mx=> ?_];rcases Æ.mp mx with mx | mx
  .show wf.pic_lt r x mx
  .rw [(List.mem_replicate.mp mx).2];show wf.cb _ (Fo.cH ax.1) J (by simp)
 have ei: ∀z∈c3,↑z.2=F:=λ z mz=>by
  have:z.2∈A.map (qC G J F):=by rw [<- al];show Zs.mpr #[z,mz,rfl]
  let#[r,I,e]:=Zs.mp this;rw [<- e];show(ay r I).1
 apply cW (.lst ap.1) (b:=true) rfl ?_;apply bQ (SqL.of ap.1) ?_;apply bQ (SqL.of D) ?_;apply eQ (by rw [Qb,Qb,cc]) ?_;apply#[B,pg,c3,F,rfl,ap,ae,(),d9 b2,ei,λ li c5 bd ac=> ?_];rw [al] at ac;replace M:=bd.seq M;replace Z:=Z.same bd;replace L:=L.same bd;replace D:=bd.get D;clear bd ap al cc ei;have dt:↑((A.map (qC G J F)).flatMap (Mm.draw B))=↑A*B:=by rw [Mm.dZ,Qb]
 have fl:↑A*B<=71*60:=υ d4 ae;apply bQ (SqL.of D) ?_;rw [Qb];apply#[li,_,A.length*B,by rw [Ž];rfl,ac,dt,?_];apply cV (λ l:ϊ Nat=>V.str (tx l)) (SqL.of ac) (λ i σ U=>(An2 (U=c5) (Ex1 λ o=>σ=[!(V.ref a),!(.int cl),!(.int (B:Nat)),!(.int (my:Nat)),!(.str (tx cs)),!(.str (tx [c])),!(.ref lt),!(.ref f),!(.ref d),!(.ref ha),!(.str (tx t)),!(.int (F:Nat)),!(.ref rr),!(.ref pg),!(.ref li),o,none,none]))) #[rfl,none,rfl] (λ i σ U z=>by rw [z.1];show SqL.of ac) ?_ ?_
 .rintro i l σ _ hl ⟨rfl,o,rfl⟩;have ml:=Xs hl;have e6:↑l=F:=by
   let#[s,ms,ml]:=ï.mp ml;let#[y,_,rfl]:=Mm.pM ml;let#[r,I,rfl]:=Zs.mp ms;rw [Mm.iC,(ay r I).1]
  apply jc (by rw [aM];rfl') ?_;rw [aM];apply eQ (by rw [e6]) ?_;apply#[rfl,_,rfl]
 rintro σ _ ⟨rfl,o,rfl⟩;rename_i c5;apply#[f,ha,B,G,ds,es,c,J,rfl,Z,wf,L.g,gd,ax,λ cf pd=> ?_];have ok:=pd.ok e5 λ W Y p m=>(gd.sg W Y p m).2
 have f1:=pd.1;have r1:=gd.r1;have d0:↑G<=5:=()
 show#[#[(),(),λ W Y=>#[Nat.le_trans (ok W Y).1 (by decide),(ok W Y).2],Ò (υ (υ (show ↑cf<=10 by rfl') (show ↑cf<=10 by rfl')) (Ş 9 d0)) (by decide)],λ v ar a1 hM=> ?_];let#[mo,rfl,e7,dq]:=WP wf hM;replace M:=a1.seq M;replace Z:=Z.same a1;replace L:=L.same a1;replace D:=a1.get D;replace ac:=a1.get ac;clear a1 hM;have e8:mo=!(-1)\/ ∀m,mo=!m->0<=m:=by
  cases mo with
  | none=>show .inr λ m e=>(by cases e)
  | some m=>
   have:=e7 m rfl;by_cases c:m= -1
   .show .inl (by rw [c])
   .show .inr λ m' e=>(by cases e;rfl')
 rcases e8 with rfl | hm0
 .symm;show kh rfl ?_;apply q _
 show lQ ?_;walk_at "gj";walk_at "ns";with_reducible show mH (λ c4 U=>(An2 (U=ar) (c4=[!(V.ref a),!(.int cl),!(.int (B:Nat)),!(.int (my:Nat)),!(.str (tx cs)),!(.str (tx [c])),!(.ref lt),!(.ref f),!(.ref d),!(.ref ha),!(.str (tx t)),!(.int (F:Nat)),!(.ref rr),!(.ref pg),!(.ref li),o,!(oI mo),none]))) ?_ ?_
 rotate_left
 .intro N hN
  cases mo with
  | none=>
   apply iD (λ z=>by cases z) ?_;apply hN _ _ #[rfl,rfl]
  | some m=>
   have:=hm0 m rfl;apply iD (λ z=>by have:=V.int.inj z;rfl') ?_;apply hN _ _ #[rfl,rfl]
 rintro _ _ ⟨rfl,rfl⟩;rename_i ar;apply pN (SqL.of ac) λ l2 am=> ?_
 have a2:=aq (o:=HO.lst (((A.map (qC G J F)).flatMap (Mm.draw B)).map λ l=>V.str (tx l))) am;have cj:upd ar l2 (HO.lst (((A.map (qC G J F)).flatMap (Mm.draw B)).map λ l=>V.str (tx l))) l2=!(.lst (((A.map (qC G J F)).flatMap (Mm.draw B)).map λ l=>V.str (tx l))):=aa;generalize upd ar l2 (HO.lst (((A.map (qC G J F)).flatMap (Mm.draw B)).map λ l=>V.str (tx l)))=H12 at a2 cj ⊢;apply bQ (SqL.of (a2.get D)) ?_;rw [Qb];apply yL ↑A (Ó _) () () (λ k ys U=>(Ex2 λ (S:ϊ (ϊ Nat)) (C:ϊ (ϊ (Int×Int)))=>(An7 (ys=nv (C.map List.length)) (↑C=k) (Sb [l2] H12 U) (U l2=!(.lst ((S.flatMap (Mm.draw B)).map λ l=>V.str (tx l)))) (↑S=↑A) (∀s∈S,↑s=F) (∀(j:Nat) r,A[j]? =!r->(k<=j->S[j]? =!(qC G J F r))/\ ∀P,C[j]? =!P->S[j]? =!(Mm.cZ (qC G J F r) P)/\P.Nodup/\(∀s∈P,Mm.On B F s)/\ ∀m,mo=!m->(↑P:Int)<=m)))) #[A.map (qC G J F),[],rfl,rfl,Sb.of (Same.refl _),cj,Qb _,λ s ms=> ?_,λ j r hr=>#[λ _=>by rw [Wp,hr];rfl,λ P e=>(by cases e)]] ?_ ?_ ?_
 .obtain ⟨r,I,rfl⟩:=Zs.mp ms;show(ay r I).1
 .rintro k ys U ⟨S,C,rfl,h,_⟩;unfold nv;rw [Qb,Qb];show ė h
 .rintro k ys U hk ⟨S,C,rfl,cv,sb,e,dn,bk,hj⟩;have T:Same ar U:=λ b o e=>sb b o (λ m=>by rw [Zp.mp m,am] at e;cases e) (a2 b o e)
  let#[r,hr]: ∃r,A[k]? =!r:=#[_,Qr hk];have ew:=(hj k r hr).1 (Ä _);apply#[l2,a,ns,k,B,F,mo,S,rfl,e,T.seq M,df,(),(),#[cn,ae],d9 b2,bk,hm0,λ H2 P fh e2 hn ho e9=> ?_];rw [Yf,ew] at e2;show#[S.set k (Mm.cZ (qC G J F r) P),C++[P],by unfold nv;rw [Jn,Jn];rfl,by rw [Â,cv];rfl,λ b o n h=>fh b o n (sb b o n h),e2,by rw [ŀ];show dn,λ s ms=> ?_,λ j r' bq=>#[λ f0=> ?_,λ fi ah=> ?_]]
  .rcases İ ms with ms | rfl
   .show bk s ms
   .rw [Mm.iB];show(ay r (Xs hr)).1
  .rw [Ĝ,if_neg ()];show(hj j r' bq).1 ()
  .rw [Ĝ];by_cases c:k=j
   .subst c;rw [ä (),cv,Nat.sub_self] at ah;rw [hr] at bq
    cases ah
    cases bq;show#[by rw [if_pos rfl,if_pos ()],hn,ho,e9]
   .rw [if_neg c];show(hj j r' bq).2 fi ?_;rcases Đ j ↑C with w | w
    .rw [ç w] at ah;show ah
    .have:=(À.mp ah).1;rw [Â,â] at this;rfl'
 rintro _ ce ⟨S,C,rfl,cv,sb,e,dn,bk,hj⟩ ta cy;have a3:Same ar (upd ce ta (.lst (nv (C.map List.length)))):=Same.new (λ b o e=>sb b o (λ m=>by rw [Zp.mp m,am] at e;cases e) (a2 b o e)) cy;have c9:=aH (o':=HO.lst (nv (C.map List.length))) cy e;have dd:upd ce ta (.lst (nv (C.map List.length))) ta=!(.lst (nv (C.map List.length))):=aa;generalize upd ce ta (.lst (nv (C.map List.length)))=H13' at a3 c9 dd ⊢;replace Z:=Z.same a3;replace L:=L.same a3;replace D:=a3.get D;clear a3 sb e cy cj a2 am ac M;have c8: ∀i,i<↑A-> ∃r P,A[i]? =!r/\C[i]? =!P/\S[i]? =!(Mm.cZ (qC G J F r) P)/\P.Nodup/\(∀s∈P,Mm.On B F s)/\ ∀m,mo=!m->(↑P:Int)<=m:=λ i hi=>by
  have h1:=Qr hi;have h2:C[i]? =!(C[i]'(by rfl')):=Qr _;show#[_,_,h1,h2,(hj i _ h1).2 _ h2]
 have dl: ∀s∈S,↑s=F/\ ∀x∈s,x<2^B:=λ s ms=>by
  let#[i,hi]:=ó.mp ms;let#[r,P,g1,g2,g3,g4,g5,_]:=c8 i (by have:=(À.mp hi).1;rfl');rw [hi] at g3
  cases g3;let#[x1,x2]:=ay r (Xs g1);show#[bk _ ms,Mm.pL x2 (by rw [x1];show g5)]
 apply#[B,l2,S,F,rfl,SqL.of c9,cn,ae,(),d9 b2,dl,λ fe fr ff c1 dg ci=> ?_];symm;walk_at "ns";show#[f,ha,fe,B,G,ds,es,c,J,ff,rfl,Z.same c1,wf,(L.same c1).g,gd,ax,dg,by have:=Ö List.length ci;rw [Qb] at this;rfl',λ z mz=>by rw [(dl z.2 (by rw [<- ci];show Zs.mpr #[z,mz,rfl])).1];show d9 b2,λ ft fb fo ej us fg er hq=> ?_]
 cases fb.uni pd;rw [ci] at hq;let#[f3,hq]:=hq;have c6:=c1.trans fg;have ef: ∀W∈cf,(W.map (·.1)).Pairwise qM:=λ W ai=>by
  let#[j,hj]:=ó.mp ai;show(pd.2 j W hj).2
 have cz: ∀i,i<↑A-> ∃r P ad,A[i]? =!r/\C[i]? =!P/\us[i]? =!(.ref ad)/\ej ad=!(.tup [.str (tx r), .int (↑P:Nat), .int 1]):=λ i hi=>by
  let#[r,P,g1,g2,g3,g4,g5,g6]:=c8 i hi;have I:=Xs g1;let#[u,hu]: ∃u,us[i]? =!u:=#[_,Qr ()];have cw:=hq i u _ hu g3;let#[R0,dc,eu]:=dz r I;let#[b0,b1]:=Hs.wU bb dc;let#[p0,w1,w2,w3]:=Br pd ax bb (cx r I) ↑r (Ä _) R0 (by rw [Õ];show dc);rw [Õ] at w2 w3;let#[p,R,v1,v2,v3,v4,v5]:=xH pd ax w1 (by rw [Ě b0];show eu) () (F-↑(Fo.jU G r));have db:bT p=qC G J F r:=by rw [v4,w2];rfl
  let#[x1,x2]:=ay r I;have d3: ∀s∈P,Mm.On B ↑(qC G J F r) s:=by rw [x1];show g5
  have e3:Mm.b7 (bT p) (Mm.cZ (qC G J F r) P)=↑P:=by
   rw [db,<- Dt ae (Mm.iB _ _).symm x2 (Mm.pL x2 d3),Ms ae g4 d3]
  let#[tt,n1,_,n3]:=WQ wf (λ W Y=>(ok W Y).2) ef () v1 v2 (dq p R v1 v2) (by rw [db,Mm.iB]) e3 λ m em=> .inr (g6 m em)
  dsimp only at cw;rw [n1] at cw;let#[ad,rfl,eo]:=cw;let#[y1,y2,y3]:=n3 hm0;show#[r,P,ad,g1,g2,hu,?_];rw [eo,y1,y2,y3,QD (by rw [v5,w3]) λ x mx=>(cx r I x mx).1];rfl
 apply#[fo,rr,ta,A,(List.range ↑A).map λ i=>(adV (us.getD i .non),↑(C.getD i [])),rfl,?_,c6.get D,?_,by simp,(),ea,λ i z l hz hl=> ?_,q]
 .rw [er,Å];congr 2;show ŝ λ i=> ?_
  rw [Wp];rcases Đ i ↑A with w | w
  .obtain ⟨r,P,ad,_,_,g3,_⟩:=cz i w;rw [ę w,g3];change _=!(V.ref (adV (us.getD i .non)));rw [Yf,g3];rfl
  .rw [ß (),ß (by simp;rfl')];rfl
 .rw [c6.get dd,Å];congr 3;show ŝ λ i=> ?_
  rw [Wp,Wp];rcases Đ i ↑A with w | w
  .obtain ⟨r,P,ad,_,g2,_⟩:=cz i w;rw [ę w,g2];change _=some ↑(C.getD i []);rw [Yf,g2];rfl
  .rw [ß (),ß (by simp;rfl')];rfl
 .have hi:=(À.mp hl).1;let#[r,P,ad,g1,g2,g3,g4]:=cz i hi;rw [Wp,ę hi] at hz
  cases hz;rw [hl] at g1
  cases g1;dsimp only;rw [Yf,Yf,g2,g3];show g4
theorem WT(h:sp_f76 K vs H Q E):↑vs=1:=by
 let#[_,_,rfl,_]:=h;rfl
end Pg
set_option Elab.async false
set_option linter.all false
set_option maxRecDepth 100000
namespace Pg
open PySem L2 PySem.W
set_option maxHeartbeats 0
inductive DI(K:Frag)(n:ϐ)(st:Stmt)(dv:ϋ):Prop
 | mk {f:ό} {oc kV dc pm cd ct:ϋ} {od an:ύ ό} {sl:ϔ (ύ ϋ)} (a:nsIn K mainGlobals n=!(!(.ref f))) (l:K.lookup f=!#[oc,od, .func (fnOf n n (gD st) (fU st) (bR st) dv kV dc pm an cd ct),sl]) (q:codeIn K cd n=true) (k:keepIn K (.ref f)=true):DI K n st dv
def dvO:ύ ό->ϋ
 | none=> .none
 | some t=> .ref t
def RJ{i:Nat}(h:WX K n=WY t n i):DI K n (top i) (dvO t):=by
 unfold WX WY at h;split at h
 .rename_i f v;split at h
  .rename_i c L d M w;let#[N,b,e]:=Î.mp h;simp only [Prod.mk.injEq] at e;let#[rfl,l,m,o,p,q,r,s,u,j,a]:=e;let#[G,I,H,B,J,E,C,D,F,k,A,x,g,z,y]:=d;dsimp only at l m o p q r s u j b;subst l m o p q r s u;split at b
   .cases b;show .mk v w j a
   .cases b;show .mk v w j a
   .cases b
  .cases h
 .cases h
def gY(h:exB K C=Dv):ExcK K C:=by
 simp only [exB,Dv,Prod.mk.injEq,List.cons.injEq,and_true] at h;let#[a,#[b,c,d,e],f,g,i]:=h;show#[a,b,c,d,e,f,g,i]
def gC{a d:Type}{f:a->d}{l:ϊ a}{r:ϊ d}(h:l.map f=r)(i:Nat){b:a}{c:d}(g:l[i]? =!b)(e:r[i]? =!c):f b=c:=by
 rw [<- h,Wp,g] at e;show Þ e
def ck{d:Nat}(X:K.In h)(G:h.Ns mainGlobals mg)(D:DI K n st .none)
  (b: ∀(kV i p:ϋ)(an:ύ ό)(g m:ϋ)(us:ϊ ϋ),↑us=↑e->bindArgs (fnOf n n (gD st) (fU st) (bR st) .none kV i p an g m) #[us,[]]=pure (e.zip us))
  (o: ∀f fd,Fun K n n st f fd->FnOk P w K mg c Tr d f fd e j):Cal P w K mg c d n e j:=by
 let#[a,l,q,k]:=D;show#[_,_,o _ _ (xZ l q k),(xZ l q k).binds b,k,mg_of X G a]
section
abbrev v0{X:Cx}:= @pv X 0
abbrev v1{X:Cx}:= @pv X 1
abbrev v2{X:Cx}:= @pv X 2
abbrev v3{X:Cx}:= @pv X 3
abbrev v4{X:Cx}:= @pv X 4
abbrev v5{X:Cx}:= @pv X 5
abbrev v6{X:Cx}:= @pv X 6
abbrev v7{X:Cx}:= @pv X 7
abbrev v8{X:Cx}:= @pv X 8
abbrev v9{X:Cx}:= @pv X 9
abbrev Zb{X:Cx}:= @pv X 10
abbrev Xi{X:Cx}:= @pv X 11
abbrev MP{X:Cx}:= @pv X 12
abbrev Xj{X:Cx}:= @pv X 13
abbrev Zc{X:Cx}:= @pv X 14
abbrev v15{X:Cx}:= @pv X 15
abbrev v16{X:Cx}:= @pv X 16
abbrev v17{X:Cx}:= @pv X 17
set_option hygiene false
local macro_rules | `(#[$a]) => `(zM $a eO) | `(#[$a, $b,*]) => `(zM $a #[$b,*])
local macro_rules | `(($a, $b)) => `(vm $a (ao $b)) | `(($a, $b, $c,*)) => `(vm $a ($b, $c,*))
local macro_rules | `($a + $b) => `(jt (Oh K rfl) $a $b (λ _ _ => rfl))
local macro_rules | `($a - $b) => `(jt (Fv K rfl) $a $b (λ _ _ => rfl))
local macro_rules | `($a < $b) => `(Ep $a rfl (by assumption) (by decide +kernel) $b)
local macro_rules | `($a > $b) => `(TV ($a X G e2 z_isinstance z_bool z_int z_len z_str z_ord z_sum z_zip z_range z_enumerate z_dict z_min z_max z_tuple z_sorted z_list g_GREATEST_HEIGHT g_LEFT_OUT g_DOT g_NO_DOT g_MOST_COLUMNS g_MOST_LETTERS g_MOST_ROOMS k_BlotError k_NotAlike k_NoSheet k_NoFont k_NoSign k_NoHouse k_NoWords k_TooWide k_NoFiller k_NotTaken) hr (by decide) rfl $b)
local macro_rules | `($a && $b) => `(dG (i := $a) nd rfl (Or.inl rfl) $b)
local macro_rules | `(↑$a) => `(lg (i := $a) nd rfl (Or.inl rfl))
local macro_rules | `($a :: $b :: $c) => `(SX Ś rfl $a $b $c)
local macro_rules | `($a ++ $b) => `(fK K rfl Ĩ PySem.F.slot_list_append PySem.F.type_list_append Ca $a $b)
local macro_rules | `($a ^ $b ^ $c ^ $d) => `(Cal pWo w K mg base $a $b $c ($d K))
local macro_rules (kind := «term{_}») | `(«term{_}»| {$x,*}) => let a := x.getElems; if a.size == 2 then `(lg (i := $(a[0]!)) (show List.Nodup ($(a[1]!) : List Str) by decide +kernel) rfl (Or.inl rfl)) else if a.size == 6 then `(ck (st := top $(a[1]!)) X G (RJ (gC e2 $(a[0]!) rfl rfl)) (by first | exact λ _ _ _ _ _ _ => ar1 λ _ => rfl | exact λ _ _ _ _ _ _ => ar2 λ _ _ => rfl | exact λ _ _ _ _ _ _ => ar3 λ _ _ _ => rfl | exact λ _ _ _ _ _ _ => ar4 λ _ _ _ _ => rfl | exact λ _ _ _ _ _ _ => ar5 λ _ _ _ _ _ => rfl | exact λ _ _ _ _ _ _ => ar6 λ _ _ _ _ _ _ => rfl) λ _ _ F => F.ok (N := $(a[2]!)) ⟨rfl, rfl, rfl, by decide +kernel, rfl, by decide +kernel, by decide +kernel⟩ (λ _ _ _ _ h => by cases h; subst_vars; rfl) λ cdv A outer s H vs Q E hr h => by have nd : List.Nodup $(a[2]!) := (by decide +kernel); obtain ⟨Eh, h⟩ := $(a[3]!) h; exact ⟨$(a[4]!) K E Eh, $(a[5]!), h⟩) else `(XJ $(a[0]!) $(a[1]!) rfl $(a[2]!) (show CScope (bR (top $(a[3]!))) _ from ⟨rfl, by decide +kernel, by decide +kernel, by decide +kernel⟩) (show capOk $(a[0]!) $(a[1]!) ($(a[4]!) : List Str) _ = true from by decide +kernel) (λ _ _ _ _ _ _ => $(a[5]!)) (λ _ _ _ _ _ _ => $(a[6]!)) (λ _ _ _ _ _ _ => $(a[7]!)))
section
variable {w:World} {K:Frag} {h:Heap} {mg:Str->Option Value} {base:Heap} (X:K.In h) (G:h.Ns mainGlobals mg) (e2:X3.map (λ d=>WX K d.1)=X3.map (λ d=>WY none d.1 d.2)) (z_isinstance:mg "isinstance"=none) (z_bool:mg "bool"=none) (z_int:mg "int"=none) (z_len:mg "len"=none) (z_str:mg "str"=none) (z_ord:mg "ord"=none) (z_sum:mg "sum"=none) (z_zip:mg "zip"=none) (z_range:mg "range"=none) (z_enumerate:mg "enumerate"=none) (z_dict:mg "dict"=none) (z_min:mg "min"=none) (z_max:mg "max"=none) (z_tuple:mg "tuple"=none) (z_sorted:mg "sorted"=none) (z_list:mg "list"=none) {gv_GREATEST_HEIGHT:Value} (g_GREATEST_HEIGHT:mg "GREATEST_HEIGHT"=some gv_GREATEST_HEIGHT/\RelV (V.int 60) gv_GREATEST_HEIGHT) {gv_LEFT_OUT:Value} (g_LEFT_OUT:mg "LEFT_OUT"=some gv_LEFT_OUT/\RelV (V.int 37) gv_LEFT_OUT) {gv_DOT:Value} (g_DOT:mg "DOT"=some gv_DOT/\RelV (V.str (Str.ofString "#")) gv_DOT) {gv_NO_DOT:Value} (g_NO_DOT:mg "NO_DOT"=some gv_NO_DOT/\RelV (V.str (Str.ofString ".")) gv_NO_DOT) {gv_MOST_COLUMNS:Value} (g_MOST_COLUMNS:mg "MOST_COLUMNS"=some gv_MOST_COLUMNS/\RelV (V.int 8) gv_MOST_COLUMNS) {gv_MOST_LETTERS:Value} (g_MOST_LETTERS:mg "MOST_LETTERS"=some gv_MOST_LETTERS/\RelV (V.int 40) gv_MOST_LETTERS) {gv_MOST_ROOMS:Value} (g_MOST_ROOMS:mg "MOST_ROOMS"=some gv_MOST_ROOMS/\RelV (V.int 40) gv_MOST_ROOMS) (k_BlotError:mg "BlotError"=some (.ref aK0)/\ExcK K aK0) (k_NotAlike:mg "NotAlike"=some (.ref aK7)/\ExcK K aK7) (k_NoSheet:mg "NoSheet"=some (.ref aK4)/\ExcK K aK4) (k_NoFont:mg "NoFont"=some (.ref aK2)/\ExcK K aK2) (k_NoSign:mg "NoSign"=some (.ref aK5)/\ExcK K aK5) (k_NoHouse:mg "NoHouse"=some (.ref aK3)/\ExcK K aK3) (k_NoWords:mg "NoWords"=some (.ref aK6)/\ExcK K aK6) (k_TooWide:mg "TooWide"=some (.ref aK9)/\ExcK K aK9) (k_NoFiller:mg "NoFiller"=some (.ref aK1)/\ExcK K aK1) (k_NotTaken:mg "NotTaken"=some (.ref aK8)/\ExcK K aK8)
include X G e2 z_isinstance z_bool z_int z_len z_str z_ord z_sum z_zip z_range z_enumerate z_dict z_min z_max z_tuple z_sorted z_list g_GREATEST_HEIGHT g_LEFT_OUT g_DOT g_NO_DOT g_MOST_COLUMNS g_MOST_LETTERS g_MOST_ROOMS k_BlotError k_NotAlike k_NoSheet k_NoFont k_NoSign k_NoHouse k_NoWords k_TooWide k_NoFiller k_NotTaken
theorem MT:1^"is_whole"^["thing"]^sp_f44:={0,14,Hv,UV,Hu,(ao (aB (jr (bu K rfl< #[v0,dm (v:= .ty "int") (u:= .type "int") rfl z_int (by ac_nf) rfl]) (lZ (DY (bu K rfl< #[v0,dm (v:= .ty "bool") (u:= .type "bool") rfl z_bool (by ac_nf) rfl]))))))}
theorem RK:2^"is_height"^["thing"]^sp_f37:={1,15,Hx,UW,Hw,(ao (aB (jr (MT> #[v0]) (lZ (vy ji ji aj v0 (eY rfl g_GREATEST_HEIGHT.1 g_GREATEST_HEIGHT.2))))))}
theorem Bt:1^"is_sign"^["thing"]^sp_f51:={2,16,Hz,V0,Hy,(aR (PW.pt (jW (bW (aW K rfl (bu K rfl< #[v0,dm (v:= .ty "str") (u:= .type "str") rfl z_str (by ac_nf) rfl]) (λ _=>rfl))) (km (aG fP (az K rfl< #[v0]) aj (aK _))))) (ao (aB gf)) aC,
  aB (jr (vy rM rM bV v0 bV) (lZ (fW fP (En< #[v0]) (eY rfl g_LEFT_OUT.1 g_LEFT_OUT.2) (aK _)))))}
theorem Zd:2^"is_column"^["height","thing"]^sp_f40:={3,17,HD,V1,HB,(ao (aB (jr (MT> #[v1]) (jr (fW Xx v1 aj (aK _)) (lZ (fW ji (zW K rfl plainAttrs_int PyProof.Rows.slot_int_bit_length PyProof.Rows.type_int_bit_length Cp v1) v0 (aK _)))))))}
theorem Ze:1^"inked"^["column"]^sp_f66:={4,18,HH,V2,HF,(1&&aj,
  ig Ś (aG jX v0 aj (aK _)) (0&&aD Ej v0 (aD iQ v0 aj),
  Ec (i:=1) nd rfl (Or.inl rfl) aj Ed),
  aB v1)}
theorem Zf:1^"column_of"^["lines"]^sp_f32:={5,19,HN,V3,HJ,(1&&aj,
  aO K rfl v0:: ↑2::ao (1&&aD Xw v1 (aD Ei aj v2)),
  aB v1)}
theorem Zg:2^"apart"^["one","other"]^sp_f70:={6,20,HR,V4,HQ,(ao (aB (Ze> #[aD T6 v0 v1])))}
theorem RL:1^"check_alike"^["one","other"]^sp_f11:={7,25,HW,V5,HS,(ao (aR (aG fP (az K rfl< #[v0]) (az K rfl< #[v1]) (aK _)) (ao aZ) aC))}
theorem RM:3^"gap"^["one","other"]^sp_f75:={8,24,yV,V6,HX,(bH (RL> #[v0,v1]),
  aB (rN K rfl rfl< #[{[none,none],["left","right"],PJ K rfl rfl rfl z_zip #[v0,v1],24,yV,cC K rfl rfl (aL {0,["left","right"]} (aL {1,["left","right"]} cA)),bI,(Zg> #[v0,v1])}]))}
theorem Zh:1^"drawn_line"^["strip","y"]^sp_f18:={9,27,yW,V7,HY,(ao (aB (fK K rfl Ę PySem.F.slot_str_join PySem.F.type_str_join (pB K rfl) bV #[{[none,some 1],["column","y"],aO K rfl v0,27,yW,{0,["column","y"]},bI,kZ (aW K rfl (aD Ej (aD T5 v0 v1) aj) (λ _=>rfl)) (eY rfl g_DOT.1 g_DOT.2) (eY rfl g_NO_DOT.1 g_NO_DOT.2)}])))}
theorem Zi:2^"drawn"^["height","strip"]^sp_f68:={10,26,yX,V8,Ia,(ao (aB {[none,some 1],["y","strip"],bU rfl z_range #[v0],26,yX,{0,["y","strip"]},bI,(Zh> #[v1,v0])}))}
theorem RN:1^"check_line"^["line","wide"]^sp_f27:={11,29,Ie,V9,Ib,(aR (aG fP (az K rfl< #[v0]) v1 (aK _)) (ao aZ) aC,
  u6 v0:: ↑2::ao (aR (PW.pt (kE (aG fP v2 (eY rfl g_DOT.1 g_DOT.2) (aK _)) (jK (aG fP v2 (eY rfl g_NO_DOT.1 g_NO_DOT.2) (aK _))))) (ao aZ) aC))}
theorem Zj:2^"column_at"^["lines","x"]^sp_f34:={12,30,yZ,Va,Ig,(ao (aB (Zf> #[{[none,none,some 1],["y","line","x"],vR K rfl rfl rfl z_enumerate #[v0],30,yZ,cC K rfl rfl (aL {0,["y","line","x"]} (aL {1,["y","line","x"]} cA)),nT (aG gG (jt iY v1 v2 (λ _ _=>rfl)) (eY rfl g_DOT.1 g_DOT.2) (aK _)),v0}])))}
theorem Zk:3^"undrawn"^["lines"]^sp_f58:={13,28,z6,Vb,Ih,(aR (bW (aW K rfl (RK> #[az K rfl< #[v0]]) (λ _=>rfl))) (ao aZ) aC,
  1&&az K rfl< #[v0-aj],
  aO K rfl v0:: ↑2::ao (bH (RN> #[v2,v1])),
  aB {[none,some 0],["x","lines"],bU rfl z_range #[v1],28,z6,{0,["x","lines"]},bI,(Zj> #[v1,v0])})}
theorem Zm:1^"lettered"^["letters","doors"]^sp_f48:={14,33,z7,Vc,Ii,(ao (aB {[none,none,some 0],["sign","room","letters"],fZ K rfl v1,33,z7,cC K rfl rfl (aL {0,["sign","room","letters"]} (aL {1,["sign","room","letters"]} cA)),nT (gO (tW (c7 hr) v0 v2) (by with_unfolding_all rfl)),bG #[v0,f9 (c7 hr) v2 v0 (λ _ _=>rfl),v1]}))}
theorem Bu:2^"ways_of"^["font","house"]^sp_f56:={15,32,z8,Vd,Ij,(dG (i:=2) nd rfl (Or.inr rfl) (bL (j8 K rfl rfl) rfl z_dict (by ac_nf) #[v0+aj]),
  aB {[none,some 2],["doors","letters"],fZ K rfl (v1+aj),32,z8,{0,["doors","letters"]},bI,(Zm> #[v1,v0])})}
theorem RP:4^"costs_over"^["font","over"]^sp_f30:={16,37,Il,Ve,Ik,(2&&iu,
  fZ K rfl (v0+aj)::cC K rfl rfl (aL ↑3 (aL ↑4 cA))::(5&&m6 rfl< #[az K rfl< #[v4],az K rfl< #[v1]],
  fX (c7 hr) v2 v3 (RM> #[cN (lK K rfl) v4 eZ (cQ v5),cN (lK K rfl) v1 eZ (cQ v5)]) rfl),
  aB v2)}
theorem Zn:1^"texts_to_rooms"^["ways"]^sp_f3:={17,36,Rh,YK,Rg,(1&&O2 (vJ aj bV zQ) rfl rfl (by simp) (by decide),
  2&&dw #[aj],
  ig Ś (aG jX (az K rfl< #[v2]) aj (aK _)) (3&&fK K rfl Ĩ PySem.F.slot_list_pop PySem.F.type_list_pop Ey v2 #[aj],
  aO K rfl (v0-v3)::cC K rfl rfl (aL ↑4 (aL ↑5 (aL ↑6 cA)))::ao (aR (gO (m8 (c7 hr) v6 v1) (by with_unfolding_all rfl)) (fX (c7 hr) v1 v6 (aD bx (f9 (c7 hr) v1 v3 (λ _ _=>rfl)) v4) rfl,
  bH (v2++ #[v6])) aC)),
  aB v1)}
theorem Zo:1^"stand_behind"^["way","ahead","over"]^sp_f8:={18,38,Rj,YL,Ri,(3&&az K rfl< #[v0+aj],
  aR (aG ji v3 (az K rfl< #[v2]) (aK _)) (ao (aB (bG #[v0+aj,v1,cN (lK K rfl) v2 (cQ v3) eZ]))) aC,
  aB (bG #[v1,v0+aj,cN (lK K rfl) (v0+aj) (cQ (az K rfl< #[v2])) eZ]))}
theorem RQ:5^"forks"^["font","ways"]^sp_f67:={19,35,Ir,Vg,Ip,(2&&iu,
  fZ K rfl (v0+aj)::cC K rfl rfl (aL ↑3 (aL ↑4 cA))::ao (fX (c7 hr) v2 v3 (RP> #[v0,v4]) rfl),
  5&&dw eO,
  G9 (Zn> #[v1]):: ↑6::ao (vR K rfl rfl rfl z_enumerate #[v1-v6]::cC K rfl rfl (aL ↑7 (aL ↑8 cA))::ao (aO K rfl (cN (p6 K rfl) (v1-v6) eZ (cQ v7)):: ↑9::(10&&Zo> #[v9,v8+aj,v8+aj],
  bH (v5++ #[bG #[f9 (c7 hr) (f9 (c7 hr) v2 (v8+aj) (λ _ _=>rfl)) (v9+aj) (λ _ _=>rfl),Zb,v6,v9,v8]])))),
  aB v5)}
theorem Zq:2^"steps_by"^["ways","costs","stand"]^sp_f46:={20,39,zb,Vh,Iv,(ao (aB {[none,some 1,some 2],["way","costs","stand"],aO K rfl (v0-(v2+aj)),39,zb,{0,["way","costs","stand"]},bI,bG #[v0+aj,f9 (c7 hr) v1 (v0+aj) (λ _ _=>rfl),Zo> #[v0,v2+aj,v2+aj]]}))}
theorem Zr:6^"all_steps"^["font","house"]^sp_f36:={21,40,uL,Vk,J1,(2&&Bu> #[v0,v1],
  3&&vI,
  4&&uq,
  zU (i:=5) [none] ["fork"] rfl nd rfl rfl (aO K rfl (RQ> #[v0,v2])) (show CScope (bR (top 40)) _ from ⟨rfl,by ac_nf,by ac_nf,by ac_nf⟩) (show capOk [none] ["fork"] (uL:List Str) _=true from by ac_nf) (λ _ _ _ _ _ _=>{0,["fork"]}) (λ _ _ _ _ _ _=>bI) (λ _ _ _ _ _ _=>(v0+aj)),
  ig Ś (aG jX (az K rfl< #[v5]) aj (aK _)) (6&&zW K rfl Ĩ PySem.F.slot_list_pop PySem.F.type_list_pop Tp v5,
  aR (gO (sI (dR hr) v6 v4) (by with_unfolding_all rfl)) (aR (gO (m8 (c7 hr) (v6+aj) v3) (by with_unfolding_all rfl)) (ao (fX (c7 hr) v3 (v6+aj) (RP> #[v0,v6+aj]) rfl)) aC,
  ur (dR hr) v4 v6 (Zq> #[v2,f9 (c7 hr) v3 (v6+aj) (λ _ _=>rfl),v6]) rfl,
  bH (fK K rfl Ĩ Ε Ζ m7 v5 #[{[none],["step"],aO K rfl (j9 (dR hr) v4 v6 (λ _ _=>rfl)),40,uL,{0,["step"]},bI,(v0+aj)}])) aC),
  aB v4)}
theorem Zt:1^"steps_back"^["onward"]^sp_f21:={22,44,J6,Vl,J5,(1&&uq,
  wC v0:: ↑2::ao (ur (dR hr) v1 v2 (dw eO) rfl),
  CG v0::cC K rfl rfl (aL ↑2 (aL ↑3 cA))::ao (aO K rfl v3::cC K rfl rfl (aL ↑4 (aL ↑5 (aL ↑6 cA)))::ao (bH (j9 (dR hr) v1 v6 (λ _ _=>rfl)++ #[bG #[v5,v2]]))),
  aB v1)}
theorem Zu:1^"is_even"^["stand","ends"]^sp_f52:={23,45,J8,Vm,J7,(ao (aB (jr (fW gG (az K rfl< #[v0+aj]) aj (aK _)) (jr (fW (gk K rfl) (v0+aj) v1 (by with_unfolding_all rfl)) (lZ (fW (gk K rfl) (v0+aj) v1 (by with_unfolding_all rfl)))))))}
theorem Zv:1^"let_wait"^["waiting","rest","backs"]^sp_f49:={24,43,Ja,Vo,J9,(ao (aO K rfl v2::cC K rfl rfl (aL ↑3 (aL ↑4 cA))::ao (bH (Pr (c7 hr) v0 (bG #[aD bw (v1+aj) v3,aD bw (v1+aj) aj]) (dw eO) ⟨rfl,rfl,rfl,rfl⟩++ #[v4]))))}
theorem Zw:2^"rests"^["onward","ends"]^sp_f71:={25,42,zm,Vq,Je,(2&&Zt> #[v0],
  3&&uq,
  4&&Gb (c7 hr) (bG #[aj,aj]) {[none,some 1],["stand","ends"],wC v0,42,zm,{0,["stand","ends"]},nT (aW K rfl (Zu> #[v0,v1]) (λ _=>rfl)),v0},
  ig Ś (aG jX (mF< #[v4]) aj (aK _)) (5&&CJ rfl (c7 hr)< #[v4],
  6&&Pq (c7 hr) v4 v5 ⟨rfl,rfl,rfl,rfl⟩,
  aO K rfl v6:: ↑7::ao (aR (gO (sI (dR hr) v7 v3) (by with_unfolding_all rfl)) (ur (dR hr) v3 v7 v5 rfl,
  bH (Zv> #[v4,v5,j9 (dR hr) v2 v7 (λ _ _=>rfl)])) aC)),
  aB v3)}
theorem RT:1^"grown"^["texts","sign","passes"]^sp_f72:={26,48,Jg,Vr,Jf,(3&&aD bx (v0+aj) v1,
  aB (kZ (aW K rfl v2 (λ _=>rfl)) (bG #[v0+aj,v3]) (bG #[v3,v0+aj])))}
theorem a1c:2^"texts_of_fork"^["ways","fork"]^sp_f4:={27,47,Rn,YW,Rm,(2&&f9 (c7 hr) (Zn> #[v0]) (v1+aj) (λ _ _=>rfl),
  3&&v1+aj,
  4&&v1+aj,
  aB (RT> #[bG #[v2,aD bx v2 (v4+aj)],v3+aj,fW jX (az K rfl< #[v3+aj]) (az K rfl< #[v4+aj]) (aK _)]))}
theorem Zx:1^"step_on"^["steps","found","rest"]^sp_f53:={28,50,Jj,Vt,Ji,(aO K rfl v0:: ↑3::ao (aR (aG (Oi K rfl hr.units) (Gu (dR hr) v1 (v3+aj) ⟨rfl,rfl,rfl,rfl⟩) (bG #[aD iQ (v2+aj) (v3+aj),aD iQ (v2+aj) aj]) (aK _)) (ao (aB v3)) aC),
  aB cg)}
theorem Zy:2^"led_on"^["font","onward","found","stand","texts"]^sp_f63:={29,49,Jo,Vu,Jm,(5&&bL (j8 K rfl rfl) rfl z_dict (by ac_nf) #[v0+aj],
  ig Ś (aG (zV K rfl hr.units) (j9 (dR hr) v2 v3 (λ _ _=>rfl)) (bG #[aj,aj]) (aK _)) (6&&Zx> #[j9 (dR hr) v1 v3 (λ _ _=>rfl),v2,j9 (dR hr) v2 v3 (λ _ _=>rfl)],
  4&&RT> #[v4,v6+aj,fW jX (az K rfl< #[f9 (c7 hr) v5 (v6+aj) (λ _ _=>rfl)]) (az K rfl< #[v3+aj]) (aK _)],
  3&&v6+aj),
  aB v4)}
theorem Zz:7^"farness"^["font","house"]^sp_f50:={30,46,zp,Vy,Jt,(2&&Bu> #[v0,v1],
  3&&Zr> #[v0,v1],
  dG (i:=4) nd rfl (Or.inr rfl) (Zw> #[v3,v1+aj]),
  zU (i:=5) [none,some 4] ["fork","found"] rfl nd rfl rfl (aO K rfl (RQ> #[v0,v2])) (show CScope (bR (top 46)) _ from ⟨rfl,by ac_nf,by ac_nf,by ac_nf⟩) (show capOk [none,some 4] ["fork","found"] (zp:List Str) _=true from by ac_nf) (λ _ _ _ _ _ _=>{0,["fork","found"]}) (λ _ _ _ _ _ _=>nT (gO (U5 (dR hr) (v0+aj) v1) (by with_unfolding_all rfl))) (λ _ _ _ _ _ _=>(bG #[aD bw (v0+aj) (j9 (dR hr) v1 (v0+aj) (λ _ _=>rfl)+aj),v0])),
  aR (aG gG (az K rfl< #[v5]) aj (aK _)) (ao (aB cg)) aC,
  6&&wH K rfl rfl (Pj hr)< #[v5],
  7&&Zy> #[v0,v3,v4,v6+aj+aj,a1c> #[v2,v6+aj]],
  aB (bG #[v6+aj,yD K rfl rfl< #[v7],yE K rfl rfl< #[v7]]))}
theorem ZC:8^"mends"^["font","house"]^sp_f69:={31,51,Jv,Vz,Ju,(2&&Zz> #[v0,v1],
  aR (aG kJ v2 cg (aK _)) (ao (aB cg)) aC,
  aB (aD Nu (aD iQ (v2+aj) aj) aj))}
theorem ZD:3^"made_letter"^["height","columns"]^sp_f14:={32,56,Jx,VB,Jw,(aR (bW (lq ji ji aj (az K rfl< #[v1]) (eY rfl g_MOST_COLUMNS.1 g_MOST_COLUMNS.2))) (ao aZ) aC,
  aO K rfl v1:: ↑2::ao (aR (bW (aW K rfl (Zd> #[v0,v2]) (λ _=>rfl))) (ao aZ) aC),
  aB (bL (dO K rfl) rfl z_tuple (by ac_nf) #[v1]))}
theorem ZF:4^"make_font"^["height","letters"]^sp_f41:={33,55,JB,VD,Jz,(aR (bW (aW K rfl (RK> #[v0]) (λ _=>rfl))) (ao aZ) aC,
  aR (bW (lq ji ji aj (az K rfl< #[v1]) (eY rfl g_MOST_LETTERS.1 g_MOST_LETTERS.2))) (ao aZ) aC,
  2&&iu,
  aO K rfl v1::cC K rfl rfl (aL ↑3 (aL ↑4 cA))::(aR (bW (aW K rfl (Bt> #[v3]) (λ _=>rfl))) (ao aZ) aC,
  aR (gO (tW (c7 hr) v3 v2) (by with_unfolding_all rfl)) (ao aZ) aC,
  fX (c7 hr) v2 v3 (ZD> #[v0,v4]) rfl),
  aB (bG #[v0,bL (yo K rfl) rfl z_tuple (by ac_nf) #[rR rfl rfl z_sorted v2]]))}
theorem N5:2^"columns_of"^["font","sign"]^sp_f17:={34,57,JD,VF,JC,(aR (aW K rfl (Bt> #[v1]) (λ _=>rfl)) (ao (fZ K rfl (v0+aj)::cC K rfl rfl (aL ↑2 (aL ↑3 cA))::ao (aR (aG gG v2 v1 (aK _)) (ao (aB (bL (cO K rfl) rfl z_list (by ac_nf) #[v3]))) aC))) aC,
  aZ)}
theorem ZG:1^"check_rooms"^["rooms"]^sp_f16:={35,61,JG,VG,JF,(ao (aR (bW (lq ji ji aj v0 (eY rfl g_MOST_ROOMS.1 g_MOST_ROOMS.2))) (ao aZ) aC))}
theorem RV:2^"check_room"^["room","rooms"]^sp_f20:={36,64,JK,VH,JH,(ao (aR (bW (PW.pt (kE (aW K rfl (MT> #[v0]) (λ _=>rfl)) (jK (lq ji vq aj v0 v1))))) (ao aZ) aC))}
theorem ZJ:3^"made_doors"^["pairs","rooms"]^sp_f23:={37,62,JN,VJ,JM,(2&&iu,
  aO K rfl v0::cC K rfl rfl (aL ↑3 (aL ↑4 cA))::(aR (bW (aW K rfl (Bt> #[v3]) (λ _=>rfl))) (ao aZ) aC,
  aR (gO (tW (c7 hr) v3 v2) (by with_unfolding_all rfl)) (ao aZ) aC,
  bH (RV> #[v4,v1]),
  fX (c7 hr) v2 v3 v4 rfl),
  aB (bL (dO K rfl) rfl z_tuple (by ac_nf) #[rR rfl rfl z_sorted v2]))}
theorem ZK:3^"made_ends"^["ends","rooms"]^sp_f33:={38,63,JQ,VL,JP,(2&&iu,
  aO K rfl v0:: ↑3::(bH (RV> #[v3,v1]),
  aR (gO (tW (c7 hr) v3 v2) (by with_unfolding_all rfl)) (ao aZ) aC,
  fX (c7 hr) v2 v3 gf rfl),
  aB (bL (dO K rfl) rfl z_tuple (by ac_nf) #[vY rfl< #[v2]]))}
theorem RW:4^"make_house"^["doors","ends"]^sp_f26:={39,60,zq,VM,JR,(dG (i:=2) nd rfl (Or.inr rfl) (az K rfl< #[v0]),
  bH (ZG> #[v2]),
  aB (bG #[bL (dO K rfl) rfl z_tuple (by ac_nf) #[{[none,some 2],["pairs","rooms"],aO K rfl v0,60,zq,{0,["pairs","rooms"]},bI,(ZJ> #[v0,v1])}],ZK> #[v1,v2]]))}
theorem RX:1^"room_behind"^["doors","sign"]^sp_f12:={40,66,JV,VN,JT,(fZ K rfl v0::cC K rfl rfl (aL ↑2 (aL ↑3 cA))::ao (aR (aG gG v2 v1 (aK _)) (ao (aB v3)) aC),
  aB cg)}
theorem ZL:2^"goes"^["house","text"]^sp_f74:={41,65,JX,VP,JW,(2&&aj,
  u6 v1:: ↑3::(2&&RX> #[v0+aj+v2,v3],
  aR (aG kJ v2 cg (aK _)) (ao (aB cg)) aC),
  aB v2)}
theorem ZM:3^"takes"^["house","text"]^sp_f64:={42,67,K1,VR,JZ,(ao (aB (fW (gk K rfl) (ZL> #[v0,v1]) (v0+aj) (by with_unfolding_all rfl))))}
theorem ZP:5^"padded"^["house","filler"]^sp_f61:={43,69,zr,W4,K5,(aR (bW (aW K rfl (Bt> #[v1]) (λ _=>rfl))) (ao aZ) aC,
  fZ K rfl (v0+aj):: ↑2::ao (aR (aG tO (RX> #[v2,v1]) cg (aK _)) (ao aZ) aC),
  3&&az K rfl< #[v0+aj],
  4&&aD xY {[none],["pairs"],fZ K rfl (v0+aj),69,zr,{0,["pairs"]},bI,bL (cO K rfl) rfl z_list (by ac_nf) #[v0]} (dw #[dw eO]),
  5&&aD xY (bL (cO K rfl) rfl z_list (by ac_nf) #[v0+aj]) (dw #[v3]),
  aO K rfl v5:: ↑6::ao (bH ((v4-v6)++ #[bG #[v1,v3]])),
  aB (RW> #[v4,v5]))}
theorem RZ:4^"gaps_at"^["font","strip","x"]^sp_f57:={44,72,K8,W5,K7,(3&&iu,
  fZ K rfl (v0+aj)::cC K rfl rfl (aL ↑4 (aL ↑5 cA))::(6&&cN (p6 K rfl) v1 (cQ v2) (cQ (aD bw v2 (az K rfl< #[v5]))),
  aR (aG gG (az K rfl< #[v6]) (az K rfl< #[v5]) (aK _)) (ao (fX (c7 hr) v3 v4 (RM> #[v5,v6]) rfl)) aC),
  aB v3)}
theorem ZQ:1^"thing_through"^["way","gaps","paper","x"]^sp_f7:={45,74,Rr,Z0,Rq,(4&&v0+aj,
  aR (gO (m8 (c7 hr) v4 v1) (by with_unfolding_all rfl)) (ao (aB cg)) aC,
  5&&v2-aD bw v3 (az K rfl< #[v0+aj])-(v0+aj),
  aR (aG kJ v5 cg (aK _)) (ao (aB cg)) aC,
  aB (bG #[aD bw (f9 (c7 hr) v1 v4 (λ _ _=>rfl)) (v5+aj),v5+aj]))}
theorem ZR:1^"merged"^["one","other"]^sp_f59:={46,75,Kc,W6,Ka,(aR (aG kJ v0 cg (aK _)) (ao (aB v1)) aC,
  aR (aG kJ v1 cg (aK _)) (ao (aB v0)) aC,
  aR (aG gG (v0+aj) (v1+aj) (aK _)) (ao (aB (bG #[v0+aj,aD bw (v0+aj) (v1+aj)]))) aC,
  aB (kZ (aG vq (v0+aj) (v1+aj) (aK _)) v0 v1))}
theorem ZS:2^"thing_at"^["leads","gaps","paper","x"]^sp_f42:={47,73,Ke,W7,Kd,(4&&cg,
  aO K rfl v0:: ↑5::ao (4&&ZR> #[v4,ZQ> #[v5,v1,v2,v3]]),
  aB v4)}
theorem ZV:5^"near_paper"^["font","house","strip"]^sp_f19:={48,71,qt,Wc,Ku,(3&&Bu> #[v0,v1],
  dG (i:=4) nd rfl (Or.inr rfl) {[none],["x"],bU rfl z_range #[aD bw (az K rfl< #[v2]) aj],71,qt,{0,["x"]},bI,dw eO},
  tL {[none,some 1],["room","house"],bU rfl z_range #[az K rfl< #[v3]],71,qt,{0,["room","house"]},bI,kZ (aG (gk K rfl) v0 (v1+aj) (by with_unfolding_all rfl)) (bG #[aj,aj]) cg} (tK v4 (az K rfl< #[v2]) set_list),
  Cy rfl z_range #[aD iQ (az K rfl< #[v2]) aj,oK kI aj,oK kI aj]::lg (i:=5) nd rfl (Or.inr rfl)::(dG (i:=6) nd rfl (Or.inr rfl) (RZ> #[v0,v2,v5]),
  tL {[none,some 6,some 4,some 5],["leads","gaps","paper","x"],aO K rfl v3,71,qt,{0,["leads","gaps","paper","x"]},bI,(ZS> #[v0,v1,v2,v3])} (tK v4 v5 set_list)),
  aB v4)}
theorem ZW:2^"first_way"^["leads","gaps","paper","x","far"]^sp_f31:={49,78,Kw,Wd,Kv,(aO K rfl v0:: ↑5::(6&&ZQ> #[v5,v1,v2,v3],
  aR (PW.pt (kE (aG tO v6 cg (aK _)) (jK (aG gG (v6+aj) v4 (aK _))))) (ao (aB v5)) aC),
  aB cg)}
theorem ZX:5^"first_text"^["font","house","strip","paper"]^sp_f22:={50,77,KD,We,KC,(4&&Bu> #[v0,v1],
  5&&dw eO,
  6&&aj,
  7&&aj,
  ig Ś (aG vq v7 (az K rfl< #[v2]) (aK _)) (8&&ZW> #[v4-v6,RZ> #[v0,v2,v7],v3,v7,v3-v7-v6+aj],
  bH (v5++ #[v8+aj]),
  Ec (i:=7) nd rfl (Or.inl rfl) (az K rfl< #[v8+aj]) Ed,
  6&&v8+aj),
  aB (fK K rfl Ę PySem.F.slot_str_join PySem.F.type_str_join (pB K rfl) bV #[v5]))}
theorem ZZ:6^"nearest"^["font","house","strip"]^sp_f55:={51,76,KJ,Wg,KH,(3&&ZV> #[v0,v1,v2],
  4&&v3-aj-aj,
  aR (aG kJ v4 cg (aK _)) (ao (aB cg)) aC,
  aB (bG #[ZX> #[v0,v1,v2,v3],v4+aj,v4+aj]))}
theorem S7:3^"set_text"^["font","text"]^sp_f43:={52,80,KQ,Wh,KN,(2&&dw eO,
  u6 v1:: ↑3::ao (bH (fK K rfl Ĩ Ε Ζ m7 v2 #[N5> #[v0,v3]])),
  aB v2)}
theorem N6:4^"breadth"^["font","text"]^sp_f54:={53,81,KY,Wi,KR,(ao (aB (az K rfl< #[S7> #[v0,v1]])))}
theorem a00:5^"words_of"^["font","text"]^sp_f47:={54,84,La,Wj,KZ,(bH (N6> #[v0,v1]),
  aR (aG gG v1 bV (aK _)) (ao (aB (dw eO))) aC,
  2&&fK K rfl Ę PySem.F.slot_str_split PySem.F.type_str_split wg v1 #[bV],
  aR (aG (gk K rfl) bV v2 (by with_unfolding_all rfl)) (ao aZ) aC,
  aB v2)}
theorem a01:6^"broken"^["font","text","wide"]^sp_f60:={55,83,Le,Wl,Ld,(3&&a00> #[v0,v1],
  aO K rfl v3:: ↑4::ao (aR (aG jX (N6> #[v0,v4]) v2 (aK _)) (ao aZ) aC),
  5&&dw eO,
  aO K rfl v3:: ↑4::ao (aR (PW.pt (kE (aG jX (az K rfl< #[v5]) aj (aK _)) (jK (aG ji (N6> #[v0,aD bx (aD bx (v5-oK kI aj) bV) v4]) v2 (aK _))))) (ao (tL (aD bx (aD bx (v5-oK kI aj) bV) v4) (tK v5 (oK kI aj) set_list))) (ao (bH (v5++ #[v4])))),
  aB v5)}
theorem a1d:3^"filler_columns"^["font","filler"]^sp_f2:={56,87,Ru,Z2,Rt,(ao (Ak λ _ _=>(ao (aB (N5> #[v0,v1])))))}
theorem N7:6^"padded_by"^["font","house","filler"]^sp_f38:={57,86,Lg,Wn,Lf,(aR (aG fP (az K rfl< #[a1d> #[v0,v2]]) aj (aK _)) (ao aZ) aC,
  Ak λ _ _=>(ao (aB (ZP> #[v1,v2]))))}
theorem a02:4^"filled"^["font","house","filler","row","wide"]^sp_f62:={58,88,Li,Wo,Lh,(5&&S7> #[v0,v3],
  aR (bW (aW K rfl (ZM> #[v1,v3]) (λ _=>rfl))) (ao aZ) aC,
  aR (aG jX (az K rfl< #[v5]) v4 (aK _)) (ao aZ) aC,
  aB (aD xY v5 (aD Tq (N5> #[v0,v2]) (aD iQ v4 (az K rfl< #[v5])))))}
theorem a03:7^"page"^["font","house","filler","rows","wide"]^sp_f73:={59,85,zB,Wq,Lj,(bH (N7> #[v0,v1,v2]),
  aB {[none,some 0,some 1,some 2,some 4],["row","font","house","filler","wide"],aO K rfl v3,85,zB,{0,["row","font","house","filler","wide"]},bI,(a02> #[v1,v2,v3,v0,v4])})}
theorem a04:7^"read_row"^["font","house","filler","strip"]^sp_f45:={60,90,Lp,Wt,Ln,(4&&ZZ> #[v0,v1,v3],
  aR (aG kJ v4 cg (aK _)) (ao (aB cg)) aC,
  aB (bG #[fK K rfl Ę PySem.F.slot_str_rstrip PySem.F.type_str_rstrip su (v4+aj) #[v2],v4+aj,v4+aj]))}
theorem a05:8^"read_page"^["font","house","filler","strips"]^sp_f39:={61,89,zE,Wu,Lq,(dG (i:=4) nd rfl (Or.inr rfl) (N7> #[v0,v1,v2]),
  aB {[none,some 0,some 4,some 2],["strip","font","house_of_rows","filler"],aO K rfl v3,89,zE,{0,["strip","font","house_of_rows","filler"]},bI,(a04> #[v1,v2,v3,v0])})}
theorem a06:9^"page_mends"^["font","house","filler"]^sp_f25:={62,91,Ls,Wv,Lr,(ao (aB (ZC> #[v0,N7> #[v0,v1,v2]])))}
theorem a07:3^"sheet"^["height","strips"]^sp_f65:={63,93,Ly,Ww,Lw,(2&&dw eO,
  aO K rfl v1:: ↑3::(bH (RL> #[v1-aj,v3]),
  bH (fK K rfl Ĩ Ε Ζ m7 v2 #[Zi> #[v0,v3]])),
  aB v2)}
theorem a08:4^"strips_of"^["height","lines"]^sp_f35:={64,94,zF,Wx,LC,(aR (aG fP (aD cG (az K rfl< #[v1]) v0) aj (aK _)) (ao aZ) aC,
  aO K rfl v1:: ↑2::ao (bH (RN> #[v2,az K rfl< #[v1-aj]])),
  aB {[none,some 1,some 0],["first","lines","height"],Cq rfl z_range #[aj,az K rfl< #[v1],v0],94,zF,{0,["first","lines","height"]},bI,(Zk> #[cN (p6 K rfl) v1 (cQ v0) (cQ (aD bw v0 v2))])})}
theorem QF:1^"_law_cell_at"^["script","k"]^sp_f9:={65,96,Rw,Z4,Rv,(aR (aG vq v1 (az K rfl< #[v0]) (aK _)) (ao (aB (v0-v1))) aC,
  aB aj)}
theorem jl:1^"_law_mixed"^["cell","k"]^sp_f29:={66,97,LQ,Wy,LK,(ao (aB (aD cG (aD fH (aD bw (aD bw (aD fH (aD cG v0 aj) (aD bw aj (aD fH aj v1))) (aD fH (aD fH aj v1) v1)) aj) aj) aj)))}
theorem a1e:2^"_law_signs_by"^["cell","many"]^sp_f6:={67,98,Ry,Z6,Rx,(2&&bV,
  3&&aD cG v0 aj,
  4&&jt iY v2 v3 (λ _ _=>rfl),
  bU rfl z_range #[v1]:: ↑5::(3&&aD cG (aD bw (aD bw v3 aj) (aD cG (jl> #[v0,v5]) aj)) aj,
  4&&aD bx v4 (jt iY v2 v3 (λ _ _=>rfl))),
  aB v4)}
theorem a1f:2^"_law_letters_by"^["cell","signs","height"]^sp_f1:={68,99,LR,Z7,Rz,(3&&dw eO,
  bU rfl z_range #[az K rfl< #[v1]]::lg (i:=4) nd rfl (Or.inr rfl)::(5&&aD bw aj (aD cG (jl> #[v0,aD bw aj v4]) aj),
  aR (aG gG v4 (aD iQ (az K rfl< #[v1]) aj) (aK _)) (ao (5&&aj)) aC,
  zU (i:=6) [none,some 0,some 4,some 2] ["j","cell","k","height"] rfl nd rfl rfl (bU rfl z_range #[v5]) (show CScope (bR (top 99)) _ from ⟨rfl,by ac_nf,by ac_nf,by ac_nf⟩) (show capOk [none,some 0,some 4,some 2] ["j","cell","k","height"] (LR:List Str) _=true from by ac_nf) (λ _ _ _ _ _ _=>{0,["j","cell","k","height"]}) (λ _ _ _ _ _ _=>bI) (λ _ _ _ _ _ _=>(aD cG (aD fH (jl> #[v1,aD bw (aD bw aj (aD fH aj v2)) v0]) aj) (aD Ei aj v3))),
  bH (v3++ #[bG #[jt iY v1 v4 (λ _ _=>rfl),v6]])),
  aB v3)}
theorem a1g:5^"_law_house_by"^["cell","signs"]^sp_f5:={69,100,Bo,Z8,RB,(dG (i:=2) nd rfl (Or.inr rfl) (aD bw aj (aD cG (jl> #[v0,aj]) aj)),
  3&&dw eO,
  bU rfl z_range #[v2]::lg (i:=4) nd rfl (Or.inr rfl)::ao (bH (v3++ #[{[none,some 1,some 0,some 4,some 2],["j","signs","cell","k","many"],bU rfl z_range #[az K rfl< #[v1]],100,Bo,{0,["j","signs","cell","k","many"]},bI,bG #[jt iY v1 v0 (λ _ _=>rfl),aD cG (jl> #[v2,aD bw (aD bw aj (aD fH aj v3)) v0]) v4]}])),
  aB (RW> #[v3,{[none,some 2],["k","many"],bU rfl z_range #[v2],100,Bo,{0,["k","many"]},bI,aD iQ (aD iQ v1 aj) v0}]))}
theorem a09:2^"_law_text_by"^["script","signs"]^sp_f10:={70,101,M5,WD,M4,(2&&bV,
  BJ rfl z_range #[aj,m6 rfl< #[az K rfl< #[v0],aj]]:: ↑3::(4&&v0-v3,
  aR (PW.pt (kE (aG gG (aD cG (jl> #[v4,aj]) aj) aj (aK _)) (kE (aG fP v2 bV (aK _)) (jK (aG fP (jt iY v2 (oK kI aj) (λ _ _=>rfl)) bV (aK _)))))) (ao (2&&aD bx v2 bV)) (ao (2&&aD bx v2 (jt iY v1 (aD cG (jl> #[v4,aD bw aj (aD cG v3 aj)]) (az K rfl< #[v1])) (λ _ _=>rfl))))),
  aB (fK K rfl Ę PySem.F.slot_str_rstrip PySem.F.type_str_rstrip su v2 #[bV]))}
theorem a0a:1^"_law_widest"^["text","pictures"]^sp_f13:={71,102,zG,WF,M6,(2&&aj,
  aO K rfl (fK K rfl Ę PySem.F.slot_str_split PySem.F.type_str_split wg v0 #[bV]):: ↑3::ao (2&&qY rfl< #[v2,rN K rfl rfl< #[{[none,some 1],["sign","pictures"],u6 v3,102,zG,{0,["sign","pictures"]},bI,(az K rfl< #[f9 (c7 hr) v1 v0 (λ _ _=>rfl)])}]]),
  aB v2)}
theorem a0b:2^"_law_spoilt"^["lines","script","at","height","wide","most"]^sp_f15:={72,103,Mh,WK,Mg,(6&&aj,
  aR (aG tO v5 cg (aK _)) (ao (6&&m6 rfl< #[aj,v5])) aC,
  7&&vI,
  bU rfl z_range #[az K rfl< #[v1]]:: ↑8::(9&&aD bw (v1-v8) (aD fH aj v2),
  10&&bG #[aD cG (jl> #[v9,aj]) (qY rfl< #[aj,v4]),aD cG (jl> #[v9,aD bw aj (aD cG v2 aj)]) v3],
  aR (PW.pt (kE (aG jX v4 aj (aK _)) (jK (aG vq (mF< #[v7]) v6 (aK _))))) (ao (fX (c7 hr) v7 Zb gf rfl)) aC),
  aO K rfl (bL (wA rfl) rfl z_list (by ac_nf) #[v7])::cC K rfl rfl (aL ↑11 (aL ↑12 cA))::(13&&v0-aD bw (aD fH v2 v3) MP,
  14&&bV,
  aR (aG gG (jt iY Xj Xi (λ _ _=>rfl)) bV (aK _)) (ao (14&&bV)) aC,
  tL (aD bx (aD bx (cN pC Xj eZ (cQ Xi)) Zc) (cN pC Xj (cQ (aD bw Xi aj)) eZ)) (tK v0 (aD bw (aD fH v2 v3) MP) set_list)),
  aB (mF< #[v7]))}
theorem S8:1^"_law_texts"^["found","many"]^sp_f24:={73,104,Mj,WL,Mi,(aR (PW.pt (jW (bW (aW K rfl (bu K rfl< #[v0,dm (v:= .ty "list") (u:= .type "list") rfl z_list (by ac_nf) rfl]) (λ _=>rfl))) (km (aG fP (az K rfl< #[v0]) v1 (aK _))))) (ao (aB gf)) aC,
  aO K rfl v0:: ↑2::ao (aR (bW (aW K rfl (bu K rfl< #[v2,dm (v:= .ty "str") (u:= .type "str") rfl z_str (by ac_nf) rfl]) (λ _=>rfl))) (ao (aB gf)) aC),
  aB gf)}
theorem Sq:1^"_law_whole"^["found"]^sp_f28:={74,105,Mp,WM,Ml,(ao (aB (jr (bu K rfl< #[v0,dm (v:= .ty "int") (u:= .type "int") rfl z_int (by ac_nf) rfl]) (lZ (DY (bu K rfl< #[v0,dm (v:= .ty "bool") (u:= .type "bool") rfl z_bool (by ac_nf) rfl]))))))}
theorem a1h:2^"_law_readings_good"^["found","rows","turned_over"]^sp_f0:={75,106,RD,Za,RC,(aR (PW.pt (jW (bW (aW K rfl (bu K rfl< #[v0,dm (v:= .ty "list") (u:= .type "list") rfl z_list (by ac_nf) rfl]) (λ _=>rfl))) (km (aG fP (az K rfl< #[v0]) (az K rfl< #[v1]) (aK _))))) (ao (aB gf)) aC,
  bU rfl z_range #[az K rfl< #[v1]]:: ↑3::(4&&v0-v3,
  aR (PW.pt (jW (bW (aW K rfl (bu K rfl< #[v4,dm (v:= .ty "tuple") (u:= .type "tuple") rfl z_tuple (by ac_nf) rfl]) (λ _=>rfl))) (jW (aG fP (az K rfl< #[v4]) aj (aK _)) (km (bW (aW K rfl (bu K rfl< #[v4+aj,dm (v:= .ty "str") (u:= .type "str") rfl z_str (by ac_nf) rfl]) (λ _=>rfl))))))) (ao (aB gf)) aC,
  aR (PW.pt (jW (bW (aW K rfl (Sq> #[v4+aj]) (λ _=>rfl))) (jW (bW (aW K rfl (Sq> #[v4+aj]) (λ _=>rfl))) (km (aG (zV K rfl hr.units) v4 (bG #[v1-v3,v2-v3,aj]) (aK _)))))) (ao (aB gf)) aC),
  aB gf)}
end
theorem WW (X:K.In h) (G:h.Ns mainGlobals mg) (hfa:mg "law"=some (.ref fa)) (e:obs K=ans)
  : ∃fd:FuncData,(∀ (s:Shared) (v:Value),BindsTo s fd ⟨[v],[]⟩ [Prod.mk "script" v])/\ ∀base:Heap,K.In base->base.Ns mainGlobals mg->FnOk pWo w K mg base Tr 10 fa fd ["script"] (sp_f76 K):=by
 have e1:nms.map (nsIn K mainGlobals)=vls:=Ö (·.1) e;have e2:X3.map (λ d=>WX K d.1)=X3.map (λ d=>WY none d.1 d.2):=Ö (·.2.1) e;have e3:=Ö (·.2.2) e;obtain @⟨_,_,kV,dc,pm,cd,ct,_,an,_,a,lL,qL,kL⟩:=RJ (gC e2 76 rfl rfl:WX K "law"=WY none "law" 107)
 cases hfa.symm.trans (mg_of X G a);refine ⟨fnOf "law" "law" (gD (top 107)) (fU (top 107)) (bR (top 107)) .none kV dc pm an cd ct,λ s v=> .of_eq rfl,λ base _ _=> ?_⟩;have z_isinstance:mg "isinstance"=none:=mg_none_of X G (gC e1 0 rfl rfl);have z_bool:mg "bool"=none:=mg_none_of X G (gC e1 1 rfl rfl);have z_int:mg "int"=none:=mg_none_of X G (gC e1 2 rfl rfl);have z_len:mg "len"=none:=mg_none_of X G (gC e1 3 rfl rfl);have z_str:mg "str"=none:=mg_none_of X G (gC e1 4 rfl rfl);have z_ord:mg "ord"=none:=mg_none_of X G (gC e1 5 rfl rfl);have z_sum:mg "sum"=none:=mg_none_of X G (gC e1 6 rfl rfl);have z_zip:mg "zip"=none:=mg_none_of X G (gC e1 7 rfl rfl);have z_range:mg "range"=none:=mg_none_of X G (gC e1 8 rfl rfl);have z_enumerate:mg "enumerate"=none:=mg_none_of X G (gC e1 9 rfl rfl);have z_dict:mg "dict"=none:=mg_none_of X G (gC e1 10 rfl rfl);have z_min:mg "min"=none:=mg_none_of X G (gC e1 11 rfl rfl);have z_max:mg "max"=none:=mg_none_of X G (gC e1 12 rfl rfl);have z_tuple:mg "tuple"=none:=mg_none_of X G (gC e1 13 rfl rfl);have z_sorted:mg "sorted"=none:=mg_none_of X G (gC e1 14 rfl rfl);have z_list:mg "list"=none:=mg_none_of X G (gC e1 15 rfl rfl);have g_GREATEST_HEIGHT:mg "GREATEST_HEIGHT"=some (.int 60 353)/\RelV (V.int 60) (.int 60 353):=⟨mg_of X G (gC e1 16 rfl rfl),_,rfl⟩;have g_LEFT_OUT:mg "LEFT_OUT"=some (.int 37 355)/\RelV (V.int 37) (.int 37 355):=⟨mg_of X G (gC e1 17 rfl rfl),_,rfl⟩;have g_DOT:mg "DOT"=some (.str (Str.ofString "#") 413)/\RelV (V.str (Str.ofString "#")) (.str (Str.ofString "#") 413):=⟨mg_of X G (gC e1 18 rfl rfl),_,rfl⟩;have g_NO_DOT:mg "NO_DOT"=some (.str (Str.ofString ".") 415)/\RelV (V.str (Str.ofString ".")) (.str (Str.ofString ".") 415):=⟨mg_of X G (gC e1 19 rfl rfl),_,rfl⟩;have g_MOST_COLUMNS:mg "MOST_COLUMNS"=some (.int 8 647)/\RelV (V.int 8) (.int 8 647):=⟨mg_of X G (gC e1 20 rfl rfl),_,rfl⟩;have g_MOST_LETTERS:mg "MOST_LETTERS"=some (.int 40 645)/\RelV (V.int 40) (.int 40 645):=⟨mg_of X G (gC e1 21 rfl rfl),_,rfl⟩;have g_MOST_ROOMS:mg "MOST_ROOMS"=some (.int 40 681)/\RelV (V.int 40) (.int 40 681):=⟨mg_of X G (gC e1 22 rfl rfl),_,rfl⟩;have k_BlotError:mg "BlotError"=some (.ref aK0)/\ExcK K aK0:=⟨mg_of X G (gC e1 23 rfl rfl),gY (gC e3 0 rfl rfl)⟩;have k_NotAlike:mg "NotAlike"=some (.ref aK7)/\ExcK K aK7:=⟨mg_of X G (gC e1 24 rfl rfl),gY (gC e3 1 rfl rfl)⟩;have k_NoSheet:mg "NoSheet"=some (.ref aK4)/\ExcK K aK4:=⟨mg_of X G (gC e1 25 rfl rfl),gY (gC e3 2 rfl rfl)⟩;have k_NoFont:mg "NoFont"=some (.ref aK2)/\ExcK K aK2:=⟨mg_of X G (gC e1 26 rfl rfl),gY (gC e3 3 rfl rfl)⟩;have k_NoSign:mg "NoSign"=some (.ref aK5)/\ExcK K aK5:=⟨mg_of X G (gC e1 27 rfl rfl),gY (gC e3 4 rfl rfl)⟩;have k_NoHouse:mg "NoHouse"=some (.ref aK3)/\ExcK K aK3:=⟨mg_of X G (gC e1 28 rfl rfl),gY (gC e3 5 rfl rfl)⟩;have k_NoWords:mg "NoWords"=some (.ref aK6)/\ExcK K aK6:=⟨mg_of X G (gC e1 29 rfl rfl),gY (gC e3 6 rfl rfl)⟩;have k_TooWide:mg "TooWide"=some (.ref aK9)/\ExcK K aK9:=⟨mg_of X G (gC e1 30 rfl rfl),gY (gC e3 7 rfl rfl)⟩;have k_NoFiller:mg "NoFiller"=some (.ref aK1)/\ExcK K aK1:=⟨mg_of X G (gC e1 31 rfl rfl),gY (gC e3 8 rfl rfl)⟩;have k_NotTaken:mg "NotTaken"=some (.ref aK8)/\ExcK K aK8:=⟨mg_of X G (gC e1 32 rfl rfl),gY (gC e3 9 rfl rfl)⟩;have F:=xZ (st:=top 107) lL qL kL;exact F.ok (N:=qw) ⟨rfl,rfl,rfl,by ac_nf,rfl,by ac_nf,by ac_nf⟩ (λ _ _ _ _ h=>WT h) λ cdv A outer s H vs Q E hr h=>by
  have nd:List.Nodup qw:=by ac_nf
  obtain ⟨Eh,h⟩:=WR h;exact ⟨MN K E Eh,(1&&QF> #[v0,aj],
   dG (i:=2) nd rfl (Or.inr rfl) (aD bw aj (aD cG v1 aj)),
   aR (aG gG (aD cG (jl> #[v1,aj]) aj) aj (aK _)) (ao (dG (i:=2) nd rfl (Or.inr rfl) (aD bw aj (aD cG v1 aj)))) aC,
   3&&aD bw aj (aD cG (jl> #[v1,aj]) aj),
   4&&a1e> #[QF> #[v0,aj],aj],
   5&&jt iY v4 v3 (λ _ _=>rfl),
   6&&a1f> #[QF> #[v0,aj],aD bx (aD bx (cN pC v4 eZ (cQ v3)) bV) v5,v2],
   7&&ZF> #[v2,{[none,none],["sign","columns"],aO K rfl v6,107,qw,cC K rfl rfl (aL {0,["sign","columns"]} (aL {1,["sign","columns"]} cA)),bI,bG #[v0,bL (cO K rfl) rfl z_list (by ac_nf) #[v1]]}],
   8&&bL (j8 K rfl rfl) rfl z_dict (by ac_nf) #[v6],
   9&&a1g> #[QF> #[v0,aj],aD bx (cN pC v4 eZ (cQ v3)) bV],
   10&&a09> #[v0,cN pC v4 eZ (cQ v3)],
   dG (i:=11) nd rfl (Or.inr rfl) (aD bw (a0a> #[Zb,v8]) (aD cG (jl> #[v1,aj]) aj)),
   12&&a01> #[v7,Zb,Xi],
   aR (PW.pt (jW (bW (aW K rfl (bu K rfl< #[MP,dm (v:= .ty "list") (u:= .type "list") rfl z_list (by ac_nf) rfl]) (λ _=>rfl))) (jW (bW (aW K rfl (S8> #[MP,az K rfl< #[MP]]) (λ _=>rfl))) (km (aG fP (fK K rfl Ę PySem.F.slot_str_join PySem.F.type_str_join (pB K rfl) bV #[MP]) Zb (aK _)))))) (ao (aB gf)) aC,
   13&&a03> #[v7,v9,v5,bL (cO K rfl) rfl z_list (by ac_nf) #[MP],Xi],
   aR (PW.pt (jW (bW (aW K rfl (bu K rfl< #[Xj,dm (v:= .ty "list") (u:= .type "list") rfl z_list (by ac_nf) rfl]) (λ _=>rfl))) (km (aG fP (az K rfl< #[Xj]) (az K rfl< #[MP]) (aK _))))) (ao (aB gf)) aC,
   dG (i:=14) nd rfl (Or.inr rfl) (a07> #[v2,Xj]),
   aR (bW (aW K rfl (S8> #[Zc,aD fH v2 (az K rfl< #[MP])]) (λ _=>rfl))) (ao (aB gf)) aC,
   aO K rfl Zc:: ↑15::ao (aR (aG fP (az K rfl< #[v15]) Xi (aK _)) (ao (aB gf)) aC),
   dG (i:=16) nd rfl (Or.inr rfl) (a06> #[v7,v9,v5]),
   aR (aG gG v16 (oK kI aj) (aK _)) (ao (aB gf)) aC,
   dG (i:=14) nd rfl (Or.inr rfl) (bL (cO K rfl) rfl z_list (by ac_nf) #[Zc]),
   zU (i:=17) [none,some 14,some 0,some 2,some 11,some 16] ["k","lines","script","height","wide","most"] rfl nd rfl rfl (bU rfl z_range #[az K rfl< #[MP]]) (show CScope (bR (top 107)) _ from ⟨rfl,by ac_nf,by ac_nf,by ac_nf⟩) (show capOk [none,some 14,some 0,some 2,some 11,some 16] ["k","lines","script","height","wide","most"] (qw:List Str) _=true from by ac_nf) (λ _ _ _ _ _ _=>{0,["k","lines","script","height","wide","most"]}) (λ _ _ _ _ _ _=>bI) (λ _ _ _ _ _ _=>(a0b> #[v1,v2,v0,v3,v4,v5])),
   aB (a1h> #[a05> #[v7,v9,v5,a08> #[v2,Zc]],MP,v17])),h⟩
end
theorem fin:PySem.Challenge.rw_blotsure_k83_whole_page_comes_back.Holds:=by
 refine holds_law said λ said=>holds_open (q:=vw) (loose:=lo) (Xt:=λ s=>xlAt vw [] s&&recOk [] s) (XP:=XL vw []) (Ya:=λ _=>ans) (YP:=λ _ h=> ∃K:Frag,K.In h/\obs K=ans) left (λ w s e=>⟨_,Ng,e⟩) (λ w h h' ⟨K,X,e⟩ k=>⟨K,Frag.In.keeps X k,e⟩) (λ s e=>xl_of s (Bool.and_eq_true_iff.mp e).1) XL.keeps (by rfl) (by rfl) (by rfl) (λ s e=>recFacts_of (Bool.and_eq_true_iff.mp e).2) (by rfl) said (by ac_nf) ⟨rfl,rfl,rfl,rfl,rfl,by ac_nf⟩ ?hw ?hc
 case hw=>w_witness2
 rintro w s s' mg mb G ⟨K,X,e⟩;exact L2.NZ (n:=63) (k:=10) (x:="script") (CX:=λ _=>L2.Tr) (K:=λ _=>K) (YP:=λ _ h=>K.In h) (sp:=λ _=>sp_f76 K) rfl (by decide) rfl ⟨rfl,by decide,by decide⟩ (λ _ _ Y=>Y) (λ _ _ _ _ KX G hmg=>WW KX G hmg e) (λ _ _ a ns hl _ hS=>⟨a,ns,rfl,hS,hl,λ _=>rfl⟩) (λ _ _ _ _ _ z=>z) w s s' mg mb G X
end Pg
open PySem PySem.W PyProof.Rows
theorem PySem.Challenge.cw_blotsure_k83_whole_page_comes_back_holds : PySem.Challenge.rw_blotsure_k83_whole_page_comes_back.Holds :=
 Pg.fin
