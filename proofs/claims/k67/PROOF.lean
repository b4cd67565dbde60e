import PyProof.Rows.All
import Wide.All
import OpenK.AllK
import PySem.Challenge.RW_blotsure_k67_whole_page_read_again
abbrev Qb:=@List.length_map
abbrev Qr:=@List.getElem?_eq_getElem
abbrev Zl:=@List.mem_map
abbrev Zp:=@PySem.wpAny_bind
abbrev Zs:=@List.mem_singleton
abbrev Yf:=@List.mem_of_getElem?
abbrev Xs:=@List.getD_eq_getElem?_getD
abbrev Wp:=@List.map_append
abbrev Jn:=@List.getElem?_map
abbrev À:=@List.getElem?_eq_some_iff
abbrev Á:=@PySem.wpAny_pure
abbrev Â:=@List.length_append
abbrev Ã:=@PySem.Heap.get?_push_of_some
abbrev Ä:=@Nat.le_refl
abbrev Å:=@List.mem_append
abbrev Æ:=@List.map_map
abbrev Ç:=@List.mem_cons
abbrev È:=@List.map_cons
abbrev É:=@List.mem_cons_self
abbrev Ê:=@PySem.Heap.lt_size
abbrev Ë:=@PySem.Heap.get?_push_size
abbrev Ì:=@List.mem_cons_of_mem
abbrev Í:=@List.take_add_one
abbrev Î:=@Nat.le_trans
abbrev Ï:=@Option.map_eq_some_iff
abbrev Ð:=@Int.toNat_natCast
abbrev Ñ:=@Nat.lt_of_lt_of_le
abbrev Ò:=@Bool.false_ne_true
abbrev Ó:=@List.getElem_mem
abbrev Ô:=@List.length_take
abbrev Õ:=@Nat.lt_of_le_of_lt
abbrev Ö:=@List.take_length
abbrev Ø:=@List.size_toArray
abbrev Ù:=@decide_eq_true
abbrev Ú:=@List.length_singleton
abbrev Û:=@List.mem_append_right
abbrev Ü:=@decide_eq_false
abbrev Ý:=@congrArg
abbrev Þ:=@List.not_mem_nil
abbrev ß:=@Option.some.inj
abbrev à:=@Nat.zero_le
abbrev á:=@List.mem_append_left
abbrev â:=@List.nodup_append
abbrev ã:=@Nat.ne_of_lt
abbrev ä:=@Bool.false_eq_true
abbrev å:=@List.getElem?_append_right
abbrev æ:=@of_decide_eq_true
abbrev ç:=@List.length_replicate
abbrev è:=@List.take_of_length_le
abbrev é:=@List.nodup_cons
abbrev ê:=@List.getElem?_append_left
abbrev ë:=@List.getElem?_eq_none
abbrev ì:=@List.mem_filterMap
abbrev í:=@List.length_cons
abbrev î:=@List.length_drop
abbrev ï:=@Nat.le_of_lt
abbrev ð:=@List.append_assoc
abbrev ñ:=@List.mem_range
abbrev ò:=@PySem.wpAny_call_entry
abbrev ó:=@List.mem_flatMap
abbrev ô:=@List.append_nil
abbrev õ:=@List.getElem_map
abbrev ö:=@List.mem_filter
abbrev ø:=@Array.length_toList
abbrev ù:=@PySem.wpAny_newObj_type
abbrev ú:=@List.length_range
abbrev û:=@Array.getElem?_toList
abbrev ü:=@List.mem_iff_getElem?
abbrev ý:=@List.forIn_cons
abbrev þ:=@PyProof.Rows.wpS_bind
abbrev ÿ:=@PySem.wpAny_holding
abbrev Ā:=@List.map_congr_left
abbrev ā:=@Array.getElem?_eq_getElem
abbrev Ă:=@Bool.and_eq_true
abbrev ă:=@List.mem_iff_getElem
abbrev Ą:=@PyProof.Rows.callWith_type1
abbrev ą:=@PySem.Heap.SameBut.update
abbrev Ć:=@if_false
abbrev ć:=@or_false
abbrev Ĉ:=@Nat.lt_irrefl
abbrev ĉ:=@PySem.sizeLine_eq
abbrev Ċ:=@List.mem_of_find?_eq_some
abbrev ċ:=@PySem.Calls.callWith_builtin
abbrev Č:=@List.Nodup.sublist
abbrev č:=@PySem.wpAny_setField_rec
abbrev Ď:=@PySem.Paired.length
abbrev ď:=@List.length_filterMap_le
abbrev Đ:=@List.filterMap_cons
abbrev đ:=@PySem.wpAny_mono
abbrev Ē:=@List.take_append_drop
abbrev ē:=@PySem.wpAny_truthy_bool
abbrev Ĕ:=@List.map_nil
abbrev ĕ:=@Int.emod_lt_of_pos
abbrev Ė:=@PySem.W.kia_one
abbrev ė:=@List.find?_cons
abbrev Ę:=@Bool.not_true
abbrev ę:=@Nat.ne_of_gt
abbrev Ě:=@Nat.le_of_eq
abbrev ě:=@Sum.inr.inj
abbrev Ĝ:=@PySem.wpAny_field
abbrev ĝ:=@PySem.Heap.get?_update_self
abbrev Ğ:=@PyProof.Rows.wpS_pure
abbrev ğ:=@PySem.wpAny_seqItems
abbrev Ġ:=@Nat.lt_or_ge
abbrev ġ:=@Int.emod_nonneg
abbrev Ģ:=@PySem.Calls.spliced_cons
abbrev ģ:=@List.lookup_cons
abbrev Ĥ:=@PySem.F.plainAttrs_dict
abbrev ĥ:=@Nat.eq_of_testBit_eq
abbrev Ħ:=@PySem.Around.under_plainId
abbrev ħ:=@List.length_eq_zero_iff
abbrev Ĩ:=@PySem.F.plainAttrs_list
abbrev ĩ:=@List.sum_cons
abbrev Ī:=@Nat.lt_succ_of_lt
abbrev ī:=@List.take_sublist
abbrev Ĭ:=@PySem.Heap.size_push
abbrev ĭ:=@PySem.wpAny_dictEntries
abbrev Į:=@List.drop_of_length_le
abbrev į:=@Int.toNat_of_nonneg
abbrev İ:=@PyProof.Rows.slot_tuple_getitem
abbrev ı:=@List.pairwise_iff_getElem
abbrev Ĳ:=@List.mem_or_eq_of_mem_set
abbrev ĳ:=@List.drop_eq_getElem_cons
abbrev Ĵ:=@PySem.wpAny_notOrdered_dict
abbrev ĵ:=@PySem.wpAny_pyIter_tuple
abbrev Ķ:=@Nat.succ_le_succ
abbrev ķ:=@Nat.testBit_succ
abbrev ĸ:=@List.filter_cons
abbrev Ĺ:=@Nat.lt_succ_self
abbrev ĺ:=@of_decide_eq_false
abbrev Ļ:=@List.find?_eq_none
abbrev ļ:=@Nat.add_comm
abbrev Ľ:=@Nat.add_assoc
abbrev ľ:=@if_true
abbrev Ŀ:=@List.foldl_append
abbrev ŀ:=@List.pairwise_map
abbrev Ł:=@List.flatMap_cons
abbrev ł:=@Nat.add_sub_cancel_left
abbrev Ń:=@List.foldl_cons
abbrev ń:=@beq_eq_false_iff_ne
abbrev Ņ:=@List.replicate_succ
abbrev ņ:=@List.length_pos_iff
abbrev Ň:=@PySem.Heap.get?_update_other
abbrev ň:=@PySem.F.plain_min_loop
abbrev Ŋ:=@Nat.min_eq_right
abbrev ŋ:=@PySem.tupleKind_room_in1
abbrev Ō:=@Nat.mod_two_eq_zero_or_one
abbrev ō:=@PySem.wpAny_rule
abbrev Ŏ:=@List.pairwise_cons
abbrev ŏ:=@PySem.F.slot_tuple_iterator_next
abbrev Ő:=@List.lt_irrefl
abbrev ő:=@PySem.F.slot_dict_get
abbrev Œ:=@Option.map_some
abbrev œ:=@PySem.wpAny_passesOwn
abbrev Ŕ:=@Nat.testBit_and
abbrev ŕ:=@Nat.min_eq_left
abbrev Ŗ:=@PySem.codeAny_builtin
abbrev ŗ:=@List.range_succ
abbrev Ř:=@PySem.PassesOwn.never
abbrev ř:=@PySem.Calls.spliced_nil
abbrev Ś:=@PySem.Calls.evalArgs_plain
abbrev ś:=@Option.isSome_map
abbrev Ŝ:=@List.Pairwise.imp
abbrev ŝ:=@List.getElem?_set
abbrev Ş:=@List.mem_of_mem_take
abbrev ş:=@Nat.add_le_add_right
abbrev Š:=@Nat.le_succ_of_le
abbrev š:=@List.replicate_succ'
abbrev Ţ:=@PySem.mem_of_lookup
abbrev ţ:=@List.length_reverse
abbrev Ť:=@List.filter_sublist
abbrev ť:=@List.cons_append
abbrev Ŧ:=@List.getElem_inj
abbrev ŧ:=@PySem.wpAny_isInstance
abbrev Ũ:=@List.forIn_nil
abbrev ũ:=@PySem.wpAny_letGo
abbrev Ū:=@Nat.zero_add
abbrev ū:=@PySem.wpAny_Call_Name_kw
abbrev Ŭ:=@Nat.lt_trans
abbrev ŭ:=@PySem.wpAny_tupleItemsOf
abbrev Ů:=@Option.map_eq_none_iff
abbrev ů:=@List.length_pos_of_mem
abbrev Ű:=@List.nil_append
abbrev ű:=@List.length_nil
abbrev Ų:=@Nat.testBit_xor
abbrev ų:=@List.find?_some
abbrev Ŵ:=@List.any_cons
abbrev ŵ:=@List.length_filter_le
abbrev Ŷ:=@PySem.isSubtype_tuple_tuple
abbrev ŷ:=@Nat.lt_trichotomy
abbrev Ÿ:=@List.nodup_nil
abbrev Ź:=@Array.perm_iff_toList_perm
abbrev ź:=@List.drop_zero
abbrev Ż:=@PySem.Obj.data_mapDictKeys
abbrev ż:=@List.all_eq_true
abbrev Ž:=@Nat.succ.inj
abbrev ž:=@List.getElem?_range
abbrev Α:=@List.flatMap_append
abbrev Β:=@List.map_take
abbrev Γ:=@PySem.F.slot_list_extend
abbrev Δ:=@PySem.F.type_list_extend
abbrev Ε:=@PySem.wpAny_execs_nil
abbrev Ζ:=@Bool.eq_iff_iff
abbrev Η:=@List.length_set
abbrev Θ:=@PySem.wpAny_specialOf
abbrev Ι:=@Int.natCast_nonneg
abbrev Κ:=@List.zip_cons_cons
abbrev Λ:=@PySem.call_meets
abbrev Μ:=@PySem.Obj.data_mapFields
abbrev Ν:=@Nat.lt_or_eq_of_le
abbrev Ξ:=@LawfulBEq.eq_of_beq
abbrev Ο:=@PySem.wpAny_Call_method0_late
abbrev Ρ:=@PySem.F.slot_dict_items
abbrev Τ:=@List.getElem?_set_self
abbrev Υ:=@Bool.false_and
abbrev Φ:=@PySem.wpAny_pyNext_range_end
abbrev Χ:=@PySem.wpAny_pyIter_rangeiter
abbrev Ψ:=@PySem.wpAny_pyIter_list
abbrev Ω:=@List.flatten_cons
abbrev δ:=@PySem.F.entry_dict_get
abbrev ε:=@PySem.wpAny_Call_method
abbrev ζ:=@List.range_succ_eq_map
abbrev η:=@PySem.wpAny_setField
abbrev θ:=@PyProof.Rows.wpS_forRange
abbrev ι:=@PySem.wpAny_tryCatch
abbrev ν:=@PySem.wpAny_isOneOf_itemiter
abbrev ξ:=@Bool.eq_false_iff
abbrev ο:=@List.flatMap_singleton
abbrev π:=@List.find?_cons_of_pos
abbrev ρ:=@List.find?_cons_of_neg
abbrev ς:=@Classical.not_not
abbrev τ:=@PySem.F.plainAttrs_str
abbrev υ:=@PySem.F.slot_tuple_lt
abbrev χ:=@PySem.wpAny_isOneOf_keyiter
abbrev ψ:=@List.getElem?_toArray
abbrev ω:=@List.filterMap_append
abbrev ϲ:=List (List (PySem.Str×List Nat×Int))
abbrev ϳ:=List (PySem.Str×List Nat×Int)
abbrev ϴ:=PySem.Str×List Nat×Int
abbrev ϵ:=List (PySem.Str×List Nat)
abbrev ϶:=PySem.Value->PySem.Shared->Prop
abbrev Ϸ:=List (PySem.Addr×List Nat)
abbrev ϸ:=List (PySem.Addr×PySem.Obj)
abbrev Ϲ:=List (Option (Nat×Nat))
abbrev Ϻ:=Option (Nat×Nat)
abbrev ϻ:=Nat×Nat
abbrev ϊ:=List
abbrev ϋ:=PySem.Value
abbrev ό:=PySem.Addr
abbrev ύ:=Option
abbrev ώ:=PySem.Shared
abbrev Ϗ:=PySem.W.Frag
abbrev ϐ:=PySem.Str
abbrev ϑ:=Bool
abbrev ϒ:=PySem.Heap
abbrev ϓ:=PySem.Program
abbrev ϔ:=Array
abbrev ϕ:=PySem.World
abbrev ϖ:=PySem.Around
set_option Elab.async false
set_option linter.all false
set_option maxRecDepth 100000
noncomputable section
local macro_rules | `(↑$x) => `(($x).length)
local macro_rules | `(tactic| ac_nf) => `(tactic| decide+kernel)
set_option maxHeartbeats 4000000
local macro_rules | `(tactic| rfl') => `(tactic| first | lia | omega)
local macro_rules | `(tactic| show $e) => `(tactic| refine $e)
local macro_rules | `(!$e) => `(some $e)
local macro_rules | `(#[$a,*]) => `(⟨$a,*⟩)
local macro_rules | `(tactic| let $p:term $[:$t]? :=$e)=>do
 let rec g:Nat->Lean.Term->Lean.MacroM (Lean.TSyntax `Lean.Parser.Tactic.rcasesPatMed)
  |0,_=>Lean.Macro.throwUnsupported
  |n+1,t=>do
   match t with
   |`(#[$a,*])=>do
    let b<-a.getElems.mapM (g n)
    `(Lean.Parser.Tactic.rcasesPatMed|⟨$[$b:rcasesPatMed],*⟩)
   |`($i:ident)=>`(Lean.Parser.Tactic.rcasesPatMed|$i:ident)
   |_=>`(Lean.Parser.Tactic.rcasesPatMed|_)
 `(tactic| obtain $(<-g 9 p):rcasesPatMed $[:$t]? :=$e)
local macro_rules | `(()) => `(by rfl')
namespace L2
open PySem
def gF(s:Stmt):Arguments:=match s with
 |.FunctionDef _ a _ _ _ _ _ _ _ _=>a
 |_=>{posonlyargs:=[],args:=[],vararg:=none,kwonlyargs:=[],kw_defaults:=[],kwarg:=none,defaults:=[] }
def fM(s:Stmt):ϊ Stmt:=match s with
 |.FunctionDef _ _ b _ _ _ _ _ _ _=>b
 |_=>[]
def bu(s:Stmt):Scope:=match s with
 |.FunctionDef _ _ _ _ _ _ sc _ _ _=>sc
 |_=>{kind:=.function,names:=[],isGenerator:=false,isCoroutine:=false}
end L2
abbrev pWo:=PySem.Challenge.pw_blotsure_k67_whole_page_read_again
abbrev L1S:=ϊ (PySem.Str×Int)
abbrev L2S:=ϊ L1S
namespace Pg
open PySem L2 PySem.W
set_option maxHeartbeats 0
def top(i:Nat):Stmt:=pWo.main.body.getD i (.Pass #[0,0,0,0])
def live:Obj->ύ Obj|⟨_,_,.freed,_⟩=>none|o=>!o
def Eo(h:ϒ)(a:ό):h.get? a=h.objs[a]?.bind live:=by
 unfold Heap.get?;cases h.objs[a]?with
 |none=>rfl
 |some o=>let#[_,_,d,_]:=o;cases d<;>rfl
def R3:ϊ Obj->Nat->ϊ ό->Frag
 |o::os,i,a::as=>if a==i then((live o).map (a,·)).toList++R3 os (i+1) as else R3 os (i+1) (a::as)
 |_,_,_=>[]
theorem Ep:∀{l:ϊ Obj}{i:Nat}{d:ϊ ό},(R3 l i d).lookup b=!x->∃j,b=i+j/\l[j]?.bind live=!x
 |[],i,d,e=>by simp[R3]at e
 |o::os,i,[],e=>by simp[R3]at e
 |o::os,i,a::d,e=>by
  have r:∀c,(R3 os (i+1) c).lookup b=!x->∃j,b=i+j/\(o::os)[j]?.bind live=!x:=λc q=>by
   let#[j,rfl,k]:=Ep q;show#[j+1,Nat.succ_add_eq_add_succ i j,k]
  unfold R3 at e;split at e
  .rename_i z;cases q:live o with
   |none=>rw[q]at e;show r _ e
   |some y=>
    rw[q]at e;simp only[Œ,Option.toList_some,ť,Ű,ģ]at e;split at e
    .rename_i u;cases e;rw[Ξ u,Ξ z];show#[0,rfl,q]
    .show r _ e
  .show r _ e
def Xw(as:ϊ ό)(h:ϒ):Frag:=R3 h.objs.toList 0 as
def NZ:(Xw a h).In h:=λb o e=>by
 let#[j,rfl,k]:=Ep e;rw[Eo,Ū];simpa using k
abbrev DO:=ϐ×ϐ×Arguments×FuncBody×Scope×ό×ϊ (ϐ×ό)×ό×ϑ×ϑ
def Xf(K:Frag)(n:ϐ):ύ (ύ ό×DO):=match nsIn K mainGlobals n with
 |some !(.ref f)=>match K.lookup f with
  |some ⟨_,_,.func d,_⟩=>(match d.defaults with|.none=>!none|.ref t=>!(!t)|_=>none).map λt=>(t,d.name,d.qualname,d.params,d.body,d.scope,d.globals,d.closure,d.builtins,codeIn K d.code n,keepIn K (.ref f))
  |_=>none
 |_=>none
def Xg(t:ύ ό)(n:ϐ)(i:Nat):ύ (ύ ό×DO):=!(t,n,n,gF (top i),.stmts (fM (top i)),bu (top i),mainGlobals,[],builtinsNs,true,true)
def exB(K:Frag)(C:ό):ϑ×ϊ (ύ (ύ ϋ))×ϊ (ύ ϑ):=
 (excIn K C [.type "ValueError",.type "Exception",.type "BaseException",.type "object"] "ValueError.__new__",[findIn K (.ref C) "__getattribute__",findIn K (.ref C) "__getattr__",findIn K (.ref C) "__class__",specialIn K (.builtin "object.__class__") "__get__"],[takesIn K (.builtin "object.__class__"),mroIn K C (.type "object"),subIn K (.ref C) (.type "BaseException")])
def Nz:ϑ×ϊ (ύ (ύ ϋ))×ϊ (ύ ϑ):=(true,[!(!(.builtin "BaseException.__getattribute__")),!none,!(!(.builtin "object.__class__")),!(!(.builtin "getset_descriptor.__get__"))],[!true,!true,!true])
noncomputable def nms:ϊ ϐ:=(["isinstance","bool","int","len","str","ord","sum","zip","range","enumerate","dict","min","max","list","tuple","sorted","GREATEST_HEIGHT","LEFT_OUT","DOT","NO_DOT","MOST_ROOMS","BlotError","NotAlike","NoSheet","NoSign","NoHouse","TooWide","NoFiller","NotTaken"]:ϊ String).map Str.ofString
noncomputable def vls:ϊ (ύ (ύ ϋ)):=[!none,!none,!none,!none,!none,!none,!none,!none,!none,!none,!none,!none,!none,!none,!none,!none,!(!(.int 60 321)),!(!(.int 37 323)),!(!(.str (Str.ofString "#") 373)),!(!(.str (Str.ofString ".") 375)),!(!(.int 40 617)),!(!(.ref 24)),!(!(.ref 37)),!(!(.ref 49)),!(!(.ref 61)),!(!(.ref 73)),!(!(.ref 85)),!(!(.ref 97)),!(!(.ref 109))]
def Xh:ϊ (ϐ×Nat):=((["is_whole","is_height","is_sign","inked","column_of","apart","check_alike","gap","drawn_line","drawn","check_line","column_at","undrawn","lettered","ways_of","costs_over","texts_to_rooms","stand_behind","forks","steps_by","all_steps","steps_back","is_even","let_wait","rests","grown","texts_of_fork","step_on","led_on","farness","mends","columns_of","check_rooms","check_room","made_doors","made_ends","make_house","room_behind","goes","takes","padded","gaps_at","thing_through","merged","thing_at","near_paper","first_way","first_text","nearest","set_text","filler_columns","padded_by","filled","page","read_row","read_page","page_mends","sheet","strips_of","_law_cell_at","_law_whole","_law_signs","_law_height","_law_columns","_law_letters","_law_house_signs","_law_sums","_law_house","_law_taken","_law_rows","_law_blots","_law_blotted","_law_read","law"]:ϊ String).map Str.ofString).zip [12,13,14,15,16,17,22,21,24,23,26,27,25,30,29,34,33,35,32,36,37,41,42,40,39,45,44,47,46,43,48,50,54,57,55,56,53,59,58,60,62,65,67,68,66,64,71,70,69,73,77,76,78,75,80,79,81,83,84,86,87,88,89,90,91,92,93,94,95,96,97,98,99,100]
noncomputable def obs(K:Frag):=(nms.map (nsIn K mainGlobals),Xh.map (λd=>Xf K d.1),[24,37,49,61,73,85,97,109].map (exB K))
noncomputable def ans:ϊ (ύ (ύ ϋ))×ϊ (ύ (ύ ό×DO))×ϊ (ϑ×ϊ (ύ (ύ ϋ))×ϊ (ύ ϑ)):=(vls,Xh.map (λd=>Xg none d.1 d.2),[Nz,Nz,Nz,Nz,Nz,Nz,Nz,Nz])
def vw:ϓ:={pWo with main:={pWo.main with body:=[100].filterMap (pWo.main.body[·]?)}}
noncomputable def lo:ϊ ϐ:=(["BlotError","NotAlike","NoSheet","NoSign","NoHouse","TooWide","NoFiller","NotTaken","GREATEST_HEIGHT","LEFT_OUT","is_whole","is_height","is_sign","inked","column_of","apart","DOT","NO_DOT","gap","check_alike","drawn","drawn_line","undrawn","check_line","column_at","ways_of","lettered","forks","texts_to_rooms","costs_over","stand_behind","steps_by","all_steps","rests","let_wait","steps_back","is_even","farness","texts_of_fork","grown","led_on","step_on","mends","columns_of","MOST_ROOMS","make_house","check_rooms","made_doors","made_ends","check_room","goes","room_behind","takes","padded","near_paper","gaps_at","thing_at","thing_through","merged","nearest","first_text","first_way","set_text","page","padded_by","filler_columns","filled","read_page","read_row","page_mends","sheet","strips_of","_law_cell_at","_law_whole","_law_signs","_law_height","_law_columns","_law_letters","_law_house_signs","_law_sums","_law_house","_law_taken","_law_rows","_law_blots","_law_blotted","_law_read"]:ϊ String).map Str.ofString
theorem said:PySem.Challenge.rw_blotsure_k67_whole_page_read_again.wellSaid=true:=by kernel_rfl
def spl{a b c:Type}{o:ύ a}{f:a->b}{g:a->c}{x:b}{y:c}(h:o.map f=!x)(k:o.map g=!y):o.map (λs=>(f s,g s))=!(x,y):=by cases o with|none=>cases h|some s=>cases h;cases k;rfl
def Xx(w:ϕ):(openEnds treeTable pWo w 8294).map (λs=>openSeen vw lo (importedModules pWo.main.body) (λs=>xlAt vw [] s&&recOk [] s) true s)=!(openGood vw lo):=by
 unfold openEnds fencedOpening topFrom;rw[PySem.W.Fast.te14082659384304107361,PySem.W.Fast.te10274390034422433532,PySem.W.Fast.te14289696077712309145,PySem.W.Fast.te1435165496053646825]
 kernel_rfl
noncomputable def ob(s:ώ):=obs (Xw [2,3,15,22,23,24,25,28,35,36,37,40,47,48,49,52,59,60,61,64,71,72,73,76,83,84,85,88,95,96,97,100,107,108,109,112,114,115,117,118,119,121,122,124,125,126,128,129,131,132,133,135,136,138,139,140,142,143,145,146,147,149,150,152,153,154,157,158,159,161,162,164,165,166,169,170,171,174,175,176,179,180,181,183,184,186,187,188,191,192,193,196,197,198,201,202,203,205,206,208,209,210,212,213,215,216,217,219,220,222,223,224,226,227,229,230,231,234,235,236,239,240,241,244,245,246,248,249,251,252,253,255,256,258,259,260,262,263,265,266,267,270,271,272,274,275,277,278,279,281,282,284,285,286,288,289,291,292,293,295,296,298,299,300,302,303,305,306,307,309,310,312,313,314,317,318,319,321,322,324,325,326,328,329,331,332,333,335,336,338,339,340,342,343,345,346,347,349,350,352,353,354,356,357,359,360,361,363,364,366,367,368,371,372,373,376,377,378,380,381,383,384,385,387,388,390,391,392,394,395,397,398,399,401,402,404,405,406,408,409,411,412,413,415,416,418,419,420,422,423,425,426,427,429,430,432,433,434,437,438,439,441,442,444,445,446,448,449,451,452,453,455,456,458,459,460,463,464,465,467,468,470,471,472,474,475,477,478,479,481,482,484,485,486,489,490,491,493,494,496,497,498,500,501,503,504,505,507,508,510,511,512,514,515,517,518,519,521,522,524,525,526,528,529,531,532,533,536,537,538,541,542,543,546,547,548,550,551,553,554,555,558,559,560,563,564,565,567,568,570,571,572,574,575,577,578,579,582,583] s.heap)
def Xy(w:ϕ):(openEnds treeTable pWo w 8294).map ob=!ans:=by
 unfold openEnds fencedOpening topFrom;rw[PySem.W.Fast.te14082659384304107361,PySem.W.Fast.te10274390034422433532,PySem.W.Fast.te14289696077712309145,PySem.W.Fast.te1435165496053646825]
 kernel_rfl
theorem left:LeftO pWo vw lo (λs=>xlAt vw [] s&&recOk [] s) ob (λ_=>ans) 8294:=λw=>spl (Xx w) (Xy w)
end Pg
set_option Elab.async false
set_option linter.all false
set_option maxRecDepth 100000
namespace L2
open PySem PySem.Spec PyProof.Rows
variable{M:Model}{w:ϕ}{A:ϖ}{d':Drawn}{cd u:ϋ}{p:ό×Obj}{qual x:ϐ}{c e tg:Expr}{fd:FuncData}{op op':CmpOp}{pos pos':Pos}{s' s1:ώ}{a b dx it:ό}{an:ύ ό}{i j k n t':Nat}{outer:ϊ Env}{sc scope:Scope}{ch fp:ϊ ό}{g:Int->Int->Int}{C:Int->Int->Prop}{params:Arguments}{body st:ϊ Stmt}{g':ϔ GenState}{its us:ϊ ϋ}{E Q:϶}{mA mg:ϐ->ύ ϋ}{osl:ϔ (ύ ϋ)}{f:ϋ->ϋ->Sem ϋ}{pins pins':ϸ}
abbrev Key:=Sum Int ϐ
def gG:Key->ϋ->ϑ
 |.inl k,v=>Value.isInt k v
 |.inr x,v=>Value.isStrOf x v
def a0s(w:ϕ):Key->Int
 |.inl k=>hashInt k
 |.inr x=>hashStr w x
theorem bw:∀{k:Key}{v:ϋ},gG k v=true->(∃i t,k=Sum.inl i/\v=Value.int i t)\/(∃x t,k=Sum.inr x/\v=Value.str x t)
 |.inl i,v,h=>by
  let#[t,e]:=Value.isInt_shape (k:=i) (v:=v) h;show .inl #[i,t,rfl,e]
 |.inr x,v,h=>by
  let#[t,e]:=Value.isStrOf_shape (x:=x) (v:=v) h;show .inr #[x,t,rfl,e]
theorem Cg(i:Int)(t:Tok):gG (.inl i) (.int i t)=true:=by simp[gG,Value.isInt]
theorem rH(x:ϐ)(t:Tok):gG (.inr x) (.str x t)=true:=by simp[gG,Value.isStrOf]
theorem T8(a b:Int):decide ((Sum.inl a:Key)=Sum.inl b)=(a==b):=by
 by_cases e:a=b
 .subst e;simp
 .have h:¬(Sum.inl a:Key)=Sum.inl b:=λq=>e (Sum.inl.inj q)
  rw[Ü h];show(ń.mpr e).symm
theorem T9(a b:ϐ):decide ((Sum.inr a:Key)=Sum.inr b)=decide (a=b):=by
 by_cases e:a=b
 .subst e;simp
 .have h:¬(Sum.inr a:Key)=Sum.inr b:=λq=>e (ě q)
  rw[Ü h,Ü e]
def Tc(a:Int)(b:ϐ):decide ((Sum.inl a:Key)=Sum.inr b)=false:=Ü (λq=>nomatch q)
def Td(a:ϐ)(b:Int):decide ((Sum.inr a:Key)=Sum.inl b)=false:=Ü (λq=>nomatch q)
def bf(prog:ϓ)(w:ϕ):PySem.KeyKind prog w Key where
 is:=gG
 hash:=a0s w
 inj:=λv a b ha hb=>by
  rcases bw ha with⟨i,t,rfl,rfl⟩|⟨x,t,rfl,rfl⟩
  .rcases bw hb with⟨j,u,rfl,e⟩|⟨y,u,rfl,e⟩
   .injection e with e1 _;rw[e1]
   .show nomatch e
  .rcases bw hb with⟨j,u,rfl,e⟩|⟨y,u,rfl,e⟩
   .show nomatch e
   .injection e with e1 _;rw[e1]
 byValue:=λk v h=>by
  rcases bw h with⟨i,t,rfl,rfl⟩|⟨x,t,rfl,rfl⟩<;>rfl
 pyHash:=λhv h=>by
  rcases bw hv with⟨i,t,rfl,rfl⟩|⟨x,t,rfl,rfl⟩
  .show wpAny_pyHash_int h
  .show wpAny_pyHash_str h
 eqBool:=λhu hv h=>by
  rcases bw hu with⟨i,t,rfl,rfl⟩|⟨x,t,rfl,rfl⟩
  .rcases bw hv with⟨j,u,rfl,rfl⟩|⟨y,u,rfl,rfl⟩
   .rw [T8]at h;show wpAny_eqBool_int h
   .rw [Tc]at h;show SeqAt.EqAt.int_str i t y u _ _ _ _ h
  .rcases bw hv with⟨j,u,rfl,rfl⟩|⟨y,u,rfl,rfl⟩
   .rw [Td]at h;show SeqAt.EqAt.str_int x t j u _ _ _ _ h
   .rw [T9]at h;show wpAny_eqBool_str h
 «strs»:=λk x t v h=>by
  rcases bw h with⟨i,u,rfl,e⟩|⟨y,u,rfl,e⟩
  .show nomatch e
  .injection e with e1 _
   subst e1
   cases v<;>rfl
def jZ(a:ϓ)(w:ϕ)(k:Key)(v:ϋ):(bf a w).is k v=gG k v:=rfl
def vp(a:ϓ)(w:ϕ)(i:Int)(t:Tok):(bf a w).is (.inl i) (.int i t)=true:=Cg i t
def vq(a:ϓ)(w:ϕ)(x:ϐ)(t:Tok):(bf a w).is (.inr x) (.str x t)=true:=rH x t
inductive V where
 |non|bl (b:ϑ)|int (i:Int)|str (x:ϐ)|byt (b:ϔ UInt8)|flt (b:UInt64)|ref (a:ό)|ty (n:String)
 deriving DecidableEq
variable{v y:V}{ys:ϊ V}{σ':ϊ (ύ V)}
def RelV:V->ϋ->Prop
 |.non,u=>u=Value.none
 |.bl b,u=>u=Value.bool b
 |.int i,u=>∃t,u=Value.int i t
 |.str x,u=>∃t,u=Value.str x t
 |.byt b,u=>∃t,u=Value.bytes b t
 |.flt b,u=>∃t,u=Value.float b t
 |.ref a,u=>u=Value.ref a
 |.ty n,u=>u=Value.type n
abbrev Vals:ϊ V->ϊ ϋ->Prop:=Paired RelV
def Vals.length{a:ϊ V}(r:Vals a us):↑a=↑us:=Ď r
theorem Vals.get:∀{xs:ϊ V}{us:ϊ ϋ}{i:Nat}{x:V},Vals xs us->xs[i]?=!x->∃u,us[i]?=!u/\RelV x u
 |_,_,_,_,.nil,e=>by simp at e
 |_,_,0,_,.cons r _,e=>by simp at e;subst e;show#[_,rfl,r]
 |_,_,i+1,x,.cons _ t,e=>by
  let#[u,a,b]:=Vals.get (i:=i) (x:=x) t (by simpa using e);show#[u,by simpa using a,b]
theorem Vals.set{x:V}(r:RelV x u):∀{xs:ϊ V}{us:ϊ ϋ}(i:Nat),Vals xs us->Vals (xs.set i x) (us.set i u)
 |_,_,_,.nil=>.nil
 |_,_,0,.cons _ t=>.cons r t
 |_,_,i+1,.cons q t=>.cons q (Vals.set r i t)
theorem Vals.append{b:ϊ V}{a:ϊ ϋ}(r:Vals b us)(s:Vals ys a):Vals (b++ys) (us++a):=by
 induction r with
 |nil=>show s
 |cons r _ ih=>show .cons r ih
theorem Vals.take:∀{xs:ϊ V}{us:ϊ ϋ}(n:Nat),Vals xs us->Vals (xs.take n) (us.take n)
 |_,_,0,_=>.nil
 |_,_,_+1,.nil=>.nil
 |_,_,n+1,.cons r t=>.cons r (Vals.take n t)
theorem Vals.drop:∀{xs:ϊ V}{us:ϊ ϋ}(n:Nat),Vals xs us->Vals (xs.drop n) (us.drop n)
 |_,_,0,r=>r
 |_,_,_+1,.nil=>.nil
 |_,_,n+1,.cons _ t=>Vals.drop n t
def RelO:ύ V->ύ ϋ->Prop
 |some v,!u=>RelV v u
 |none,none=>True
 |_,_=>False
def KV{κ:Type}:ϊ (κ×V)->ϊ (κ×ϋ)->Prop:=Paired λ(p:κ×V) (q:κ×ϋ)=>p.1=q.1/\RelV p.2 q.2
def kV:Key->V
 |.inl i=>.int i
 |.inr x=>.str x
inductive HO where
 |lst (xs:ϊ V)
 |tup (xs:ϊ V)
 |dK (kvs:ϊ (Key×V))|dT (kvs:ϊ (ϊ Key×V))
 |set (S:Int->ϑ) (n:Nat)
 |ins (C dx:ό) (fs:ϊ (ϐ×V))
 |own (x:ό)
 |xd (fs:ϊ (ϐ×V))
 |met (f x:ό)
 |rng (lo hi:Int)
 |frz (o:Obj) (u:HO)
 |tbl (ps:ϔ ϋ)
 |ext (φ:ϒ->Prop)
abbrev Hp:=ό->ύ HO
variable{H:Hp}{R:V->V->Hp->Prop}
def upd(H:Hp)(a:ό)(o:HO):Hp:=λb=>if b=a then !o else H b
theorem aa:upd H a o a=!o:=by unfold upd;rw[if_pos rfl]
theorem ao(h:b≠a):upd H a o b=H b:=by unfold upd;rw[if_neg h]
theorem fZ{u:HO}(h:H a=!o)(c:H b=!u)(d:o≠u):a≠b:=by
 intro e;subst e;rw[h]at c;show d (ß c)
theorem aU(h:H a=!o)(c:H b=none):a≠b:=by
 intro e;subst e;rw[h]at c;cases c
section
variable(P:ϓ)(w:ϕ)
def ObjOk(H:Hp)(h:ϒ)(a:ό):HO->Prop
 |.lst xs=>↑xs<=sizeLine/\∃(its:ϊ ϋ)(n:Nat),Vals xs its/\h.get? a=!{cls:=.type "list",data:=.seq its.toArray n}
 |.tup xs=>↑xs<=sizeLine/\∃its:ϊ ϋ,Vals xs its/\IsTup h a its.toArray
 |.dK kvs=>↑kvs<=sizeLine/\(a==sysModules)=false/\∃vs,KV kvs vs/\h.DictOf (bf P w) a vs
 |.dT kvs=>↑kvs<=sizeLine/\(a==sysModules)=false/\∃xs:ϊ (ϊ Key×ό×ϋ),
   Paired (λ(p:ϊ Key×V) (q:ϊ Key×ό×ϋ)=>p.1=q.1/\H q.2.1=!(.tup (p.1.map kV))/\RelV p.2 q.2.2) kvs xs/\
   ∃o es ep,h.get? a=!o/\o.ExactDict/\o.data=.dict es ep/\es.toList=xs.map (entryOfKey (tupleKind (bf P w)))/\(xs.map (·.1)).Nodup
 |.set S n=>h.SetOf (intKind P w) a S n
 |.ins C dx fs=>H dx=!(.own a)/\↑fs<=1000/\dx≠a/\h.get? a=!(PySem.W.instObj C dx)/\
   ∃mA,h.Ns1 dx mA/\(∀f,RelO (fs.lookup f) (mA f))/\PySem.Within mA (fs.map (·.1))
 |.own _=>∃o,h.get? a=!o
 |.xd fs=>∃mA,h.Ns1 a mA/\∀f,RelO (fs.lookup f) (mA f)
 |.rng lo hi=>∃t u v,h.get? a=!{cls:=.type "range",data:=.fields ([.int lo t,.int hi u,.int 1 v].toArray)}
 |.frz o u=>h.get? a=!o/\ObjOk H h a u
 |.tbl ps=>h.get? a=!{cls:=.none,data:=.fields ps}
 |.met f x=>h.get? a=!(PySem.W.methodObj (.ref f) (.ref x))
 |.ext φ=>φ h/\(∃o,h.get? a=!o)/\∀h1 h2:ϒ,φ h1->(∀o,h1.get? a=!o->h2.get? a=!o)->φ h2
def HOk(H:Hp)(h:ϒ):Prop:=∀a o,H a=!o->ObjOk P w H h a o
end
section
theorem ObjOk.lt(x:ObjOk P w H h a o):a<h.objs.size:=by
 cases o with
 |lst xs=>let#[_,_,_,_,e]:=x;show Ê e
 |tup xs=>let#[_,_,_,p]:=x;show p.lt
 |dK kvs=>let#[_,_,_,_,o,_,_,e,_]:=x;show Ê e
 |dT kvs=>let#[_,_,_,_,o,_,_,e,_]:=x;show Ê e
 |set S n=>let#[o,_,_,_,e,_]:=x;show Ê e
 |ins C dx fs=>let#[_,_,_,e,_]:=x;show Ê e
 |own y=>let#[_,e]:=x;show Ê e
 |xd fs=>let#[_,#[_,_,_,e,_],_]:=x;show Ê e
 |rng lo hi=>let#[_,_,_,e]:=x;show Ê e
 |frz ob u=>let#[e,_]:=x;show Ê e
 |tbl ps=>show Ê (show h.get? a=!_ from x)
 |met f y=>show Ê (show h.get? a=!_ from x)
 |ext φ=>let#[_,#[_,e],_]:=x;show Ê e
theorem Paired.mapP{e g:Type}{F G:e->g->Prop}{c:ϊ e}{d:ϊ g}(r:Paired F c d)(f:∀a b,F a b->G a b):Paired G c d:=by
 induction r with
 |nil=>show .nil
 |cons r _ ih=>show .cons (f _ _ r) ih
theorem ObjOk.stay(x:ObjOk P w H h a o)(k:∀b u,(b=a\/H b=!(.own a))->h.get? b=!u->h'.get? b=!u)
  (B:∀b,H b=!(.own a)->H' b=!(.own a)) (D:∀b xs,H b=!(.tup xs)->H' b=!(.tup xs)):ObjOk P w H' h' a o:=by
 induction o with
 |lst xs=>let#[z,j,n,r,e]:=x;show#[z,j,n,r,k _ _ (.inl rfl) e]
 |tup xs=>let#[z,j,r,ob,e,c]:=x;show#[z,j,r,ob,k _ _ (.inl rfl) e,c]
 |dK kvs=>let#[z,y,F,r,ob,i,g,e,c]:=x;show#[z,y,F,r,ob,i,g,k _ _ (.inl rfl) e,c]
 |dT kvs=>
  let#[z,y,xs,r,ob,i,g,e,c]:=x;show#[z,y,xs,Paired.mapP r λp q z=>#[z.1,D _ _ z.2.1,z.2.2],ob,i,g,k _ _ (.inl rfl) e,c]
 |set S n=>let#[ob,i,g,t,e,c]:=x;show#[ob,i,g,t,k _ _ (.inl rfl) e,c]
 |ins C dx fs=>
  let#[d,z,E,e,l,#[m,i,g,A,c],r]:=x;show#[B _ d,z,E,k _ _ (.inl rfl) e,l,#[m,i,g,k _ _ (.inr d) A,c],r]
 |own y=>let#[ob,e]:=x;show#[ob,k _ _ (.inl rfl) e]
 |xd fs=>let#[l,#[m,i,g,e,c],r]:=x;show#[l,#[m,i,g,k _ _ (.inl rfl) e,c],r]
 |rng lo hi=>let#[t,u,v,e]:=x;show#[t,u,v,k _ _ (.inl rfl) e]
 |frz ob u ih=>let#[e,q]:=x;show#[k _ _ (.inl rfl) e,ih q]
 |tbl ps=>
  have e:h.get? a=!{cls:=.none,data:=.fields ps}:=x;change h'.get? a=!{cls:=.none,data:=.fields ps};show k a _ (.inl rfl) e
 |met f y=>
  have e:h.get? a=!(PySem.W.methodObj (.ref f) (.ref y)):=x;change h'.get? a=!(PySem.W.methodObj (.ref f) (.ref y));show k a _ (.inl rfl) e
 |ext φ=>let#[p,#[o,e],s]:=x;show#[s _ _ p λo q=>k _ _ (.inl rfl) q,#[o,k _ _ (.inl rfl) e],s]
theorem HOk.lt(x:HOk P w H h)(e:H a=!o):a<h.objs.size:=(x a o e).lt
theorem HOk.fresh(x:HOk P w H h)(e:h.objs.size<=a):H a=none:=by
 cases q:H a with
 |none=>rfl
 |some u=>show absurd (Ñ (x.lt q) e) (Ĉ _)
theorem HOk.kept(x:HOk P w H h)(k:∀b u,h.get? b=!u->h'.get? b=!u):HOk P w H h':=λa o e=>
 (x a o e).stay (λb u _ q=>k b u q) (λ_ q=>q) λ_ _ q=>q
theorem HOk.laid(x:HOk P w H h)(k:∀b u,h.get? b=!u->h'.get? b=!u)(i:h.objs.size<=a)(d:ObjOk P w (upd H a o) h' a o):HOk P w (upd H a o) h':=λb u e=>by
 have g:=x.fresh i;by_cases f:b=a
 .subst f;rw[aa]at e;cases e;show d
 .rw [ao f]at e;show(x b u e).stay (λc v _ q=>k c v q) (λc q=>by rw[ao (aU q g)];show q) λc j q=>by rw[ao (aU q g)];show q
end
def Rd(H:Hp)(a:ό)(u:HO):Prop:=H a=!u\/∃o,H a=!(.frz o u)
theorem Rd.ok{u:HO}(r:Rd H a u)(x:HOk P w H h):ObjOk P w H h a u:=by
 rcases r with r|⟨o,r⟩
 .show x a u r
 .obtain ⟨_,q⟩:=x a _ r;show q
def Xz:ύ HO->Prop
 |some (.lst _)=>True
 |some (.dK _)=>True
 |some (.dT _)=>True
 |some (.set _ _)=>True
 |some (.ins _ _ _)=>True
 |some (.ext _)=>True
 |_=>False
section
variable{P:ϓ}{w:ϕ}{H:Hp}{h h':ϒ}{x e:ό}{o':HO}
theorem HOk.write(s:HOk P w H h)(i:Xz (H x))(n:e=x\/H e=!(.own x))(k:∀b u,b≠e->h.get? b=!u->h'.get? b=!u)(l:∃u,h'.get? e=!u)
  (m:ObjOk P w (upd H x o') h' x o'):HOk P w (upd H x o') h':=λb u q=>by
 have d:∀c y,H c=!(.own y)->c≠x:=λc y r z=>by subst z;rw[r]at i;show i
 have f:∀c j,H c=!(.tup j)->c≠x:=λc j r z=>by subst z;rw[r]at i;show i
 by_cases g:b=x
 .subst g;rw[aa]at q;cases q;show m
 .rw [ao g]at q;by_cases a:b=e
  .have o:H b=!(.own x):=by
    rcases n with z|z
    .show absurd (a.trans z) g
    .rw [a];show z
   rw[q]at o;cases o;let#[v,p]:=l;show#[v,by rw[a];show p]
  .show (s b u q).stay (λc v hc r=>k c v ?_ r) (λc r=>by rw[ao (d c b r)];show r) λc j r=>by rw[ao (f c j r)];show r
   rcases hc with rfl|hc
   .show a
   .rintro rfl;rcases n with z|z
    .show d c b hc z
    .rw [hc]at z;cases z;show g rfl
end
structure Un(fs ex:ϊ ό)(H H':Hp)(h h':ϒ):Prop where
 keep:∀b o,h.get? b=!o->H b=none->b∉fs->b∉ex->h'.get? b=!o
 slot:∀b o,h.get? b=!o->H b=none->b∈fs->b∉ex->∃sl,h'.get? b=!{o with slots:=sl}
 free:∀b o,h.get? b=!o->H b=none->b∉ex->H' b=none
 there:∀b o,h.get? b=!o->b∉ex->∃o',h'.get? b=!o'
 tups:∀b xs,H b=!(.tup xs)->H' b=!(.tup xs)
 frzs:∀b o u,H b=!(.frz o u)->H' b=!(.frz o u)
 tbls:∀b ps,H b=!(.tbl ps)->∃more,H' b=!(.tbl (ps++more))
section
variable{fs ex:ϊ ό}{H:Hp}{h h':ϒ}{a x e:ό}{o:HO}
theorem Un.any(u:Un fs ex H H1 h h1)(q:h.get? b=!ob)(n:H b=none)(c:b∉ex):∃sl,h1.get? b=!{ob with slots:=sl}:=by
 by_cases a:b∈fs
 .show u.slot b ob q n a c
 .show #[ob.slots,u.keep b ob q n a c]
theorem Un.kept(k:∀b u,h.get? b=!u->h'.get? b=!u):Un fs ex H H h h':=
 #[λb ob q _ _ _=>k b ob q,λb ob q _ _ _=>#[ob.slots,k b ob q],λ_ _ _ n _=>n,λb ob q _=>#[ob,k b ob q],λ_ _ q=>q,λ_ _ _ q=>q,λ_ a q=>#[([].toArray),by rw[q];simp]]
def Un.refl:Un fs ex H H h h:=Un.kept λ_ _ q=>q
theorem Un.laid(k:∀b u,h.get? b=!u->h'.get? b=!u)(d:h.objs.size<=a)(c:H a=none):Un fs ex H (upd H a o) h h' where
 keep:=λb u q _ _ _=>k b u q
 slot:=λb u q _ _ _=>#[u.slots,k b u q]
 free:=λb u q n _=>by rw[ao (ã (Ñ (Ê q) d))];show n
 there:=λb u q _=>#[u,k b u q]
 tups:=λb e q=>by rw[ao (aU q c)];show q
 frzs:=λb u e q=>by rw[ao (aU q c)];show q
 tbls:=λb f q=>#[([].toArray),by rw[ao (aU q c),q];simp]
theorem Un.write(c:Xz (H x))(j:e=x\/H e=!(.own x))(k:∀b u,b≠e->h.get? b=!u->h'.get? b=!u)(d:∃u,h'.get? e=!u):Un fs ex H (upd H x o) h h':=by
 have i:∀b,H b=none->b≠x:=λb n z=>by subst z;rw[n]at c;show c
 have g:∀b,H b=none->b≠e:=λb n z=>by
  subst z;rcases j with r|r
  .show i b n r
  .rw [n]at r;cases r
 have f:∀b u,H b=!u->¬Xz !u->b≠x:=λb u q l z=>by subst z;rw[q]at c;show l c
 show⟨λb u q n _ _=>k b u (g b n) q,λb u q n _ _=>⟨u.slots,k b u (g b n) q⟩,λb u q n _=>by rw[ao (i b n)];show n,λb u q _=>?_,
  λb m q=>by rw[ao (f b _ q λz=>z)];show q,λb u m q=>by rw[ao (f b _ q λz=>z)];show q,λb p q=>⟨([].toArray),by rw[ao (f b _ q λz=>z),q];simp⟩⟩
 by_cases a:b=e
 .subst a;show d
 .show #[u,k b u a q]
end
def trk(h:ϒ)(H:Hp):ϊ ό:=(List.range h.objs.size).filter λa=>(H a).isSome
def tR(h:ϒ)(H:Hp):ϒ:=PySem.W.hideAll h (trk h H)
def Ci(h:ϒ)(H:Hp):(tR h H).objs.size=h.objs.size:=PySem.W.hideAll_size _ _
theorem Er(e:h.get? b=!o)(n:H b=none):(tR h H).get? b=!o:=
 PySem.W.hideAll_get _ e λa=>by
  have q:(H b).isSome=true:=(ö.mp a).2;rw[n]at q;simp at q
theorem O1(e:(tR h H).get? b=!o):h.get? b=!o/\H b=none:=by
 have a:h.get? b=!o:=PySem.W.of_hideAll (trk h H) e;show#[a,?_]
 cases q:H b with
 |none=>rfl
 |some x=>
  have c:b∈trk h H:=ö.mpr #[List.mem_range.mpr (Ê a),by simp[q]];have z:(tR h H).get? b=none:=PySem.W.hideAll_none (trk h H) c;rw[z]at e;cases e
def O2(g h:ϒ)(L:ό):ϸ:=(List.range h.objs.size).filterMap λa=>if a=L\/(g.get? a).isSome=true then none else(h.get? a).map λo=>(a,o)
def rest(g h:ϒ)(L d:ό):ϸ:=(O2 g h L).filter λp=>decide (p.1≠d)
structure Mod(K:Ϗ)(mg:ϐ->ύ ϋ)(base:ϒ):Prop where
 kin:K.In base
 glob:base.Ns mainGlobals mg
 blt:∃mb,base.Ns builtinsNs mb/\∀x:ϐ,x≠"__name__"->mb x=bootBuiltins x
 nolimit:base.NoLimit
structure Cx where
 prog:ϓ
 w:ϕ
 K:Ϗ
 mg:ϐ->ύ ϋ
 base:ϒ
 A:ϖ
 N:ϊ ϐ
 s₀:ώ
 H₀:Hp
 env:Env
 outer:ϊ Env
 stack:ϊ Env
 ex:ϊ ό
 fn:ϐ->ϑ
 calm:ϑ
 pn:ϸ
 xe:ϋ->ώ->Prop
def frs(l:ϊ Env):ϊ ό:=l.filterMap (·.frame)
abbrev Cx.fs(X:Cx):ϊ ό:=frs X.outer
def Vis(sc:Scope)(x:ϐ):Prop:=sc.names.lookup x=!.local\/sc.names.lookup x=!.cell\/sc.names.lookup x=!.free
def Loc(sc:Scope)(x:ϐ):Prop:=sc.names.lookup x=!.local\/sc.names.lookup x=!.cell
def Look(env:Env)(h:ϒ)(m:ϐ->ύ ϋ)(x:ϐ)(u:ϋ):Prop:=
 (env.kindOf x=!.local/\m x=!u)\/((env.kindOf x=!.cell\/env.kindOf x=!.free)/\∃c,env.cells.lookup x=!c/\h.IsCell c !u)
structure Cx.Ok(X:Cx):Prop where
 mod:Mod X.K X.mg X.base
 kind:X.env.scope.kind=.function
 glob:X.env.globals=mainGlobals
 blt:X.env.builtins=builtinsNs
 above:X.s₀.heap.objs.size<=X.env.locals
 inj:∀x y c,X.env.cells.lookup x=!c->X.env.cells.lookup y=!c->x=y
 has:∀x,(X.env.kindOf x=!.cell\/X.env.kindOf x=!.free)->∃c,X.env.cells.lookup x=!c
 cab:∀x c,X.fn x=true->X.env.cells.lookup x=!c->X.s₀.heap.objs.size<=c
 hd:X.calm=true->X.A.handled=none
 frames:X.A.frames=!X.stack
 stk:X.stack=X.outer\/(X.stack=X.env::X.outer/\X.env.frame=!X.env.locals)
 exf:∀b∈X.ex,b≠X.env.locals/\∀x c,X.env.cells.lookup x=!c->c≠b
 bs:∀b o,X.base.get? b=!o->X.s₀.heap.get? b=!o/\X.H₀ b=none
 bsz:X.base.objs.size<=X.s₀.heap.objs.size
 noex:∀b o,X.base.get? b=!o->b∉X.ex
 exfs:∀b∈X.ex,b∉X.fs
 funs:X.s₀.heap.FunFrames X.base X.outer
 frf:∀b∈X.fs,X.H₀ b=none
structure Inv(X:Cx)(pins:ϸ)(σ:ϊ (ύ V))(H:Hp)(s:ώ):Prop where
 ok:X.Ok
 os:s.os=X.s₀.os
 bare:AllBare s.gens
 base:Un X.fs X.ex X.H₀ H X.s₀.heap s.heap
 loc:∃m,s.heap.Ns X.env.locals m/\∀(i:Nat)(x:ϐ)(v:V),X.N[i]?=!x->σ[i]?=!(!v)->Vis X.env.scope x->∃u,RelV v u/\Look X.env s.heap m x u
 cell:∀x c,X.env.cells.lookup x=!c->∃v,s.heap.IsCell c v
 free:H X.env.locals=none
 freeC:∀x c,X.env.cells.lookup x=!c->H c=none
 pin:∀p∈X.pn++pins,s.heap.get? p.1=!p.2/\H p.1=none/\p.1≠X.env.locals/\p.1∉X.fs/\∀v,p.2.data≠.cell v
 hok:HOk X.prog X.w H s.heap
 len:↑σ=↑X.N
section
variable{X:Cx}{pins:ϸ}{σ:ϊ (ύ V)}{H H':Hp}{s:ώ}{h':ϒ}
theorem Cx.Ok.nofr(c:X.Ok)(e:X.base.get? b=!o):b∉X.fs:=λa=>by
 have:=(c.funs.mem a).1;rw[e]at this;cases this
theorem Inv.bs(I:Inv X pins σ H s):∀b o,X.base.get? b=!o->s.heap.get? b=!o/\H b=none:=λb o e=>
 #[I.base.keep b o (I.ok.bs b o e).1 (I.ok.bs b o e).2 (I.ok.nofr e) (I.ok.noex b o e),I.base.free b o (I.ok.bs b o e).1 (I.ok.bs b o e).2 (I.ok.noex b o e)]
theorem Inv.bk(I:Inv X pins σ H s):∀b o,X.base.get? b=!o->s.heap.get? b=!o:=λb o e=>(I.bs b o e).1
theorem Inv.mod(I:Inv X pins σ H s):Mod X.K X.mg X.base:=I.ok.mod
def Inv.kIn(I:Inv X pins σ H s):X.K.In s.heap:=I.ok.mod.kin.keeps I.bk
theorem Inv.lt(I:Inv X pins σ H s):X.env.locals<s.heap.objs.size:=let⟨_,hn,_⟩:=I.loc;hn.lt
def Inv.sz(I:Inv X pins σ H s):X.s₀.heap.objs.size<=s.heap.objs.size:=Î I.ok.above (ï I.lt)
theorem Inv.nofs(I:Inv X pins σ H s)(h:s.heap.objs.size<=a):a∉X.fs:=λb=>by
 let#[_,o,c,_]:=I.ok.funs.mem b;show absurd (Ñ (Ê c) (Î I.sz h)) (Ĉ _)
theorem Inv.cne(I:Inv X pins σ H s):∀x c,X.env.cells.lookup x=!c->c≠X.env.locals:=λx c e z=>by
 let#[v,o,f,d]:=I.cell x c e;let#[m,#[i,h,g,b,a,_],_]:=I.loc;rw[z,b]at f;cases f;rw[a]at d;cases d
theorem Inv.funs(I:Inv X pins σ H s):s.heap.FunFrames X.base X.outer:=by
 have a:∀(l:ϊ Env),(∀b∈frs l,b∈X.fs)->X.s₀.heap.FunFrames X.base l->s.heap.FunFrames X.base l:=by
  intro l;induction l with
  |nil=>intro _ _;trivial
  |cons env r ih=>
   intro g j;let#[i,#[L,o,f,k,m,h],n]:=j;have c:L∈X.fs:=g L (by unfold frs;rw[Đ,f];show É);let#[p,e]:=I.base.slot L o m (I.ok.frf L c) c λz=>I.ok.exfs L z c
   show#[i,#[L,_,f,k,e,h],ih (λb d=>g b (by unfold frs;rw[Đ,f];show Ì _ d)) n]
 show a X.outer (λ_ d=>d) I.ok.funs
theorem Inv.stack(I:Inv X pins σ H s):s.heap.FunFrames X.base X.stack:=by
 rcases I.ok.stk with e|⟨e,hf⟩
 .rw [e];show I.funs
 .rw [e];let#[m,a,_]:=I.loc;show .cons (by rw[I.ok.kind];decide) hf a ?_ I.funs;show Heap.get?_none_of_le (Î I.ok.bsz I.ok.above)
theorem Inv.stkSub(I:Inv X pins σ H s):∀b∈frs X.stack,b∈X.env.locals::X.fs:=λb a=>by
 rcases I.ok.stk with e|⟨e,hf⟩
 .rw [e]at a;show Ì _ a
 .rw [e]at a;unfold frs at a;rw[Đ,hf]at a;show a
theorem Inv.stkFree(I:Inv X pins σ H s):∀b∈frs X.stack,H b=none:=λb hb=>by
 rcases Ç.mp (I.stkSub b hb)with e|hb
 .rw [e];show I.free
 .obtain ⟨_,o,a,_⟩:=I.ok.funs.mem hb;show I.base.free b o a (I.ok.frf b hb) λz=>I.ok.exfs b z hb
theorem Inv.step(I:Inv X pins σ H s)
  (h:∀b∈ch,(b∈X.ex\/X.s₀.heap.objs.size<=b)/\b≠X.env.locals/\(∀x c,X.env.cells.lookup x=!c->c≠b)/\∀p∈X.pn++pins,p.1≠b)
  (j:∀b o,b≠X.env.locals->b∉X.fs->b∉ch->s.heap.get? b=!o->H b=none->h'.get? b=!o)
  (A:∀b o,b≠X.env.locals->b∈X.fs->b∉ch->s.heap.get? b=!o->H b=none->∃sl,h'.get? b=!{o with slots:=sl}) (f:∀b o,b∉ch->s.heap.get? b=!o->H b=none->H' b=none)
  (C:∀b o,b∉ch->s.heap.get? b=!o->∃o',h'.get? b=!o')
  (L:∀b xs,H b=!(.tup xs)->H' b=!(.tup xs)) (F:∀b o u,H b=!(.frz o u)->H' b=!(.frz o u)) (K:∀b ps,H b=!(.tbl ps)->∃G,H' b=!(.tbl (ps++G)))
  (ns:∀m,s.heap.Ns X.env.locals m->h'.Ns X.env.locals m) (N:HOk X.prog X.w H' h') (U:AllBare g'):
  Inv X pins σ H' {s with heap:=h',gens:=g',drawn:=d',toks:=t'}:=by
 have J:∀b o,X.s₀.heap.get? b=!o->b≠X.env.locals:=λb o e=>ã (Ñ (Ê e) I.ok.above)
 have y:∀b o,X.s₀.heap.get? b=!o->b∉X.ex->b∉ch:=λb o e a B=>by
  rcases(h b B).1with z|z
  .show a z
  .show absurd (Ñ (Ê e) z) (Ĉ _)
 have g:∀x c,X.env.cells.lookup x=!c->∀v,s.heap.IsCell c v->h'.IsCell c v:=λx c e v ⟨o,D,M⟩=>by
  have t:c∉ch:=λz=>(h c z).2.2.1 x c e rfl
  by_cases P:c∈X.fs
  .obtain ⟨sl,q⟩:=A c o (I.cne x c e) P t D (I.freeC x c e);show#[_,q,M]
  .show #[o,j c o (I.cne x c e) P t D (I.freeC x c e),M]
 show#[I.ok,I.os,U,#[λb o e n B a=>?_,λb o e n B a=>?_,λb o e n a=>?_,λb o e a=>?_,λb xs e=>L b xs (I.base.tups b xs e),λb o xs e=>F b o xs (I.base.frzs b o xs e),λb ps e=>?_],?_,λx c e=>?_,?_,λx c e=>?_,λp Q=>?_,N,I.len]
 .show j b o (J b o e) B (y b o e a) (I.base.keep b o e n B a) (I.base.free b o e n a)
 .obtain ⟨sl,w⟩:=I.base.slot b o e n B a;let#[O,E]:=A b _ (J b o e) B (y b o e a) w (I.base.free b o e n a);show#[O,E]
 .obtain ⟨o',w⟩:=I.base.there b o e a;show f b o' (y b o e a) w (I.base.free b o e n a)
 .obtain ⟨o',w⟩:=I.base.there b o e a;show C b o' (y b o e a) w
 .obtain ⟨Z,w⟩:=I.base.tbls b ps e;let#[m2,E]:=K b _ w;show#[Z++m2,by rw[E,Array.append_assoc]]
 .obtain ⟨m,Y,W⟩:=I.loc;show#[m,ns m Y,λi x v w E T=>?_];let#[u,r,l]:=W i x v w E T;show#[u,r,?_];rcases l with l|⟨k,c,e,z⟩
  .show .inl l
  .show .inr #[k,c,e,g x c e _ z]
 .obtain ⟨v,z⟩:=I.cell x c e;show#[v,g x c e v z]
 .obtain ⟨m,⟨o,_,_,D,_⟩,_⟩:=I.loc;show f _ o (λz=>(h _ z).2.1 rfl) D I.free
 .obtain ⟨v,o,D,M⟩:=I.cell x c e;show f c o (λz=>(h c z).2.2.1 x c e rfl) D (I.freeC x c e)
 .obtain ⟨e,n,R,S,d⟩:=I.pin p Q;have t:p.1∉ch:=λz=>(h p.1 z).2.2.2 p Q rfl
  show#[j p.1 p.2 R S t e n,f p.1 p.2 t e n,R,S,d]
theorem Inv.un(I:Inv X pins σ H s)(u:Un X.fs [] H H' s.heap h')(g:HOk X.prog X.w H' h'):Inv X pins σ H' {s with heap:=h',toks:=t'}:=by
 let#[m,#[o,p,l,h,r],_]:=id I.loc;let#[v,i]:=u.any h I.free (by simp);show I.step (g':=s.gens) (d':=s.drawn) (ch:=[]) (λ_ z=>nomatch z) (λb o _ f _ e n=>u.keep b o e n f (by simp)) (λb o _ f _ e n=>u.slot b o e n f (by simp)) (λb o _ e n=>u.free b o e n (by simp)) (λb o _ e=>u.there b o e (by simp)) u.tups u.frzs u.tbls (λq j=>by
  let#[t,d,c,a,k]:=j;rw[h]at a;cases a;show#[_,d,c,i,k]) g I.bare
theorem Inv.call(I:Inv X pins σ H s)(u:Un (frs X.stack) ch H H' s.heap h')(j:HOk X.prog X.w H' h')(q:AllBare g')
  (d:∀b∈ch,(b∈X.ex\/X.s₀.heap.objs.size<=b)/\b≠X.env.locals/\(∀x c,X.env.cells.lookup x=!c->c≠b)/\∀p∈X.pn++pins,p.1≠b):
  Inv X pins σ H' {s with heap:=h',gens:=g',drawn:=d',toks:=t'}:=by
 let#[m,#[o,y,w,k,r],_]:=id I.loc;let#[C,i]:=u.any k I.free λz=>(d _ z).2.1 rfl
 show I.step (ch:=ch) d (λb o i l a e n=>u.keep b o e n (λz=>(Ç.mp (I.stkSub b z)).elim i l) a) (λb o _ _ a e n=>u.any e n a) (λb o a e n=>u.free b o e n a) (λb o a e=>u.there b o e a) u.tups u.frzs u.tbls (λA t=>by
  let#[B,h,g,f,v]:=t;rw[k]at f;cases f;show#[_,h,g,i,v]) j q
theorem Inv.turned(I:Inv X pins σ H s)(k:∀b o,b≠it->s.heap.get? b=!o->h'.get? b=!o)(y:H it=none)(f:it≠X.env.locals)
  (i:it∈X.ex\/X.s₀.heap.objs.size<=it) (j:∀x c,X.env.cells.lookup x=!c->c≠it) (l:∀p∈X.pn++pins,p.1≠it):Inv X pins σ H {s with heap:=h',toks:=t'}:=by
 have d:∀b u,H b=!u->b≠it:=λb u e z=>by rw[z,y]at e;cases e
 show I.step (g':=s.gens) (d':=s.drawn) (ch:=[it]) (λb t=>?_) (λb o _ _ a e _=>k b o (λz=>a (by simp[z])) e) (λb o _ _ a e _=>#[o.slots,k b o (λz=>a (by simp[z])) e]) (λ_ _ _ _ n=>n)
  (λb o a e=>#[o,k b o (λz=>a (by simp[z])) e]) (λ_ _ e=>e) (λ_ _ _ e=>e) (λb B e=>#[([].toArray),by rw[e];simp]) (λm w=>?_) (λb u e=>?_) I.bare
 .have e:b=it:=by simpa using t
  subst e;show#[i,f,j,l]
 .obtain ⟨o,h,g,A,r⟩:=w;show#[o,h,g,k _ o (Ne.symm f) A,r]
 .show (I.hok b u e).stay (λc v a q=>k c v ?_ q) (λ_ q=>q) λ_ _ q=>q
  rcases a with z|z
  .rw [z];show d b u e
  .show d c _ z
theorem Inv.tok(I:Inv X pins σ H s)(t:Nat):Inv X pins σ H {s with toks:=t}:=I.un (h':=s.heap) (t':=t) Un.refl I.hok
theorem Inv.kept(I:Inv X pins σ H s)(k:∀b u,s.heap.get? b=!u->h'.get? b=!u):Inv X pins σ H {s with heap:=h',toks:=t'}:=I.un (Un.kept k) (I.hok.kept k)
theorem Inv.laid(I:Inv X pins σ H s)(k:∀b u,s.heap.get? b=!u->h'.get? b=!u)(c:s.heap.objs.size<=a)(d:ObjOk X.prog X.w (upd H a o) h' a o):
  Inv X pins σ (upd H a o) {s with heap:=h',toks:=t'}:=I.un (Un.laid k c (I.hok.fresh c)) (I.hok.laid k c d)
theorem Inv.write{x e:ό}(I:Inv X pins σ H s)(f:Xz (H x))(d:e=x\/H e=!(.own x))(k:∀b u,b≠e->s.heap.get? b=!u->h'.get? b=!u)(a:∃u,h'.get? e=!u)
  (c:ObjOk X.prog X.w (upd H x o) h' x o):Inv X pins σ (upd H x o) {s with heap:=h',toks:=t'}:=I.un (Un.write f d k a) (I.hok.write f d k a c)
theorem Inv.weak(I:Inv X pins σ H s)(d:↑σ'=↑σ)(w:∀(i:Nat) v,σ'[i]?=!(!v)->σ[i]?=!(!v)):Inv X pins σ' H s:=
 #[I.ok,I.os,I.bare,I.base,let⟨m,hn,hl'⟩:=I.loc;#[m,hn,λi x v a b c=>hl' i x v a (w i v b) c],I.cell,I.free,I.freeC,I.pin,I.hok,d.trans I.len]
theorem Inv.pins_of(I:Inv X pins σ H s)(h:∀p∈pins',s.heap.get? p.1=!p.2/\H p.1=none/\p.1≠X.env.locals/\p.1∉X.fs/\∀v,p.2.data≠.cell v):Inv X pins' σ H s:=
 #[I.ok,I.os,I.bare,I.base,I.loc,I.cell,I.free,I.freeC,λp a=>(Å.mp a).elim (λz=>I.pin p (á _ z)) (h p),I.hok,I.len]
theorem vy{N:ϊ ϐ}(e:N.Nodup)(a:N[i]?=!x)(b:N[j]?=!x):i=j:=by
 let#[f,c]:=À.mp a;let#[g,d]:=À.mp b;show(Ŧ e).mp (c.trans d.symm)
theorem rJ{Q:Unit->ώ->Prop}(I:Inv X pins σ H s)(hN:X.N.Nodup)(P:X.N[i]?=!x)(t:Loc X.env.scope x)(r:RelV v u)
  (h:∀s',Inv X pins (σ.set i !v) H s'->(∃a,Heap.SameBut a s.heap s'.heap/\(a=X.env.locals\/X.env.cells.lookup x=!a))->Q Unit.unit s') (hf:X.fn x=true\/X.env.scope.names.lookup x=!.local:=by first|show .inl rfl|show .inr rfl|assumption):wpAny M A (storeName X.env x u) Q E s:=by
 let#[m,Z,hl]:=id I.loc;have O:(X.env.scope.kind==.class||(X.env.scope.kind==.module&&X.env.locals !=X.env.globals))=false:=by rw[I.ok.kind];rfl
 have C:i<↑σ:=by rw[I.len];show(À.mp P).1
 have D:=I.cne;have l:∀{a:ό}{K:ϒ},(∃o,s.heap.get? a=!o/\H a=none)->Heap.SameBut a s.heap K->HOk X.prog X.w H K:=λ{a K} ha f b ob e=>by
  let#[_,_,w]:=ha;show(I.hok b ob e).stay (λc W hc q=>(f.2 c ?_).trans q) (λ_ q=>q) λ_ _ q=>q
  rintro rfl;rcases hc with rfl|hc
  .rw [w]at e;cases e
  .rw [w]at hc;cases hc
 rcases t with hk|hk
 .show wpAny_storeName_local hk Z (λK ab f=>?_) O;let#[oL,_,_,ac,_]:=id Z;show h _ #[I.ok,I.os,I.bare,#[λb o e n F t=>?_,λb o e n F t=>?_,I.base.free,λb o e t=>?_,I.base.tups,I.base.frzs,I.base.tbls],#[_,ab,λj y v' g B Y=>?_],λy c e=>?_,I.free,I.freeC,λp hp=>?_,l #[oL,ac,I.free] f,by simpa using I.len] #[_,f,.inl rfl]
  .show (f.2 b (ã (Ñ (Ê e) I.ok.above))).trans (I.base.keep b o e n F t)
  .obtain ⟨sl,g⟩:=I.base.slot b o e n F t;show#[sl,(f.2 b (ã (Ñ (Ê e) I.ok.above))).trans g]
  .obtain ⟨o',g⟩:=I.base.there b o e t;show#[o',(f.2 b (ã (Ñ (Ê e) I.ok.above))).trans g]
  .by_cases J:j=i
   .subst J;rw[P]at g;cases g;rw[Τ C]at B
    cases B;show#[u,r,.inl #[hk,by simp]]
   .rw [List.getElem?_set_ne (Ne.symm J)]at B;let#[u',r',q]:=hl j y v' g B Y;show#[u',r',?_];rcases q with⟨k,e⟩|⟨k,c,e,z⟩
    .show .inl #[k,?_];have:y≠x:=λe=>J (vy hN g (e▸P))
     simp[this,e]
    .show .inr #[k,c,e,z.sameBut f (D y c e)]
  .obtain ⟨W,z⟩:=I.cell y c e;show#[W,z.sameBut f (D y c e)]
  .obtain ⟨e,n,U,nf,d⟩:=I.pin p hp;show#[(f.2 p.1 U).trans e,n,U,nf,d]
 .have G:X.fn x=true:=by
   rcases hf with z|z
   .show z
   .rw [z]at hk;cases hk
  let#[c,hc]:=I.ok.has x (.inl hk);let#[W,z]:=I.cell x c hc;show wpAny_storeName_cell I.ok.kind hk hc z (λK L f=>?_);let#[oc,R,S]:=id z;show h {s with heap:=K} ⟨I.ok,I.os,I.bare,⟨λb o e n F t=>?_,λb o e n F t=>?_,I.base.free,λb o e t=>?_,I.base.tups,I.base.frzs,I.base.tbls⟩,⟨m,Z.sameBut f (Ne.symm (D x c hc)),λj y v' g B Y=>?_⟩,λy T e=>?_,I.free,I.freeC,λp hp=>?_,l ⟨oc,R,I.freeC x c hc⟩ f,by simpa using I.len⟩ ⟨c,f,.inr hc⟩
  .show (f.2 b (ã (Ñ (Ê e) (I.ok.cab x c G hc)))).trans (I.base.keep b o e n F t)
  .obtain ⟨sl,g⟩:=I.base.slot b o e n F t;show#[sl,(f.2 b (ã (Ñ (Ê e) (I.ok.cab x c G hc)))).trans g]
  .obtain ⟨o',g⟩:=I.base.there b o e t;show#[o',(f.2 b (ã (Ñ (Ê e) (I.ok.cab x c G hc)))).trans g]
  .by_cases J:j=i
   .subst J;rw[P]at g;cases g;rw[Τ C]at B
    cases B;show#[u,r,.inr #[.inl hk,c,hc,L]]
   .rw [List.getElem?_set_ne (Ne.symm J)]at B;let#[u',r',q]:=hl j y v' g B Y;show#[u',r',?_];rcases q with q|⟨k,T,e,z'⟩
    .show .inl q
    .show .inr #[k,T,e,z'.sameBut f ?_];rintro rfl;show J (vy hN g (I.ok.inj _ _ _ e hc▸P))
  .by_cases N:T=c
   .subst N;show#[_,L]
   .obtain ⟨w2,z2⟩:=I.cell y T e;show#[w2,z2.sameBut f N]
  .obtain ⟨e,n,U,nf,d⟩:=I.pin p hp;show#[(f.2 p.1 ?_).trans e,n,U,nf,d];intro q;rw[q,R]at e;have q':oc=p.2:=ß e;show d W (by rw[<-q'];show S)
theorem oX{Q:Unit->ώ->Prop}(I:Inv X pins σ H s)(b:X.N.Nodup)(d:X.N[i]?=!x)(e:Loc X.env.scope x)(r:RelV v u)
  (h:∀s',Inv X pins (σ.set i !v) H s'->Q Unit.unit s') (c:X.fn x=true\/X.env.scope.names.lookup x=!.local:=by first|show .inl rfl|show .inr rfl|assumption):wpAny M A (storeName X.env x u) Q E s:=
 rJ I b d e r (λs' a _=>h s' a) c
theorem Inv.call'(I:Inv X pins σ H s)(g:s'.os=s.os)(u:Un (frs X.stack) ch H H' s.heap s'.heap)(d:HOk X.prog X.w H' s'.heap)(f:AllBare s'.gens)
  (a:∀b∈ch,(b∈X.ex\/X.s₀.heap.objs.size<=b)/\b≠X.env.locals/\(∀x c,X.env.cells.lookup x=!c->c≠b)/\∀p∈X.pn++pins,p.1≠b):Inv X pins σ H' s':=by
 let#[i,g',d',t',h]:=s';have e:h=s.os:=g;subst e;show I.call (g':=g') (t':=t') (d':=d') u d f a
end
abbrev XK:=ϋ->ύ ό->Hp->Prop
abbrev St:=ϊ (ύ V)
variable{σ:St}
abbrev VK:=V->Hp->Prop
abbrev TE:=St->Hp->VK->Prop
variable{t te tl:TE}
abbrev TT:=St->Hp->(ϑ->Hp->Prop)->Prop
variable{tc:TT}
abbrev TA:=St->Hp->(ϊ V->Hp->Prop)->Prop
structure Ends where
 nx:St->Hp->Prop
 rt:VK
 bk:St->Hp->Prop:=λ_ _=>False
 ct:St->Hp->Prop:=λ_ _=>False
abbrev TS:=Ends->St->Hp->Prop
variable{tb:TS}
def EP(X:Cx)(pins:ϸ)(σ:St)(Q:VK)(u:ϋ)(s':ώ):Prop:=∃v H',Inv X pins σ H' s'/\RelV v u/\Q v H'
def TP(X:Cx)(pins:ϸ)(σ:St)(Q:ϑ->Hp->Prop)(b:ϑ)(s':ώ):Prop:=∃H',Inv X pins σ H' s'/\Q b H'
def AP(X:Cx)(pins:ϸ)(σ:St)(Q:ϊ V->Hp->Prop)(us:ϊ ϋ)(s':ώ):Prop:=∃vs H',Inv X pins σ H' s'/\Vals vs us/\Q vs H'
def SP(X:Cx)(pins:ϸ)(D:Ends)(f:Flow)(s':ώ):Prop:=
 match f with
 |.next=>∃σ' H',Inv X pins σ' H' s'/\D.nx σ' H'
 |.brk=>∃σ' H',Inv X pins σ' H' s'/\D.bk σ' H'
 |.cont=>∃σ' H',Inv X pins σ' H' s'/\D.ct σ' H'
 |.ret u=>∃v σ' H',Inv X pins σ' H' s'/\RelV v u/\D.rt v H'
def PE(X:Cx)(e:Expr)(t:TE):Prop:=
 ∀(pins:ϸ)(s:ώ)(σ:St)(H:Hp)(Q:VK),Inv X pins σ H s->t σ H Q->wpAny (model X.prog X.w) X.A (eval e X.env) (EP X pins σ Q) X.xe s
def PT(X:Cx)(e:Expr)(t:TT):Prop:=
 ∀(pins:ϸ)(s:ώ)(σ:St)(H:Hp)(Q:ϑ->Hp->Prop),Inv X pins σ H s->t σ H Q->wpAny (model X.prog X.w) X.A (isTrue e X.env (eval e X.env)) (TP X pins σ Q) X.xe s
def PW(X:Cx)(e:Expr)(t:TT):Prop:=
 ∀(whole:Sem ϋ)(pins:ϸ)(s:ώ)(σ:St)(H:Hp)(Q:ϑ->Hp->Prop),Inv X pins σ H s->t σ H Q->wpAny (model X.prog X.w) X.A (isTrue e X.env whole) (TP X pins σ Q) X.xe s
def PW.pt{X:Cx}{t:TT}(h:PW X e t):PT X e t:=h _
def PA(X:Cx)(es:ϊ Expr)(t:TA):Prop:=
 ∀(pos:Pos)(pins:ϸ)(s:ώ)(σ:St)(H:Hp)(Q:ϊ V->Hp->Prop),Inv X pins σ H s->t σ H Q->wpAny (model X.prog X.w) X.A (spliced (backTo pos (starEach es X.env))) (AP X pins σ Q) X.xe s
def PS(X:Cx)(st:Stmt)(t:TS):Prop:=
 ∀(pins:ϸ)(s:ώ)(σ:St)(H:Hp)(D:Ends),Inv X pins σ H s->t D σ H->wpAny (model X.prog X.w) X.A (exec st X.env) (SP X pins D) X.xe s
def PSs(X:Cx)(st:ϊ Stmt)(t:TS):Prop:=
 ∀(pins:ϸ)(s:ώ)(σ:St)(H:Hp)(D:Ends),Inv X pins σ H s->t D σ H->wpAny (model X.prog X.w) X.A (execs st X.env) (SP X pins D) X.xe s
theorem bA{c:Type}{t:Sem c}{Q b:c->ώ->Prop}(h:wpAny M A t Q E s)(d:∀a s,Q a s->b a s):wpAny M A t b E s:=đ h d λ_ _ x=>x
section
variable{X:Cx}
def fB(i:Nat):TE:=λσ H Q=>∃v,σ[i]?=!(!v)/\Q v H
def tC(v:V):TE:=λ_ H Q=>Q v H
theorem Te(f:X.N[i]?=!x)(k:Vis X.env.scope x)(d:(x==("__debug__":ϐ))=false:=by decide)(b:(x==("__classdict__":ϐ))=false:=by decide):PE X (.Name x pos) (fB i):=by
 intro a s n H Q I h;let#[v,e,h]:=h;let#[m,j,g]:=I.loc;let#[u,r,l]:=g i x v f e k;have fin:EP X a n Q u s:=#[v,H,I,r,h];rcases l with⟨hk,hm⟩|⟨hk,c,hc,hcell⟩
 .show wpAny_Name (wpAny_loadName_local I.ok.kind hk j hm fin) d
 .rcases hk with hk|hk
  .show wpAny_Name (wpAny_loadName_cell I.ok.kind hk hc hcell fin) d
  .show wpAny_Name (wpAny_loadName_free I.ok.kind hk hc hcell fin b) d
theorem aj{i j pos}:PE X (.Constant (.int i) j pos) (tC (.int i)):=λ_ _ _ H _ I h=>wpAny_Constant_int #[.int i,H,I.tok _,#[_,rfl],h]
theorem oY{b j pos}:PE X (.Constant (.bool b) j pos) (tC (.bl b)):=λ_ _ _ H _ I h=>Constant_bool #[.bl b,H,I,rfl,h]
theorem bK{j pos}:PE X (.Constant .none j pos) (tC .non):=λ_ _ _ H _ I h=>Constant_none #[.non,H,I,rfl,h]
theorem eF{x j pos}:PE X (.Constant (.str x) j pos) (tC (.str x)):=λ_ _ _ H _ I h=>Calls.Constant_str #[.str x,H,I.tok _,#[_,rfl],h]
def Gl(X:Cx)(x:ϐ):Prop:=X.env.kindOf x=!.globalImplicit
theorem tU(I:Inv X pins σ H s)(b:Gl X x)(c:X.mg x=!u)(h:Q u s)
  (a:(x==("__debug__":ϐ))=false:=by decide):wpAny (model X.prog X.w) X.A (eval (.Name x pos) X.env) Q E s:=
 Calls.Name_function_global I.ok.kind b (Calls.loadGlobal_global (by rw[I.ok.glob];show I.mod.glob.keeps I.bk) c h) a
theorem gO(I:Inv X pins σ H s)(d:Gl X x)(e:X.mg x=none)(g:bootBuiltins x=!u)(h:Q u s)
  (f:x≠"__name__":=by decide) (c:(x==("__debug__":ϐ))=false:=by decide):wpAny (model X.prog X.w) X.A (eval (.Name x pos) X.env) Q E s:=by
 let#[i,a,b]:=I.mod.blt;show Calls.Name_function_global I.ok.kind d (Calls.loadGlobal_builtin (by rw[I.ok.glob];show I.mod.glob.keeps I.bk) e (by rw[I.ok.blt];show a.keeps I.bk) ((b x f).trans g) h) c
theorem gH(b:Gl X x)(c:X.mg x=!u)(r:RelV v u)(a:(x==("__debug__":ϐ))=false:=by decide):PE X (.Name x pos) (tC v):=
 λ_ _ _ H _ I h=>tU I b c #[v,H,I,r,h] a
theorem iB(b:Gl X x)(c:X.mg x=none)(e:bootBuiltins x=!u)(r:RelV v u)(d:x≠"__name__":=by decide)(a:(x==("__debug__":ϐ))=false:=by decide):PE X (.Name x pos) (tC v):=
 λ_ _ _ H _ I h=>gO I b c e #[v,H,I,r,h] d a
variable{a b:Expr}{ta tb:TE}{pos:Pos}
def PC(X:Cx)(op:CmpOp)(a b:Expr)(t:TE):Prop:=
 ∀(pins:ϸ)(s:ώ)(σ:St)(H:Hp)(Q:VK),Inv X pins σ H s->t σ H Q->
  wpAny (model X.prog X.w) X.A (eval a X.env) (λv s₁=>wpAny (model X.prog X.w) X.A (eval b X.env) (λu s₂=>wpAny (model X.prog X.w) X.A (compareOp op v u) (EP X pins σ Q) X.xe s₂) X.xe s₁) X.xe s
abbrev tB(t:TE):TT:=λσ H Q=>t σ H λx H1=>∃c,x=.bl c/\Q c H1
theorem gb(h:PC X op a b t)(f:behindInMarks op b=false:=by first|show nobehind _ (by decide) (by decide)|rfl):PT X (.Compare a [op] [b] pos) (tB t):=by
 intro e s n H Q I k;show wpAny_isTrue_Compare1 (bA (h e s n H _ I k) λv o f=>bA f λu p j=>bA j λc r ⟨x,g,i,m,l⟩=>?_) f;let#[d,rfl,q]:=l
 cases m;show ē #[g,i,q]
variable{tA tB':TT}{rest:ϊ Expr}
def qU(t u:TT):TT:=λσ H Q=>t σ H λc H1=>if c=true then u σ H1 Q else Q false H1
def Es(t u:TT):TT:=λσ H Q=>t σ H λc H1=>if c=true then Q true H1 else u σ H1 Q
abbrev lE(t:TT):TT:=λσ H Q=>t σ H λc H1=>Q (not c) H1
theorem iC(d:PT X a tA):PW X (.BoolOp .And [a] pos) tA:=by
 intro i b s f H Q I h;show isTrue_and (bA (d b s f H Q I h) λc g e=>?_)
 cases c with
 |true=>show isTrue_and_nil e
 |false=>show e
theorem jj(d:PT X a tA):PW X (.BoolOp .Or [a] pos) tA:=by
 intro i b s f H Q I h;show isTrue_or (bA (d b s f H Q I h) λc g e=>?_)
 cases c with
 |false=>show isTrue_or_nil e
 |true=>show e
theorem kh(j:PT X a tA)(k:PW X (.BoolOp .And (b::rest) pos) tB'):PW X (.BoolOp .And (a::b::rest) pos) (qU tA tB'):=by
 intro m d s i H Q I h;show isTrue_and (bA (j d s i H _ I h) λc l ob=>?_);let#[e,f,g]:=ob
 cases c with
 |true=>show k m d l i e Q f g
 |false=>show#[e,f,g]
theorem lF(j:PT X a tA)(k:PW X (.BoolOp .Or (b::rest) pos) tB'):PW X (.BoolOp .Or (a::b::rest) pos) (Es tA tB'):=by
 intro m d s i H Q I h;show isTrue_or (bA (j d s i H _ I h) λc l ob=>?_);let#[e,f,g]:=ob
 cases c with
 |true=>show#[e,f,g]
 |false=>show k m d l i e Q f g
theorem eG(e:PT X a tA):PT X (.UnaryOp .Not a pos) (lE tA):=by
 intro b s f H Q I h;show isTrue_not (e b s f H (λc d=>Q (not c) d) I h)
def lG(ta tb:TE):TE:=λσ H Q=>ta σ H λx H1=>∃c,x=.bl c/\if c=true then tb σ H1 Q else Q (.bl false) H1
abbrev Et(ta:TE):TE:=λσ H Q=>ta σ H λx H1=>∃c,x=.bl c/\Q (.bl (not c)) H1
theorem mF{op}(h:PE X a t):PE X (.BoolOp op [a] pos) t:=λb s d H Q I c=>BoolOp_one (h b s d H Q I c)
theorem kj(j:PE X a ta)(k:PE X (.BoolOp .And (b::rest) pos) tb):PE X (.BoolOp .And (a::b::rest) pos) (lG ta tb):=by
 intro d s i H Q I h;show BoolOp_and (bA (j d s i H _ I h) λv m ob=>?_);let#[x,f,g,l,e]:=ob;let#[c,rfl,e]:=e
 cases l;show ē ?_
 cases c with
 |true=>show k d m i f Q g e
 |false=>show#[.bl false,f,g,rfl,e]
theorem Eu(g:PE X a ta):PE X (.UnaryOp .Not a pos) (Et ta):=by
 intro b s j H Q I h;show UnaryOp_ (bA (g b s j H _ I h) λv k ob=>?_);let#[x,e,f,i,d]:=ob;let#[c,rfl,d]:=d
 cases i;show not_of (ē #[.bl (not c),e,f,rfl,d])
abbrev XC(t:TT)(ta tb:TE):TE:=λσ H Q=>t σ H λc H1=>if c=true then ta σ H1 Q else tb σ H1 Q
theorem lH(n:PT X c tA)(l:PE X a ta)(m:PE X b tb):PE X (.IfExp c a b pos) (XC tA ta tb):=by
 intro e s f H Q I h;show wpAny_IfExp (bA (n e s f H _ I h) λd k ob=>?_);let#[g,i,j]:=ob
 cases d with
 |true=>show l e k f g Q i j
 |false=>show m e k f g Q i j
end
def SqL(K:Ϗ)(H:Hp)(a:ό)(xs:ϊ V):Prop:=
 Rd H a (.lst xs)\/
  ∃(o:Obj)(its:ϔ ϋ)(n:Nat),K.lookup a=!o/\o.cls=.type "list"/\o.dict=none/\o.data=.seq its n/\its.size<=sizeLine/\Vals xs its.toList
def SqT(K:Ϗ)(H:Hp)(a:ό)(xs:ϊ V):Prop:=
 Rd H a (.tup xs)\/
  ∃(o:Obj)(its:ϔ ϋ)(n:Nat),K.lookup a=!o/\o.cls=.type "tuple"/\o.data=.seq its n/\its.size<=sizeLine/\Vals xs its.toList
def a0t:ϋ->ύ V
 |.none=>!.non
 |.bool b=>!(.bl b)
 |.int i _=>!(.int i)
 |.str x _=>!(.str x)
 |.bytes b _=>!(.byt b)
 |.float b _=>!(.flt b)
 |.ref a=>!(.ref a)
 |.type n=>!(.ty n)
 |_=>none
theorem RelV.abs{x:V}(r:RelV x u):a0t u=!x:=by
 cases x with
 |non=>cases r;rfl
 |bl _=>cases r;rfl
 |int _=>let#[t,rfl]:=r;rfl
 |str _=>let#[t,rfl]:=r;rfl
 |byt _=>let#[t,rfl]:=r;rfl
 |flt _=>let#[t,rfl]:=r;rfl
 |ref _=>cases r;rfl
 |ty _=>cases r;rfl
def RelV.inj{x:V}(r:RelV x u)(q:RelV y u):x=y:=ß (r.abs.symm.trans q.abs)
theorem Vals.inj{c:ϊ V}(h:Vals c us)(k:Vals ys us):c=ys:=by
 induction h generalizing ys with
 |nil=>cases k;rfl
 |cons r t ih=>
  cases k with
  |cons a b=>rw[r.inj a,ih b]
section
variable{X:Cx}
def SqL.of{K:Ϗ}(h:H a=!(.lst xs)):SqL K H a xs:=.inl (.inl h)
def SqT.of{K:Ϗ}(h:H a=!(.tup xs)):SqT K H a xs:=.inl (.inl h)
theorem Inv.list(I:Inv X pins σ H s)(h:SqL X.K H a xs):∃its:ϊ ϋ,Vals xs its/\PlainL s.heap a its.toArray/\↑xs<=sizeLine:=by
 rcases h with h|⟨o,its,n,hk,hc,hd,hs,hz,r⟩
 .obtain ⟨z,its,n,r,e⟩:=h.ok I.hok;show#[its,r,#[_,n,e,rfl,rfl,rfl],z]
 .show #[its.toList,r,#[o,n,I.kIn a o hk,hc,hd,by simpa using hs],?_];have e:=↑r;simp-iota only[ø]at e;rfl'
theorem Inv.tuple(I:Inv X pins σ H s)(h:SqT X.K H a xs):∃its:ϊ ϋ,Vals xs its/\IsTup s.heap a its.toArray/\↑xs<=sizeLine:=by
 rcases h with h|⟨o,its,n,hk,hc,hs,hz,r⟩
 .obtain ⟨z,its,r,p⟩:=h.ok I.hok;show#[its,r,p,z]
 .show #[its.toList,r,#[o,I.kIn a o hk,hc,n,by simpa using hs],?_];have e:=↑r;simp-iota only[ø]at e;rfl'
theorem Inv.list_inj(I:Inv X pins σ H s)(h:SqL X.K H a xs)(i:SqL X.K H a ys):xs=ys:=by
 let#[c,r,#[o,n,e,_,_,d],_]:=I.list h;let#[b,j,#[l,k,g,_,_,f],_]:=I.list i;rw[e]at g;cases g;rw[d]at f;injection f with d1 _
 have:c=b:=by simpa using Ý Array.toList d1
 subst this;show r.inj j
theorem Inv.tuple_inj(I:Inv X pins σ H s)(h:SqT X.K H a xs)(i:SqT X.K H a ys):xs=ys:=by
 let#[c,r,#[o,e,_,n,d],_]:=I.tuple h;let#[b,j,#[l,g,_,k,f],_]:=I.tuple i;rw[e]at g;cases g;rw[d]at f;injection f with d1 _
 have:c=b:=by simpa using Ý Array.toList d1
 subst this;show r.inj j
end
abbrev Cx.wish(X:Cx)(E:϶):Cx:={X with xe:=E}
abbrev Cx.nox(X:Cx):Cx:=X.wish λ_ _=>False
def Cx.Ok.wish{X:Cx}(a:X.Ok)(E:϶):(X.wish E).Ok:=
 #[a.mod,a.kind,a.glob,a.blt,a.above,a.inj,a.has,a.cab,a.hd,a.frames,a.stk,a.exf,a.bs,a.bsz,a.noex,a.exfs,a.funs,a.frf]
def Cx.Ok.unwish{X:Cx}(a:(X.wish E).Ok):X.Ok:=
 #[a.mod,a.kind,a.glob,a.blt,a.above,a.inj,a.has,a.cab,a.hd,a.frames,a.stk,a.exf,a.bs,a.bsz,a.noex,a.exfs,a.funs,a.frf]
section
variable{X:Cx}{H:Hp}{s:ώ}
theorem Inv.wish(I:Inv X pins σ H s)(E:϶):Inv (X.wish E) pins σ H s:=#[I.ok.wish E,I.os,I.bare,I.base,I.loc,I.cell,I.free,I.freeC,I.pin,I.hok,I.len]
theorem Inv.unwish(I:Inv (X.wish E) pins σ H s):Inv X pins σ H s:=#[I.ok.unwish,I.os,I.bare,I.base,I.loc,I.cell,I.free,I.freeC,I.pin,I.hok,I.len]
theorem SP.unwish{f:Flow}(h:SP (X.wish E) pins D f s'):SP X pins D f s':=by
 cases f with
 |next=>let#[a,b,I,q]:=h;show#[a,b,I.unwish,q]
 |brk=>let#[a,b,I,q]:=h;show#[a,b,I.unwish,q]
 |cont=>let#[a,b,I,q]:=h;show#[a,b,I.unwish,q]
 |ret u=>let#[v,a,b,I,r,q]:=h;show#[v,a,b,I.unwish,r,q]
theorem PSs.nox{t:TS}(h:PSs X.nox st t):PSs X st t:=λa s c H D I b=>
 đ (h a s c H D (I.wish _) b) (λ_ _ q=>q.unwish) λ_ _ z=>False.elim z
end
section
variable{X:Cx}{st:Stmt}{rest:ϊ Stmt}{t u:TS}{e:Expr}{te:TE}{pos:Pos}
abbrev aV:TS:=λD σ H=>D.nx σ H
def aA(t u:TS):TS:=λD σ H=>t {D with nx:=u D} σ H
theorem aH:PSs X [] aV:=λ_ _ a H _ I h=>Ε #[a,H,I,h]
theorem vz(e:PS X st t)(g:PSs X rest u):PSs X (st::rest) (aA t u):=by
 intro a s j H D I h;show wpAny_execs_cons (bA (e a s j H {D with nx:=u D} I h) λf i q=>?_)
 cases f with
 |next=>
  let#[b,c,d,q]:=q;show g a i b c D d q
 |ret v=>show q
 |brk=>show q
 |cont=>show q
theorem au(b:PS X st t):PSs X [st] t:=by
 intro a s c H D I h;show wpAny_execs_cons (bA (b a s c H D I h) λf d q=>?_)
 cases f with
 |next=>show Ε q
 |ret v=>show q
 |brk=>show q
 |cont=>show q
theorem Inv.quiet(I:Inv X pins σ H s):interactive X.env=false:=by simp[interactive,I.ok.kind]
abbrev cG(te:TE):TS:=λD σ H=>te σ H λ_ H1=>D.nx σ H1
theorem bj(f:PE X e te)(g:swapsWith e none pos.line X.env=pure false:=by rfl):PS X (.Expr e pos) (cG te):=by
 intro a s b H D I h;show wpAny_Expr_any (bA (f a s b H _ I h) λv k ⟨x,c,d,j,i⟩=>#[b,c,d,i]) I.quiet g
abbrev aP(te:TE):TS:=λD σ H=>te σ H D.rt
theorem aC(f:PE X e te):PS X (.Return (!e) pos) (aP te):=by
 intro a s b H D I h;show wpAny_Return_some (bA (f a s b H _ I h) λv j ob=>?_);let#[x,c,d,i,g]:=ob;show#[x,b,c,d,i,g]
def bB(c:TT)(t u:TS):TS:=λD σ H=>c σ H λb H1=>if b=true then t D σ H1 else u D σ H1
theorem aW{a b:ϊ Stmt}(n:PT X c tc)(l:PSs X a t)(m:PSs X b u):PS X (.If c a b pos) (bB tc t u):=by
 intro e s f H D I h;show wpAny_If (bA (n e s f H _ I h) λd k ob=>?_);let#[g,i,j]:=ob
 cases d with
 |true=>show l e k f g D i j
 |false=>show m e k f g D i j
def cQ:TS:=λ_ _ _=>False
def bT:PS X st cQ:=λ_ _ _ _ _ _ h=>h.elim
end
abbrev TG:=V->St->Hp->(St->Hp->Prop)->Prop
abbrev NB:=ϊ V->St->Hp->(St->Hp->Prop)->Prop
def PG(X:Cx)(target:Expr)(t:TG):Prop:=
 ∀(pins:ϸ)(s:ώ)(σ:St)(H:Hp)(v:V)(u:ϋ)(Q:St->Hp->Prop),Inv X pins σ H s->RelV v u->t v σ H Q->
  wpAny (model X.prog X.w) X.A (assign target X.env u) (λ_ s'=>∃σ' H',Inv X pins σ' H' s'/\Q σ' H') X.xe s
def XD(X:Cx)(ts:ϊ Expr)(t:NB):Prop:=
 ∀(pins:ϸ)(s:ώ)(σ:St)(H:Hp)(vs:ϊ V)(us:ϊ ϋ)(Q:St->Hp->Prop),Inv X pins σ H s->Vals vs us->t vs σ H Q->
  wpAny (model X.prog X.w) X.A (assignInOrder ((assignEach ts X.env).map (·.2)) us) (λ_ s'=>∃σ' H',Inv X pins σ' H' s'/\Q σ' H') X.xe s
abbrev Tf:=V->V->V->Hp->(Hp->Prop)->Prop
def XF(X:Cx)(t:Tf):Prop:=
 ∀(pins:ϸ)(s:ώ)(σ:St)(H:Hp)(o i v:V)(ov iv u:ϋ)(Q:Hp->Prop),Inv X pins σ H s->RelV o ov->RelV i iv->RelV v u->t o i v H Q->
  wpAny (model X.prog X.w) X.A (setItem ov iv u) (λ_ s'=>∃H',Inv X pins σ H' s'/\Q H') X.xe s
abbrev Xi:=V->V->Hp->VK->Prop
def PIp(X:Cx)(op:Operator)(t:Xi):Prop:=
 ∀(pins:ϸ)(s:ώ)(σ:St)(H:Hp)(x y:V)(v u:ϋ)(Q:VK),Inv X pins σ H s->RelV x v->RelV y u->t x y H Q->
  wpAny (model X.prog X.w) X.A (inplaceOp op v u) (EP X pins σ Q) X.xe s
section
variable{X:Cx}
abbrev ak(i:Nat):TG:=λv σ H Q=>Q (σ.set i !v) H
theorem oA(c:X.N.Nodup)(e:X.N[i]?=!x)(f:Loc X.env.scope x)(d:X.fn x=true\/X.env.scope.names.lookup x=!.local:=by first|show .inl rfl|show .inr rfl|assumption):PG X (.Name x pos) (ak i):=by
 intro a s j H v u Q I r h;show wpAny_assign_Name (oX I c e f r (λg b=>#[_,H,b,h]) d)
def jk:NB:=λvs σ H Q=>vs=[]/\Q σ H
def bO(t:TG)(u:NB):NB:=λvs σ H Q=>∃v r,vs=v::r/\t v σ H λσ' H'=>u r σ' H' Q
theorem cH:XD X [] jk:=by
 intro a s b H d c Q I r h;let#[e,h]:=h;subst e
 cases r;show assignInOrder_nil #[b,H,I,h]
theorem aO{b:ϊ Expr}{t:TG}{u:NB}(i:PG X e t)(j:XD X b u)
  (k:(assignEach (e::b) X.env).map (·.2)=assign e X.env::(assignEach b X.env).map (·.2):=by rfl):XD X (e::b) (bO t u):=by
 intro a s n H q o Q I r h;let#[v,p,g,h]:=h;subst g
 cases r with
 |cons r rr=>
  rw[k];show assignInOrder_cons (bA (i a s n H _ _ _ I r h) λ_ m ob=>?_);let#[c,d,f,l]:=ob;show j a m c d _ _ Q f rr l
def je(K:Ϗ)(n:Nat)(t:NB):TG:=λv σ H Q=>∃a xs,v=.ref a/\SqT K H a xs/\↑xs=n/\t xs σ H Q
theorem Tg{t:NB}(q:X.calm=true)(h:XD X d t)
  (x:↑(assignEach d X.env)=n:=by rfl) (f:(assignEach d X.env).findIdx? (·.1)=none:=by rfl):PG X (.Tuple d k pos) (je X.K n t):=by
 intro c s j H v u Q I r g;let#[a,C,m,y,w,g]:=g;subst m
 cases r;let#[B,i,z,D]:=I.tuple y;show assign_Tuple_tuple (I.ok.hd q) z (by simp[x,<-w,i.length]) f λp A=>?_
 have l:Inv X c j H {s with heap:=p}:=I.kept (t':=s.toks) λb o e=>A b o (ã (Ê e)) e
 show h c _ j H C _ Q l (by simpa using i) g
abbrev Cj(to ti:TE)(t:Tf):TG:=λv σ H Q=>to σ H λo H1=>ti σ H1 λi H2=>t o i v H2 λH3=>Q σ H3
theorem oZ{i:Expr}{e:TE}{t:Tf}(q:PE X o e)(p:PE X i d)(w:XF X t)
  (n:∀v,assign (.Subscript o i pos) X.env v=(do
   let ov<-holding [v] (eval o X.env)
   let b<-holding [v,ov] (eval i X.env)
   standAt pos
   holding [v,ov,b] (setItem ov b v)
   release [v,ov,b] []):=by intro _;rfl):PG X (.Subscript o i pos) (Cj e d t):=by
 intro a s c H v u Q I r h;rw[n];show Zp (ÿ (bA (q a s c H _ I h) λov E ob=>?_));let#[x,f,k,C,z]:=ob;show Zp (ÿ (bA (p a E c f _ k z) λb F ob=>?_));let#[y,g,l,D,A]:=ob;show Zp (wpAny_standAt (Zp (ÿ (bA (w a F c g x y v ov b u _ l C D r A) λ_ G ob=>?_))));let#[j,m,B]:=ob;show wpAny_release #[c,j,m,B]
abbrev aK(te:TE)(g:TG):TS:=λD σ H=>te σ H λx H1=>g x σ H1 D.nx
theorem p7{g:TG}(i:PE X e te)(j:PG X tg g)(k:swapsWithSole [tg] e pos.line X.env=pure false:=by rfl)(l:swappedStores [tg] e X.env=pure none:=by rfl)
  (f:(assignEach [tg] X.env).map (·.2)=[assign tg X.env]:=by rfl):PS X (.Assign [tg] e pos) (aK te g):=by
 intro a s b H D I h;show wpAny_Assign_stores (bA (i a s b H _ I h) λv o ⟨x,c,d,n,m⟩=>?_) k l;rw[f];show bA (j a o b c x v _ d n m) λ_ p q=>q
theorem gP(f:X.N.Nodup)(k:X.N[i]?=!x)(m:Loc X.env.scope x)(g:PE X e te)(l:swapsWith e (!(.Name x pos')) pos.line X.env=pure false:=by rfl)(j:X.fn x=true\/X.env.scope.names.lookup x=!.local:=by first|show .inl rfl|show .inr rfl|assumption):
  PS X (.Assign [.Name x pos'] e pos) (aK te (ak i)):=by
 intro a s p H D I h;show wpAny_Assign_Name (bA (g a s p H _ I h) λv q ⟨y,b,c,o,n⟩=>?_) l;show oX c f k m o (λr d=>#[_,b,d,n]) j
def O3(i:Nat)(te:TE)(ti:Xi):TS:=λD σ H=>∃x,σ[i]?=!(!x)/\te σ H λy H1=>ti x y H1 λz H2=>D.nx (σ.set i !z) H2
theorem Ew{g:Operator}(F:X.N.Nodup)(n:X.N[i]?=!x)(f:Loc X.env.scope x)(G:PE X e te)(M:PIp X g o)(J:X.fn x=true\/X.env.scope.names.lookup x=!.local:=by first|show .inl rfl|show .inr rfl|assumption):
  PS X (.AugAssign (.Name x pos') g e pos) (O3 i te o):=by
 intro a s p H D I h;let#[v,E,h]:=h;let#[m,L,K]:=I.loc;have j:Vis X.env.scope x:=by rcases f with k|k;show .inl k;show .inr (.inl k)
 let#[u,r,l]:=K i x v n E j;show wpAny_AugAssign_Name ?_;have go:wpAny (model X.prog X.w) X.A (eval e X.env) (λw b=>wpAny (model X.prog X.w) X.A (inplaceOp g u w) (λr d=>wpAny (model X.prog X.w) X.A (storeName X.env x r) (λ_=>SP X a D .next) X.xe d) X.xe b) X.xe s:=by
  show bA (G a s p H _ I h) λw R ob=>?_
  let#[y,q,A,P,N]:=ob;show bA (M a R p q v y u w _ A r P N) λz S ob=>?_
  let#[U,t,B,Q,O]:=ob;show oX B F n f Q (λT C=>#[_,t,C,O]) J
 rcases l with⟨hk,hm⟩|⟨hk,c,hc,hcell⟩
 .show wpAny_loadName_local I.ok.kind hk L hm go
 .rcases hk with hk|hk
  .show wpAny_loadName_cell I.ok.kind hk hc hcell go
  .rcases f with k|k
   .have:X.env.scope.names.lookup x=!.free:=hk;rw[k]at this;cases this
   .have:X.env.scope.names.lookup x=!.free:=hk;rw[k]at this;cases this
def ipI(f:Int->Int->Int):Xi:=λx y H Q=>∃i j,x=.int i/\y=.int j/\Q (.int (f i j)) H
theorem Ex:PIp X .Add (ipI λi j=>i+j):=by
 intro a s g H x y v u Q I d e h;let#[i,j,b,c,q]:=h;subst b;subst c;let#[t,rfl]:=d;let#[f,rfl]:=e;show iadd_int #[.int _,H,I.tok _,#[_,rfl],q]
end
section
variable{X:Cx}
def gQ(c:TT)(tb:TS):TS:=λD σ H=>∃W:Nat->St->Hp->Prop,(∃m,W m σ H)/\∀m σ H,W m σ H->
 c σ H λb H1=>if b=true then ∃N:St->Hp->Prop,(∀σ' H',N σ' H'->∃m',m'<m/\W m' σ' H')/\tb {D with nx:=N,ct:=N,bk:=D.nx} σ H1 else D.nx σ H1
theorem gY(z:PassesOwn (model X.prog X.w) X.A X.env X.xe)(C:PT X c tc)(B:PSs X body tb):PS X (.While c body [] pos) (gQ tc tb):=by
 intro a s M H D I h;let#[W,#[E,K],i]:=h;show wpAny_While (codeAny_whileLoop (λn F=>∃j t,Inv X a j t F/\W n j t) ?_ E #[M,H,I,K]);rintro n G ⟨e,u,A,L⟩;show œ z (bA (C a G e u _ A (i n e u L)) λb J ob=>?_);let#[w,x,k]:=ob
 cases b with
 |true=>
  let#[N,y,k]:=k;rw[if_pos rfl];show œ z (bA (B a J e w _ x k) λf O l=>?_)
  cases f with
  |next=>
   let#[d,g,m,q]:=l;let#[p,o,r]:=y d g q;show#[p,o,d,g,m,r]
  |cont=>
   let#[d,g,m,q]:=l;let#[p,o,r]:=y d g q;show#[p,o,d,g,m,r]
  |brk=>show l
  |ret v=>show l
 |false=>
  rw[if_neg Ò];show Ε #[e,w,x,k]
end
structure It where
 go:Nat->Hp->Prop
 yld:Nat->Hp->V->Hp->Prop
 stop:Nat->Hp->Prop
def mG(X:Cx)(pins:ϸ)(H:Hp)(b:ό):Prop:=
 H b=none/\b≠X.env.locals/\b∉X.fs/\(b∈X.ex\/X.s₀.heap.objs.size<=b)/\(∀x c,X.env.cells.lookup x=!c->c≠b)/\∀p∈X.pn++pins,p.1≠b
theorem Inv.fpOk{X:Cx}(I:Inv X pins σ H s)(a:s.heap.objs.size<=b)(f:d b=none):mG X pins d b:=by
 show#[f,ę (Ñ I.lt a),I.nofs a,.inr (Î I.sz a),λx c e z=>?_,λp g z=>?_]
 .obtain ⟨v,q⟩:=I.cell x c e;show absurd (Ñ q.lt (by rw[z];show a)) (Ĉ _)
 .show absurd (Ñ (Ê (I.pin p g).1) (by rw[z];show a)) (Ĉ _)
structure Turn(P:ϓ)(w:ϕ)(K:Ϗ)(tg:Expr)(J:It)(fp:ϊ ό)(it:ό)(tn:Nat->ϒ->Prop):Prop where
 mem:it∈fp
 obj:∀i h,tn i h->∀b∈fp,∃o,h.get? b=!o/\∀v,o.data≠.cell v
 keep:∀i h h',tn i h->(∀b∈fp,∀o,h.get? b=!o->h'.get? b=!o)->tn i h'
 item:∀(X:Cx),X.prog=P->X.w=w->X.K=K->X.calm=true->∀(i:Nat)(pins:ϸ)(s:ώ)(σ:St)(H:Hp)(E:϶),Inv X pins σ H s->(∀b∈fp,mG X pins H b)->tn i s.heap->J.go i H->
  wpAny (model P w) X.A (pyNext (.ref it)) (λr s1=>∃u,r=!u/\
   wpAny (model P w) X.A (letOwnedTupleGo tg (.ref it) u) (λ_ s2=>∃x H',Inv X pins σ H' s2/\RelV x u/\J.yld i H x H'/\tn (i+1) s2.heap/\∀b∈fp,H' b=none) E s1) E s
 done:∀(X:Cx),X.prog=P->X.w=w->X.K=K->X.calm=true->∀(i:Nat)(pins:ϸ)(s:ώ)(σ:St)(H:Hp)(E:϶),Inv X pins σ H s->(∀b∈fp,mG X pins H b)->tn i s.heap->J.stop i H->
  wpAny (model P w) X.A (pyNext (.ref it)) (λr s1=>r=none/\Inv X pins σ H s1) E s
 self:∀(A:ϖ)(i:Nat)(s:ώ)(Q:϶)(E:϶),tn i s.heap->Q (.ref it) s->wpAny (model P w) A (pyIter (.ref it)) Q E s
abbrev TI:=St->Hp->(It->Hp->Prop)->Prop
def PIE(X:Cx)(pins:ϸ)(σ:St)(tg:Expr)(R:It->Hp->Prop)(itv:ϋ)(s2:ώ):Prop:=
 ∃(it:ό)(fp:ϊ ό)(tn:Nat->ϒ->Prop)(J:It)(H':Hp),itv=.ref it/\Inv X pins σ H' s2/\Turn X.prog X.w X.K tg J fp it tn/\tn 0 s2.heap/\(∀b∈fp,mG X pins H' b)/\R J H'
def PI(X:Cx)(tg iter:Expr)(wi:TI):Prop:=
 ∀(pins:ϸ)(s:ώ)(σ:St)(H:Hp)(R:It->Hp->Prop),Inv X pins σ H s->wi σ H R->
  wpAny (model X.prog X.w) X.A (eval iter X.env) (λv s1=>wpAny (model X.prog X.w) X.A (pyIter v) (PIE X pins σ tg R) X.xe s1) X.xe s
theorem nA{n:String}{b:ϔ ϋ}{Q:Unit->ώ->Prop}(f:s.heap.get? it=!o)(c:o.cls=.type n)(d:o.data=.fields b)
  (e:["enumerate","zip","dict_itemiterator","dict_reverseitemiterator","odict_iterator","itertools.zip_longest","itertools.pairwise"].contains n=false) (a:Q Unit.unit s):wpAny M A (letOwnedTupleGo tg (.ref it) u) Q E s:=by
 unfold letOwnedTupleGo
 cases tg <;> first
  |show Á a
  | (cases u<;>first
    |show Á a
    | (show Zp (wpAny_load f ?_)
       rw[c,d];change wpAny M A (if(["enumerate","zip","dict_itemiterator","dict_reverseitemiterator","odict_iterator","itertools.zip_longest","itertools.pairwise"].contains n&&b[0]? ==!(rawInt _))=true then _ else _) Q E s;rw[if_neg (by intro h;rw[e,Υ]at h;cases h)];show Á a))
def O4(K:Ϗ)(a:ό):It:=
 #[λi H=>∃xs x,SqL K H a xs/\xs[i]?=!x,λi H x H'=>H'=H/\∀xs,SqL K H a xs->xs[i]?=!x,λi H=>∃xs,SqL K H a xs/\↑xs<=i]
def Xj(K:Ϗ)(a:ό):It:=
 #[λi H=>∃xs x,SqT K H a xs/\xs[i]?=!x,λi H x H'=>H'=H/\∀xs,SqT K H a xs->xs[i]?=!x,λi H=>∃xs,SqT K H a xs/\↑xs<=i]
def NK(lo:Int)(n:Nat):It:=#[λi _=>i<n,λi H x H'=>H'=H/\x=.int (lo+i),λi _=>n<=i]
theorem Ck{P:ϓ}{K:Ϗ}(a l:ό):Turn P w K tg (O4 K a) [l] l (λi h=>h.IsListIter l a i)where
 mem:=by simp
 obj:=λi h f b j=>by
  have e:b=l:=by simpa using j
  subst e;let#[o,e,c,d]:=f;show#[o,e,λv z=>by rw[d]at z;cases z]
 keep:=λi h n f k=>f.at λo e=>k l (by simp) o e
 item:=by
  intro X F J D O i g s Q H E I q f G;subst F J D;let#[xs,x,r,L]:=G;let#[M,N,p,Z]:=I.list r;let#[u,U,ru]:=N.get L;let#[t,y,T,A,B,C]:=q l (by simp);show wpAny_pyNext_list_item f p.isList (x:=u) (by simpa using U) λn m sb=>?_
  have R:Inv X g Q H {s with heap:=n}:=I.turned (t':=s.toks) (λb o j e=>(sb.2 b j).trans e) t y A B C;let#[o,e,c,d]:=id m;show#[u,rfl,nA (s:={s with heap:=n}) e c d (by decide) ⟨x,H,R,ru,⟨rfl,λys Y=>by rw[I.list_inj Y r];show L⟩,m,λb j=>(q b j).1⟩]
 done:=by
  intro X F J D O i g s Q H E I q f G;subst F J D;let#[xs,r,L]:=G;let#[M,N,p,Z]:=I.list r;let#[t,y,T,A,B,C]:=q l (by simp);have hl:=↑N;show wpAny_pyNext_list_end (I.ok.hd O) f p.isList (by simp;rfl') λn S=>#[rfl,I.turned (t':=s.toks) (λb o j e=>S b o j e) t y A B C]
 self:=λ_ _ _ _ _ f h=>wpAny_pyIter_listiter f h
theorem xQ{P:ϓ}{K:Ϗ}(a l:ό):Turn P w K tg (Xj K a) [l] l (λi h=>h.IsTupleIter l a i)where
 mem:=by simp
 obj:=λi h f b j=>by
  have e:b=l:=by simpa using j
  subst e;let#[o,e,c,d]:=f;show#[o,e,λv z=>by rw[d]at z;cases z]
 keep:=λi h q f k=>f.at λo e=>k l (by simp) o e
 item:=by
  intro X G L F O i g s Q H E I r f J;subst G L F;let#[xs,x,t,M]:=J;let#[m,N,p,Z]:=I.tuple t;let#[u,U,ru]:=N.get M;let#[y,A,T,B,C,D]:=r l (by simp);show wpAny_pyNext_tuple_item f (show s.heap.IsTuple a m.toArray from p) (x:=u) (by simpa using U) λq n sb=>?_
  have R:Inv X g Q H {s with heap:=q}:=I.turned (t':=s.toks) (λb o j e=>(sb.2 b j).trans e) y A B C D;let#[o,e,c,d]:=id n;show#[u,rfl,nA (s:={s with heap:=q}) e c d (by decide) ⟨x,H,R,ru,⟨rfl,λys Y=>by rw[I.tuple_inj Y t];show M⟩,n,λb j=>(r b j).1⟩]
 done:=by
  intro X G L F O i g s Q H E I r f J;subst G L F;let#[xs,t,M]:=J;let#[m,N,p,Z]:=I.tuple t;let#[y,A,T,B,C,D]:=r l (by simp);have hl:=↑N;show wpAny_pyNext_tuple_end (I.ok.hd O) f (show s.heap.IsTuple a m.toArray from p) (by simp;rfl') λq S=>#[rfl,I.turned (t':=s.toks) (λb o j e=>S b o j e) y A B C D]
 self:=λ_ _ _ _ _ f h=>wpAny_pyIter_tupleiter f h
theorem xR{P:ϓ}{K:Ϗ}(c:ό)(lo:Int)(n:Nat):Turn P w K tg (NK lo n) [c] c (λi h=>IsRangeIter h c (lo+(i:Nat)*1) ((n:Int)-(i:Nat)) 1)where
 mem:=by simp
 obj:=λi h a b f=>by
  have e:b=c:=by simpa using f
  subst e;show⟨_,a,λv z=>by
   have O:Data.fields _=Data.cell v:=z
   cases O⟩
 keep:=λi h j a k=>k c (by simp) _ a
 item:=by
  intro X y C x A i d s F H E I l a B;subst y C x;let#[m,p,L,q,r,u]:=l c (by simp);have W:=Walks.range (prog:=X.prog) (w:=X.w) (I.ok.hd A) c lo 1 n;show W.item i s _ _ B a λv j D M g N=>?_
  let#[t,rfl]:=M;have G:Inv X d F H {s with heap:=j,toks:=D}:=I.turned (λb o f e=>N b o (by simpa using f) e) m p q r u;show⟨_,rfl,nA (s:={s with heap:=j,toks:=D}) (n:="range_iterator") g rfl rfl (by decide) ⟨.int (lo+i),H,G,⟨t,?_⟩,⟨rfl,rfl⟩,g,λb f=>(l b f).1⟩⟩;rw[Int.mul_one]
 done:=by
  intro X y C x A i d s F H E I l a B;subst y C x;let#[m,p,L,q,r,u]:=l c (by simp);show Φ (I.ok.hd A) a (by have:n<=i:=B;rfl') λj J=>#[rfl,I.turned (t':=s.toks) (λb o f e=>J b o f e) m p q r u]
 self:=λ_ _ _ _ _ a h=>Χ a h
section
variable{X:Cx}
abbrev bY(K:Ϗ)(tl:TE):TI:=λσ H R=>tl σ H λx H1=>∃a,x=.ref a/\(∃xs,SqL K H1 a xs)/\R (O4 K a) H1
abbrev ph(K:Ϗ)(tl:TE):TI:=λσ H R=>tl σ H λx H1=>∃a,x=.ref a/\(∃xs,SqT K H1 a xs)/\R (Xj K a) H1
theorem O5(j:PE X l tl):PI X tg l (bY X.K tl):=by
 intro c s t H R I h;show bA (j c s t H _ I h) λv f ob=>?_
 let#[x,g,d,r,n]:=ob;let#[a,e,#[y,k],q]:=n;subst e
 cases r;let#[m,w,p,u]:=d.list k;show Ψ p.isList ?_;show#[f.heap.objs.size,[f.heap.objs.size],_,_,g,rfl,d.kept (t':=f.toks) λb o e=>Ã _ e,Ck a _,#[_,Ë _ rfl,rfl,rfl],λb i=>?_,q];have e:b=f.heap.objs.size:=by simpa using i
 subst e;show d.fpOk (Ä _) (d.hok.fresh (Ä _))
theorem Th(k:PE X l tl):PI X tg l (ph X.K tl):=by
 intro c s t H R I h;show bA (k c s t H _ I h) λv d ob=>?_
 let#[x,i,f,r,n]:=ob;let#[a,e,#[y,m],q]:=n;subst e
 cases r;let#[g,w,p,u]:=f.tuple m;show ĵ (show d.heap.IsTuple a g.toArray from p) ?_;show#[d.heap.objs.size,[d.heap.objs.size],_,_,i,rfl,f.kept (t':=d.toks) λb o e=>Ã _ e,xQ a _,#[_,Ë _ rfl,rfl,rfl],λb j=>?_,q];have e:b=d.heap.objs.size:=by simpa using j
 subst e;show f.fpOk (Ä _) (f.hok.fresh (Ä _))
theorem Ey{R:It->Hp->Prop}{lo a:Int}{t u v:Tok}{d:Nat}(I:Inv X pins σ H s)(h:-(2^62)<=lo)(i:lo<2^62)(j:-(2^62)<=a)(k:a<2^62)
  (q:R (NK lo (a-lo).toNat) H):wpAny (model X.prog X.w) X.A (pyIter (.ref s.heap.objs.size)) (PIE X pins σ tg R) E {s with heap:=s.heap.push {cls:=.type "range",data:=.fields ([.int lo t,.int a u,.int 1 v].toArray)},toks:=d}:=by
 show wpAny_pyIter_range (IsRange.new ..) (small_one h i j k) ?_;have c:Inv X pins σ H {s with heap:=s.heap.push {cls:=.type "range",data:=.fields ([.int lo t,.int a u,.int 1 v].toArray)},toks:=d}:=I.kept λb o e=>Ã _ e
 show⟨(s.heap.push {cls:=.type "range",data:=.fields ([.int lo t,.int a u,.int 1 v].toArray)}).objs.size,[(s.heap.push {cls:=.type "range",data:=.fields ([.int lo t,.int a u,.int 1 v].toArray)}).objs.size],_,_,H,rfl,
  c.kept (t':=d) λb o e=>Ã _ e,xR _ lo (a-lo).toNat,?_,λb l=>?_,q⟩
 .have f:lo+((0:Nat):Int)*1=lo:=by simp
  have g:(((a-lo).toNat:Nat):Int)-((0:Nat):Int)=Builtin.Range.rangeSize lo a 1:=by rw[rangeSize_one];split<;>rfl'
  change IsRangeIter _ _ (lo+((0:Nat):Int)*1) ((((a-lo).toNat:Nat):Int)-((0:Nat):Int)) 1;rw[f,g];show Ë _ rfl
 .have e:b=(s.heap.push {cls:=.type "range",data:=.fields ([.int lo t,.int a u,.int 1 v].toArray)}).objs.size:=by simpa using l
  subst e;show c.fpOk (Ä _) (c.hok.fresh (Ä _))
abbrev eZ(ta:TA):TI:=λσ H R=>ta σ H λvs H1=>∃j:Int,vs=[.int j]/\-(2^62)<=j/\j<2^62/\R (NK 0 j.toNat) H1
theorem bD{a:Expr}{p:Pos}(i:Gl X "range")(k:X.mg "range"=none)(g:PA X [a] d)(l:starEach [a] X.env=[(false,eval a X.env)]:=by rfl):PI X tg (.Call (.Name "range" p) [a] [] pos) (eZ d):=by
 intro b s o H R I h;show Call_ (gO I i k boot_range (Ą (bA (g pos b s o H _ I h) λw v ⟨x,u,f,n,c⟩=>?_) l rfl));let#[j,e,c,m,q]:=c;subst e
 cases n with
 |cons r rr=>
  cases rr;let#[t,rfl]:=r;show call_range_1 (Ey f () () c m (by simpa using q))
def cD(wi:TI)(g:TG)(tb:TS):TS:=λD σ H=>wi σ H λJ H1=>∃W:Nat->Nat->St->Hp->Prop,(∃m,W 0 m σ H1)/\∀i m σ H,W i m σ H->
 (J.stop i H/\D.nx σ H)\/(J.go i H/\∃N:St->Hp->Prop,(∀σ' H',N σ' H'->∃m',m'<m/\W (i+1) m' σ' H')/\∀x H',J.yld i H x H'->g x σ H' λσ2 H2=>tb {D with nx:=N,ct:=N,bk:=D.nx} σ2 H2)
def pq(fp:ϊ ό)(h:ϒ):ϸ:=fp.filterMap λb=>(h.get? b).map λo=>(b,o)
theorem iG(a:b∈fp)(e:h.get? b=!o):(b,o)∈pq fp h:=ì.mpr #[b,a,by rw[e];rfl]
theorem Cm(d:p∈pq fp h):p.1∈fp/\h.get? p.1=!p.2:=by
 let#[b,c,e]:=ì.mp d
 cases q:h.get? b with
 |none=>rw[q]at e;cases e
 |some o=>
  rw[q]at e;have a:(b,o)=p:=ß e;subst a;show#[c,q]
theorem Inv.pinned(I:Inv X pins σ H s)(i:∀b∈fp,mG X pins H b)(j:∀b∈fp,∃o,s.heap.get? b=!o/\∀v,o.data≠.cell v):Inv X (pins++pq fp s.heap) σ H s:=
 I.pins_of λp k=>(Å.mp k).elim (λz=>I.pin p (Û _ z)) λz=>by
  let#[c,e]:=Cm z;let#[f,g,h,_]:=i p.1 c;let#[o,a,d]:=j p.1 c;rw[e]at a;cases a;show#[e,f,g,h,d]
theorem Inv.unpinned{b:ϸ}(I:Inv X (pins++b) σ H s):Inv X pins σ H s:=I.pins_of λp a=>I.pin p (Û _ (á _ a))
theorem Ti{g:TG}(F:PassesOwn (model X.prog X.w) X.A X.env X.xe)(hc:X.calm=true)(hi:PI X tg q wi)(hg:PG X tg g)(p:PSs X body tb)
  (hs:∀x,foldedSetIterable q X.env x=pure x:=by intro _;rfl):PS X (.For tg q body [] pos) (cD wi g tb):=by
 intro a s σ H D I h;show wpAny_For (bA (hi a s σ H _ I h) λv s1 h1=>bA h1 λab s2 h2=>?_) hs;let#[it,C,tn,J,H2,e,I2,T,S,f2,W,#[m0,w0],L]:=h2;subst e;have t:∀{z:Hp},(∀b∈C,z b=none)->∀b∈C,mG X a z b:=λhn b p=>#[hn b p,(f2 b p).2]
 show codeAny_forLoop_any (λn s'=>∃i w z,Inv X a w z s'/\tn i s'.heap/\(∀b∈C,z b=none)/\W i n w z) ?_ m0 #[0,σ,H2,I2,S,λb p=>(f2 b p).1,w0];rintro n s3 ⟨i,y,M,Z,K,E,w3⟩;rcases L i n y M w3 with⟨stop,qn⟩|⟨go,N,hN,step⟩
 .show œ F (bA (T.done X rfl rfl rfl hc i a s3 y M X.xe Z (t E) K stop) λr s4 ob=>?_);let#[Q,I4]:=ob;subst Q;show Ε #[y,M,I4,qn]
 .show œ F (bA (T.item X rfl rfl rfl hc i a s3 y M X.xe Z (t E) K go) λr s4 ob=>?_);let#[u,Q,h4]:=ob;subst Q;show œ F (bA h4 λ_ s5 ob=>?_);let#[x,Y,I5,r5,y5,B,P]:=ob;have O:=I5.pinned (t P) (T.obj _ _ B);show œ F (bA (hg _ s5 y Y x u _ O r5 (step x Y y5)) λ_ s6 ob=>?_);let#[U,H6,I6,q6]:=ob;show œ F (bA (p _ s6 U H6 _ I6 q6) λf R A=>?_);have l:∀{c:St}{j:Hp},Inv X (a++pq C s5.heap) c j R->N c j->∃m,m<n/\∃i w z,Inv X a w z R/\tn i R.heap/\(∀b∈C,z b=none)/\W i m w z:=λ{c j} k G=>by
   let#[m',hm,w7]:=hN c j G;show#[m',hm,i+1,c,j,k.unpinned,T.keep _ _ _ B λb p o e=>(k.pin (b,o) (Û _ (Û _ (iG p e)))).1,λb p=>?_,w7];let#[o,e,d]:=T.obj _ _ B b p;show(k.pin (b,o) (Û _ (Û _ (iG p e)))).2.1
  cases f with
  |next=>let#[c,j,k,G]:=A;show l k G
  |cont=>let#[c,j,k,G]:=A;show l k G
  |brk=>let#[c,j,k,A]:=A;show#[c,j,k.unpinned,A]
  |ret v=>let#[x7,c,j,k,r7,A]:=A;show#[x7,c,j,k.unpinned,r7,A]
end
theorem Ez{K:Ϗ}{xs:ϊ V}{g:TG}{D:Ends}(b:Nat->St->Hp->Prop)(f:b 0 σ H)(k:∀i σ H,i<=↑xs->b i σ H->SqL K H a xs)
  (l:∀i x σ H,xs[i]?=!x->b i σ H->g x σ H λc H2=>tb {D with nx:=b (i+1),ct:=b (i+1),bk:=D.nx} c H2) (h:∀σ H,b ↑xs σ H->D.nx σ H):
  ∃W:Nat->Nat->St->Hp->Prop,(∃m,W 0 m σ H)/\∀i m σ H,W i m σ H->
   ((O4 K a).stop i H/\D.nx σ H)\/((O4 K a).go i H/\∃N:St->Hp->Prop,(∀σ' H',N σ' H'->∃m',m'<m/\W (i+1) m' σ' H')/\∀x H',(O4 K a).yld i H x H'->g x σ H' λc H2=>tb {D with nx:=N,ct:=N,bk:=D.nx} c H2):=by
 show#[λi m σ H=>m=↑xs-i/\i<=↑xs/\b i σ H,#[↑xs,by simp,à _,f],?_];rintro i m σ H ⟨rfl,j,p⟩;have q:=k i σ H j p;by_cases d:i<↑xs
 .show .inr #[#[xs,xs[i],q,by simp[d]],b (i+1),λσ' H' n=>#[xs.length-(i+1),(),rfl,d,n],λx H' y=>?_];let#[e,y]:=y;subst e;show l i x σ _ (y xs q) p
 .have e:i=↑xs:=()
  subst e;show .inl #[#[xs,q,Ä _],h σ H p]
theorem O6{K:Ϗ}{xs:ϊ V}{g:TG}{D:Ends}(b:Nat->St->Hp->Prop)(f:b 0 σ H)(k:∀i σ H,i<=↑xs->b i σ H->SqT K H a xs)
  (l:∀i x σ H,xs[i]?=!x->b i σ H->g x σ H λc H2=>tb {D with nx:=b (i+1),ct:=b (i+1),bk:=D.nx} c H2) (h:∀σ H,b ↑xs σ H->D.nx σ H):
  ∃W:Nat->Nat->St->Hp->Prop,(∃m,W 0 m σ H)/\∀i m σ H,W i m σ H->
   ((Xj K a).stop i H/\D.nx σ H)\/((Xj K a).go i H/\∃N:St->Hp->Prop,(∀σ' H',N σ' H'->∃m',m'<m/\W (i+1) m' σ' H')/\∀x H',(Xj K a).yld i H x H'->g x σ H' λc H2=>tb {D with nx:=N,ct:=N,bk:=D.nx} c H2):=by
 show#[λi m σ H=>m=↑xs-i/\i<=↑xs/\b i σ H,#[↑xs,by simp,à _,f],?_];rintro i m σ H ⟨rfl,j,p⟩;have q:=k i σ H j p;by_cases d:i<↑xs
 .show .inr #[#[xs,xs[i],q,by simp[d]],b (i+1),λσ' H' n=>#[xs.length-(i+1),(),rfl,d,n],λx H' y=>?_];let#[e,y]:=y;subst e;show l i x σ _ (y xs q) p
 .have e:i=↑xs:=()
  subst e;show .inl #[#[xs,q,Ä _],h σ H p]
theorem Cp{lo:Int}{g:TG}{D:Ends}(a:Nat->St->Hp->Prop)(d:a 0 σ H)
  (h:∀i σ H,i<n->a i σ H->g (.int (lo+i)) σ H λc H2=>tb {D with nx:=a (i+1),ct:=a (i+1),bk:=D.nx} c H2) (f:∀σ H,a n σ H->D.nx σ H):
  ∃W:Nat->Nat->St->Hp->Prop,(∃m,W 0 m σ H)/\∀i m σ H,W i m σ H->
   ((NK lo n).stop i H/\D.nx σ H)\/((NK lo n).go i H/\∃N:St->Hp->Prop,(∀σ' H',N σ' H'->∃m',m'<m/\W (i+1) m' σ' H')/\∀x H',(NK lo n).yld i H x H'->g x σ H' λc H2=>tb {D with nx:=N,ct:=N,bk:=D.nx} c H2):=by
 show#[λi m σ H=>m=n-i/\i<=n/\a i σ H,#[n,by simp,à _,d],?_];rintro i m σ H ⟨rfl,k,p⟩;by_cases b:i<n
 .show .inr #[b,a (i+1),λσ' H' j=>#[n-(i+1),(),rfl,b,j],λx H' y=>?_];let#[e,y]:=y;subst e y;show h i σ _ b p
 .have e:i=n:=()
  subst e;show .inl #[Nat.le_refl _,f σ H p]
theorem vA{c:TT}(a:St->Hp->Prop)(e:St->Hp->Nat)(g:a σ H)
  (h:∀σ H,a σ H->c σ H λb H1=>if b=true then tb {D with nx:=λσ' H'=>a σ' H'/\e σ' H'<e σ H,ct:=λσ' H'=>a σ' H'/\e σ' H'<e σ H,bk:=D.nx} σ H1 else D.nx σ H1)
  (d:∀σ H Q f,(∀b H1,Q b H1->f b H1)->c σ H Q->c σ H f):gQ c tb D σ H:=by
 show#[λm σ H=>m=e σ H/\a σ H,#[_,rfl,g],?_];rintro m σ H ⟨rfl,p⟩;show d σ H _ _ (λb H1 q=>?_) (h σ H p)
 cases b with
 |true=>show#[_,λσ' H' ⟨i,l⟩=>#[_,l,rfl,i],q]
 |false=>show q
abbrev R2:=V->V->Hp->VK->Prop
variable{r r':R2}
def iw(X:Cx)(f:ϋ->ϋ->Sem ϋ)(r:R2):Prop:=
 ∀(pins:ϸ)(s:ώ)(σ:St)(H:Hp)(x y:V)(v u:ϋ)(Q:VK),Inv X pins σ H s->RelV x v->RelV y u->r x y H Q->
  wpAny (model X.prog X.w) X.A (f v u) (EP X pins σ Q) X.xe s
def UnR(X:Cx)(f:ϋ->Sem ϋ)(r:V->Hp->VK->Prop):Prop:=
 ∀(pins:ϸ)(s:ώ)(σ:St)(H:Hp)(x:V)(v:ϋ)(Q:VK),Inv X pins σ H s->RelV x v->r x H Q->
  wpAny (model X.prog X.w) X.A (f v) (EP X pins σ Q) X.xe s
def bU(X:Cx)(f:ϋ)(r:ϊ V->Hp->VK->Prop):Prop:=
 ∀(pins:ϸ)(s:ώ)(σ:St)(H:Hp)(xs:ϊ V)(us:ϊ ϋ)(Q:VK),Inv X pins σ H s->Vals xs us->r xs H Q->
  wpAny (model X.prog X.w) X.A (call f us) (EP X pins σ Q) X.xe s
def a0u(X:Cx)(r:V->Hp->(ϑ->Hp->Prop)->Prop):Prop:=
 ∀(pins:ϸ)(s:ώ)(σ:St)(H:Hp)(x:V)(v:ϋ)(Q:ϑ->Hp->Prop),Inv X pins σ H s->RelV x v->r x H Q->
  wpAny (model X.prog X.w) X.A (truthy v) (TP X pins σ Q) X.xe s
abbrev aL(r:R2)(ta tb:TE):TE:=λσ H Q=>ta σ H λx H1=>tb σ H1 λy H2=>r x y H2 Q
abbrev R4(r:V->Hp->VK->Prop)(ta:TE):TE:=λσ H Q=>ta σ H λx H1=>r x H1 Q
def rI(C:Int->Int->Prop)(g:Int->Int->V):R2:=λx y H Q=>∃i j,x=.int i/\y=.int j/\C i j/\Q (g i j) H
def qW(g:Int->Int->V):R2:=λx y H Q=>∃i j,x=.int i/\y=.int j/\Q (g i j) H
def rU(g:Int->V):V->Hp->VK->Prop:=λx H Q=>∃i,x=.int i/\Q (g i) H
section
variable{X:Cx}{a b c:Expr}{ta tb tc:TE}{pos:Pos}
theorem Tj(g:PE X a ta)(i:PE X b tb){s:ώ}(I:Inv X pins σ H s)
  (h:ta σ H λx H1=>tb σ H1 λy H2=>R x y H2)
  (j:∀v u c x y H2,Inv X pins σ H2 c->RelV x v->RelV y u->R x y H2->wpAny (model X.prog X.w) X.A (f v u) Q X.xe c):
  wpAny (model X.prog X.w) X.A (eval a X.env) (λv s₁=>wpAny (model X.prog X.w) X.A (eval b X.env) (λu s₂=>wpAny (model X.prog X.w) X.A (f v u) Q X.xe s₂) X.xe s₁) X.xe s:=by
 show bA (g pins s σ H _ I h) λv o ob=>?_
 let#[x,H1,d,m,k]:=ob;show bA (i pins o σ H1 _ d k) λu c ob=>?_
 let#[y,H2,e,n,l]:=ob;show j v u c x y H2 e m n l
theorem aD{d:Operator}(j:iw X (binaryOp d) r)(g:PE X a ta)(i:PE X b tb):PE X (.BinOp a d b pos) (aL r ta tb):=by
 intro c s n H Q I h;show wpAny_BinOp (Tj g i I h λv u m x y e f k l q=>j c m n e x y v u Q f k l q)
theorem pA{c:UnaryOp}{r:V->Hp->VK->Prop}(i:UnR X (unaryOp c) r)(g:PE X a ta):PE X (.UnaryOp c a pos) (R4 r ta):=by
 intro b s d H Q I h;show UnaryOp_ (bA (g b s d H _ I h) λv l ob=>?_);let#[x,e,f,k,j]:=ob;show i b l d e x v Q f k j
theorem XH
  (a:∀(i j:Int)(t u:Tok)(s:ώ)(Q:϶)(E:϶),C i j->Q (.int (g i j) s.toks) {s with toks:=s.toks+1}->wpAny (model X.prog X.w) X.A (f (.int i t) (.int j u)) Q E s):
  iw X f (rI C λi j=>.int (g i j)):=by
 intro b s l H x y v u Q I d e h;let#[i,j,rfl,rfl,c,q]:=h;let#[t,rfl]:=d;let#[k,rfl]:=e;show a i j t k s _ _ c #[.int (g i j),H,I.tok _,#[_,rfl],q]
theorem EY
  (a:∀(i j:Int)(t u:Tok)(s:ώ)(Q:϶)(E:϶),Q (.int (g i j) s.toks) {s with toks:=s.toks+1}->wpAny (model X.prog X.w) X.A (f (.int i t) (.int j u)) Q E s):
  iw X f (qW λi j=>.int (g i j)):=by
 intro b s k H x y v u Q I c d h;let#[i,j,rfl,rfl,q]:=h;let#[t,rfl]:=c;let#[e,rfl]:=d;show a i j t e s _ _ #[.int (g i j),H,I.tok _,#[_,rfl],q]
theorem O7{g:Int->Int->ϑ}
  (a:∀(i j:Int)(t u:Tok)(s:ώ)(Q:϶)(E:϶),Q (.bool (g i j)) s->wpAny (model X.prog X.w) X.A (f (.int i t) (.int j u)) Q E s):
  iw X f (qW λi j=>.bl (g i j)):=by
 intro b s k H x y v u Q I c d h;let#[i,j,rfl,rfl,q]:=h;let#[t,rfl]:=c;let#[e,rfl]:=d;show a i j t e s _ _ #[.bl (g i j),H,I,rfl,q]
def XJ(i j:Int):Prop:=0<j/\j<1073741824
def XM(i j:Int):Prop:=0<=j/\j<=1000000/\i.natAbs<2^64
def CMul(i j:Int):Prop:=(-(2^64)<i/\i<2^64)\/(-(2^64)<j/\j<2^64)
theorem CMul.ok{i j:Int}(h:CMul i j):IntMulOk i j:=by
 rcases h with⟨h1,h2⟩|⟨h1,h2⟩
 .show .of_left (intBits_le_64 h1 h2)
 .show .of_right (intBits_le_64 h1 h2)
theorem xT(k:Nat):(0:Int)<=2^k:=by
 rw[two_pow_cast];show Ι _
def aZ:iw X (binaryOp .Add) (qW λi j=>.int (i+j)):=EY λ_ _ _ _ _ _ _ q=>add_int q
def km:iw X (binaryOp .Sub) (qW λi j=>.int (i-j)):=EY λ_ _ _ _ _ _ _ q=>sub_int q
theorem dm:iw X (binaryOp .Mult) (rI CMul λi j=>.int (i*j)):=XH λ_ _ _ _ _ _ _ a q=>mul_int q a.ok
theorem cT:iw X (binaryOp .FloorDiv) (rI XJ λi j=>.int (i/j)):=XH λi j _ _ _ _ _ a q=>by
 have b:(0:Int)<j:=a.1;have c:j<1073741824:=a.2;show floordiv_int () (by rw[Int.fdiv_eq_ediv_of_nonneg i ()];show q) (.inl (PyProof.noPylong_small ()))
theorem aX:iw X (binaryOp .Mod) (rI (λ_ j=>0<j) λi j=>.int (i%j)):=XH λi j _ _ _ _ _ a q=>by
 have b:(0:Int)<j:=a;show mod_int' () (by rw[Int.fmod_eq_emod_of_nonneg i ()];show q)
theorem xU:iw X (binaryOp .LShift) (rI XM λi j=>.int (i*2^j.toNat)):=XH λ_ _ _ _ _ _ _ a q=>lshift_int_small a.1 a.2.1 a.2.2 q
theorem Fb:iw X (binaryOp .RShift) (rI (λ_ j=>0<=j) λi j=>.int (i/2^j.toNat)):=XH λi j _ _ _ _ _ a q=>
 rshift_int a (by rw[Int.fdiv_eq_ediv_of_nonneg i (xT _)];show q)
def Fd:iw X (binaryOp .BitAnd) (qW λi j=>.int (Builtin.bitAnd i j)):=EY λ_ _ _ _ _ _ _ q=>and_int q
def XN:iw X (binaryOp .BitOr) (qW λi j=>.int (Builtin.bitOr i j)):=EY λ_ _ _ _ _ _ _ q=>or_int q
def Fe:iw X (binaryOp .BitXor) (qW λi j=>.int (Builtin.bitXor i j)):=EY λ_ _ _ _ _ _ _ q=>xor_int q
theorem unI{f:ϋ->Sem ϋ}{g:Int->Int}
  (a:∀(i:Int)(t:Tok)(s:ώ)(Q:϶)(E:϶),Q (.int (g i) s.toks) {s with toks:=s.toks+1}->wpAny (model X.prog X.w) X.A (f (.int i t)) Q E s):
  UnR X f (rU λi=>.int (g i)):=by
 intro b s d H x v Q I c h;let#[i,rfl,q]:=h;let#[t,rfl]:=c;show a i t s _ _ #[.int (g i),H,I.tok _,#[_,rfl],q]
def kE:UnR X (unaryOp .USub) (rU λi=>.int (-i)):=unI λ_ _ _ _ _ q=>neg_int q
end
def XQ:V->V->ϑ
 |.non,.non=>true|.non,.int _=>true|.int _,.non=>true|.non,.bl _=>true|.bl _,.non=>true|.non,.str _=>true|.str _,.non=>true
 |.int _,.int _=>true|.bl _,.bl _=>true|.str _,.str _=>true|.byt _,.byt _=>true
 |.int _,.str _=>true|.str _,.int _=>true|.bl _,.str _=>true|.str _,.bl _=>true
 |_,_=>false
def pB:R2:=λx y H Q=>XQ x y=true/\Q (.bl (decide (x=y))) H
def xV:R2:=λx y H Q=>XQ x y=true/\Q (.bl (not (decide (x=y)))) H
theorem zZ{i j:Int}:decide (V.int i=V.int j)=(i==j):=by
 rw[Ζ];simp
theorem Ff{i j:ϑ}:decide (V.bl i=V.bl j)=(i==j):=by
 rw[Ζ];simp
theorem Aa{i j:ϐ}:decide (V.str i=V.str j)=(i==j):=by
 rw[Ζ];simp
theorem Ab{i j:ϔ UInt8}:decide (V.byt i=V.byt j)=(i.toList==j.toList):=by
 rw[Ζ]
 cases i
 cases j;simp
section
variable{X:Cx}{a b c:Expr}{ta tb tc:TE}{pos:Pos}
theorem b7{Q:VK}{k a:ϑ}(I:Inv X pins σ H s)(q:Q (.bl k) H)(e:k=a):EP X pins σ Q (.bool a) s:=by
 subst e;show#[.bl k,H,I,rfl,q]
theorem dC:iw X (compareOp .Eq) pB:=by
 intro e s f H x y v u Q I d a h;let#[c,q]:=h
 cases x with
 |non=>
  cases d
  cases y with
  |non=>cases a;show PySem.EqNone.eq_none_none (b7 I q (by simp))
  |bl j=>cases a;show PySem.EqNone.eq_none_bool (b7 I q (by simp))
  |int j=>let#[b,rfl]:=a;show PySem.EqNone.eq_none_int (b7 I q (by simp))
  |str j=>let#[b,rfl]:=a;show PySem.EqNone.eq_none_str (b7 I q (by simp))
  |_=>show absurd (show false=true from c) Ò
 |bl i=>
  cases d
  cases y with
  |non=>cases a;show PySem.EqNone.eq_bool_none (b7 I q (by simp))
  |bl j=>cases a;show eq_bool (b7 I q Ff)
  |str j=>let#[b,rfl]:=a;show PySem.EqMixed.eq_bool_str (b7 I q (by simp))
  |_=>show absurd (show false=true from c) Ò
 |int i=>
  let#[t,rfl]:=d
  cases y with
  |non=>cases a;show PySem.EqNone.eq_int_none (b7 I q (by simp))
  |int j=>let#[b,rfl]:=a;show eq_int (b7 I q zZ)
  |str j=>let#[b,rfl]:=a;show PySem.EqMixed.eq_int_str (b7 I q (by simp))
  |_=>show absurd (show false=true from c) Ò
 |str i=>
  let#[t,rfl]:=d
  cases y with
  |non=>cases a;show PySem.EqNone.eq_str_none (b7 I q (by simp))
  |bl j=>cases a;show PySem.EqMixed.eq_str_bool (b7 I q (by simp))
  |int j=>let#[b,rfl]:=a;show PySem.EqMixed.eq_str_int (b7 I q (by simp))
  |str j=>let#[b,rfl]:=a;show eq_str (b7 I q Aa)
  |_=>show absurd (show false=true from c) Ò
 |byt i=>
  let#[t,rfl]:=d
  cases y with
  |byt j=>let#[b,rfl]:=a;show PySem.W.eq_bytes (b7 I q Ab)
  |_=>show absurd (show false=true from c) Ò
 |_=>cases y<;>show absurd (show false=true from c) Ò
theorem j9:iw X (compareOp .NotEq) xV:=by
 intro e s f H x y v u Q I d a h;let#[c,q]:=h
 cases x with
 |non=>
  cases d
  cases y with
  |non=>cases a;show PySem.EqNone.ne_none_none (b7 I q (by simp))
  |bl j=>cases a;show PySem.EqNone.ne_none_bool (b7 I q (by simp))
  |int j=>let#[b,rfl]:=a;show PySem.EqNone.ne_none_int (b7 I q (by simp))
  |str j=>let#[b,rfl]:=a;show PySem.EqNone.ne_none_str (b7 I q (by simp))
  |_=>show absurd (show false=true from c) Ò
 |bl i=>
  cases d
  cases y with
  |non=>cases a;show PySem.EqNone.ne_bool_none (b7 I q (by simp))
  |bl j=>cases a;show ne_bool (b7 I q (Ý not Ff))
  |str j=>let#[b,rfl]:=a;show PySem.EqMixed.ne_bool_str (b7 I q (by simp))
  |_=>show absurd (show false=true from c) Ò
 |int i=>
  let#[t,rfl]:=d
  cases y with
  |non=>cases a;show PySem.EqNone.ne_int_none (b7 I q (by simp))
  |int j=>let#[b,rfl]:=a;show ne_int (b7 I q (Ý not zZ))
  |str j=>let#[b,rfl]:=a;show PySem.EqMixed.ne_int_str (b7 I q (by simp))
  |_=>show absurd (show false=true from c) Ò
 |str i=>
  let#[t,rfl]:=d
  cases y with
  |non=>cases a;show PySem.EqNone.ne_str_none (b7 I q (by simp))
  |bl j=>cases a;show PySem.EqMixed.ne_str_bool (b7 I q (by simp))
  |int j=>let#[b,rfl]:=a;show PySem.EqMixed.ne_str_int (b7 I q (by simp))
  |str j=>let#[b,rfl]:=a;show ne_str (b7 I q (Ý not Aa))
  |_=>show absurd (show false=true from c) Ò
 |byt i=>
  let#[t,rfl]:=d
  cases y with
  |byt j=>let#[b,rfl]:=a;show PySem.W.ne_bytes (b7 I q (Ý not Ab))
  |_=>show absurd (show false=true from c) Ò
 |_=>cases y<;>show absurd (show false=true from c) Ò
def pC:iw X (compareOp .Lt) (qW λi j=>.bl (decide (i<j))):=O7 λ_ _ _ _ _ _ _ q=>lt_int q
def rK:iw X (compareOp .LtE) (qW λi j=>.bl (decide (i<=j))):=O7 λ_ _ _ _ _ _ _ q=>le_int q
def lJ:iw X (compareOp .Gt) (qW λi j=>.bl (decide (j<i))):=O7 λ_ _ _ _ _ _ _ q=>gt_int q
def XR:iw X (compareOp .GtE) (qW λi j=>.bl (decide (j<=i))):=O7 λ_ _ _ _ _ _ _ q=>ge_int q
theorem jl:iw X (compareOp .Is) (λx y H Q=>y=.non/\Q (.bl (decide (x=.non))) H):=by
 intro a s d H x y v u Q I b c h;let#[rfl,q]:=h
 cases c;show is_none_gen (b7 I q ?_)
 cases x<;>first
  |(cases b;rfl)
  |(let#[t,rfl]:=b;rfl)
theorem lK:iw X (compareOp .IsNot) (λx y H Q=>y=.non/\Q (.bl (not (decide (x=.non)))) H):=by
 intro a s d H x y v u Q I b c h;let#[rfl,q]:=h
 cases c;show isnot_none_gen (b7 I q ?_)
 cases x<;>first
  |(cases b;rfl)
  |(let#[t,rfl]:=b;rfl)
theorem aJ(b:Expr)(h:op≠.In:=by decide)(d:op≠.NotIn:=by decide):behindInMarks op b=false:=by
 have a:(op==CmpOp.In)=false:=by cases op<;>first|rfl|show absurd rfl h
 have c:(op==CmpOp.NotIn)=false:=by cases op<;>first|rfl|show absurd rfl d
 cases b<;>simp[behindInMarks,a,c]
theorem dH(j:iw X (compareOp op) r)(f:PE X a ta)(g:PE X b tb)(i:behindInMarks op b=false):PE X (.Compare a [op] [b] pos) (aL r ta tb):=by
 intro c s n H Q I h;show wpAny_Compare1 (Tj f g I h λv u m x y d e k l q=>j c m n d x y v u Q e k l q) i
abbrev aN(t:TE):TT:=λσ H Q=>t σ H λx H'=>∃k,x=.bl k/\Q k H'
theorem aF(t:iw X (compareOp op) r)(o:PE X a ta)(p:PE X b tb)(q:behindInMarks op b=false):PT X (.Compare a [op] [b] pos) (aN (aL r ta tb)):=by
 intro d s f H Q I h;show wpAny_isTrue_Compare1 (bA (o d s f H _ I h) λv F ⟨x,g,l,C,w⟩=>bA (p d F f g _ l w) λu G ⟨y,i,m,D,A⟩=>
  bA (t d G f i x y v u _ m C D A) λc J ⟨z,j,n,E,k,e,B⟩=>?_) q
 subst e
 cases E;show ē #[j,n,B]
def kI(r r':R2)(ta tb tc:TE):TE:=λσ H Q=>ta σ H λx H1=>tb σ H1 λy H2=>r x y H2 λz H3=>∃k,z=.bl k/\
 (if k=true then tc σ H3 λw' H4=>r' y w' H4 Q else Q (.bl false) H3)
theorem vB(F:iw X (compareOp op) r)(i:iw X (compareOp op') r')(B:PE X a ta)(C:PE X b tb)(D:PE X c tc)
  (E:lastMarks [op,op'] [b,c]=false:=by with_unfolding_all rfl):PE X (.Compare a [op,op'] [b,c] pos) (kI r r' ta tb tc):=by
 intro f s g H Q I h;show Compare_chain (bA (B f s g H _ I h) λv O ⟨x,o,t,L,G⟩=>chain_link (bA (C f O g o _ t G) λu P ⟨y,p,w,n,J⟩=>
  bA (F f P g p x y v u _ w L n J) λd R ⟨z,j,l,M,k,e,m⟩=>?_)) E
 subst e
 cases M;show ē ?_
 cases k with
 |false=>show ite_ff #[.bl false,j,l,rfl,m]
 |true=>show ite_tt (chain_last (bA (D f R g j _ l m) λT S ⟨U,q,A,N,K⟩=>i f S g q y U u T Q A n N K))
theorem vC(L:iw X (compareOp op) r)(i:iw X (compareOp op') r')(F:PE X a ta)(G:PE X b tb)(J:PE X c tc)
  (K:lastMarks [op,op'] [b,c]=false:=by with_unfolding_all rfl):PT X (.Compare a [op,op'] [b,c] pos) (aN (kI r r' ta tb tc)):=by
 intro f s g H Q I h;show isTrue_chain (bA (F f s g H _ I h) λv Y ⟨x,o,w,S,N⟩=>test_link (bA (G f Y g o _ w N) λu Z ⟨y,p,A,n,O⟩=>
  bA (L f Z g p x y v u _ A S n O) λd s3 ⟨z,j,l,T,k,e,m⟩=>?_)) K
 subst e
 cases T;show ē ?_
 cases k with
 |false=>
  let#[k',D,M]:=m
  cases D;show ite_ff #[j,l,M]
 |true=>
  show ite_tt (test_last (bA (J f s3 g j _ l m) λw' s4 ob=>?_));let#[z',q,B,U,P]:=ob;show bA (i f s4 g q y z' u w' _ B n U P) λd' s5 ob=>?_
  let#[z2,t,C,W,k2,E,R]:=ob;subst E
  cases W;show ē #[t,C,R]
def Fg(K:Ϗ)(x:V)(H:Hp)(k:ϑ):Prop:=
 match x with
 |.non=>k=false
 |.bl b=>k=b
 |.int i=>k=(i !=0)
 |.str y=>↑y<=sizeLine/\k=((↑y:Int)!=0)
 |.byt y=>y.size<=sizeLine/\k=((y.size:Int)!=0)
 |.ref p=>(∃xs,SqL K H p xs/\k=not xs.isEmpty)\/(∃xs,SqT K H p xs/\k=not xs.isEmpty)\/∃kvs,H p=!(.dK kvs)/\k=not kvs.isEmpty
 |_=>False
theorem xW{c:Type}{a:ϊ (c×V)}{b:ϊ (c×ϋ)}(r:KV a b):(not b.isEmpty)=not a.isEmpty:=by
 cases r<;>rfl
theorem pD{a:ϊ V}(r:Vals a its):(not its.toArray.isEmpty)=not a.isEmpty:=by
 cases r<;>simp
theorem mH:(sizeLine:Nat)<2^63:=by rw[ĉ];decide
theorem Tp:a0u X (λx H Q=>∃k,Fg X.K x H k/\Q k H):=by
 intro u s C H x v Q I g h;let#[k,e,q]:=h;have A:=mH;have B:sizeLine=16777216:=ĉ
 cases x with
 |non=>
  cases g;have a:k=false:=e;subst a;show truthy_none #[H,I,q]
 |bl b=>
  cases g;have a:k=b:=e;subst a;show ē #[H,I,q]
 |int i=>
  let#[t,rfl]:=g;have a:k=(i !=0):=e;subst a;show PySem.P.truthy_int #[H,I,q]
 |str y=>
  let#[t,rfl]:=g;let#[z,a]:↑y<=sizeLine/\k=((↑y:Int)!=0):=e;subst a;show PySem.P.truthy_str () #[H,I.tok _,q]
 |byt y=>
  let#[t,rfl]:=g;let#[z,a]:y.size<=sizeLine/\k=((y.size:Int)!=0):=e;subst a;show PySem.W.truthy_bytes () #[H,I.tok _,q]
 |ref p=>
  cases g;have a:(∃f,SqL X.K H p f/\k=not f.isEmpty)\/(∃f,SqT X.K H p f/\k=not f.isEmpty)\/∃c,H p=!(.dK c)/\k=not c.isEmpty:=e;rcases a with⟨f,hx,a⟩|⟨f,hx,a⟩|⟨c,hx,a⟩
  .subst a;let#[l,r,n,o]:=I.list hx;have d:=↑r;show wpAny_truthy_list n.isList (by simp-iota only[Ø];rfl') #[H,I.tok _,by rw[pD r];show q]
  .subst a;let#[l,r,n,o]:=I.tuple hx;have d:=↑r;show truthy_tuple n (by simp-iota only[Ø];rfl') #[H,I.tok _,by rw[pD r];show q]
  .subst a;let#[o,w,j,r,m]:↑c<=sizeLine/\(p==sysModules)=false/\∃j,KV c j/\s.heap.DictOf (bf X.prog X.w) p j:=I.hok p _ hx;have d:↑c=↑j:=Ď r;show wpAny_truthy_dict w m () #[H,I.tok _,by rw[xW r];show q]
 |_=>show(show False from e).elim
theorem Fi(f:PE X a ta)(g:∀b,isTrue a X.env b=(do let v<-b;standAt a.pos;holding [v] (truthy v))):
  PT X a (λσ H Q=>ta σ H λx H'=>∃k,Fg X.K x H' k/\Q k H'):=by
 intro c s σ H Q I h;show isTrue_plain (bA (f c s σ H _ I h) λv l ⟨x,d,e,j,i⟩=>Tp c l σ d x v Q e j i) (g _)
theorem gf:iw X (binaryOp .Add) (λx y H Q=>∃i j,x=.str i/\y=.str j/\↑i+↑j<=sizeLine/\Q (.str (i++j)) H):=by
 intro a s g H x y v u Q I c d h;let#[i,j,rfl,rfl,b,q]:=h;let#[t,rfl]:=c;let#[e,rfl]:=d;show add_str (λe f=>#[.str (i++j),H,I.tok _,#[_,rfl],q]) b
theorem vals1{x:V}(r:Vals [x] us):∃u,us=[u]/\RelV x u:=by
 cases r with
 |cons r1 r2=>cases r2;show#[_,rfl,r1]
theorem vals2{x:V}(r:Vals [x,y] us):∃u a,us=[u,a]/\RelV x u/\RelV y a:=by
 cases r with
 |cons r1 r2=>
  cases r2 with
  |cons r3 r4=>cases r4;show#[_,_,rfl,r1,r3]
theorem Cq(c:X.calm=true):bU X (.builtin "min") (λxs H Q=>∃i j,xs=[.int i,.int j]/\Q (.int (if j<i then j else i)) H):=by
 intro b s m H xs g Q I r h;let#[i,j,rfl,q]:=h;let#[u,l,rfl,#[t,rfl],#[e,rfl]]:=vals2 r;show min_two_ints (I.ok.hd c) λd f k=>#[_,H,I.kept k,?_,q]
 by_cases a:j<i
 .rw [if_pos a,if_pos a];show#[_,rfl]
 .rw [if_neg a,if_neg a];show#[_,rfl]
theorem Fj:bU X (.builtin "ord") (λxs H Q=>∃x,xs=[.str x]/\↑x=1/\Q (.int (x.cps.getD 0 0:Nat)) H):=by
 intro a s d H xs c Q I r h;let#[x,rfl,b,q]:=h;let#[u,rfl,t,rfl]:=vals1 r;show ord_of_one b #[.int _,H,I.tok _,#[_,rfl],q]
def XS(K:Ϗ)(x:V)(H:Hp)(n:Nat):Prop:=
 match x with
 |.str y=>↑y<=sizeLine/\n=↑y
 |.byt y=>y.size<=sizeLine/\n=y.size
 |.ref p=>(∃xs,SqL K H p xs/\n=↑xs)\/∃xs,SqT K H p xs/\n=↑xs
 |_=>False
theorem Fl:bU X (.builtin "len") (λxs H Q=>∃x n,xs=[x]/\XS X.K x H n/\Q (.int n) H):=by
 intro i s v H xs o Q I r h;let#[x,n,rfl,e,q]:=h;let#[u,rfl,g]:=vals1 r;have l:=mH;have m:sizeLine=16777216:=ĉ
 cases x with
 |str y=>
  let#[t,rfl]:=g;let#[j,b]:↑y<=sizeLine/\n=↑y:=e;subst b;show len_str () #[.int _,H,I.tok _,#[_,rfl],q]
 |byt y=>
  let#[t,rfl]:=g;let#[j,b]:y.size<=sizeLine/\n=y.size:=e;subst b;show PySem.W.len_bytes () #[.int _,H,I.tok _,#[_,rfl],q]
 |ref p=>
  cases g;have b:(∃xs,SqL X.K H p xs/\n=↑xs)\/∃xs,SqT X.K H p xs/\n=↑xs:=e;rcases b with⟨xs,hx,b⟩|⟨xs,hx,b⟩
  .subst b;let#[c,f,d,k]:=I.list hx;have a:=↑f;show Calls.call_len_list d.isList (by simp-iota only[Ø];rfl') #[.int ↑xs,H,I.tok _,#[_,by simp-iota only[Ø];rw[a]],q]
  .subst b;let#[c,f,d,k]:=I.tuple hx;have a:=↑f;show len_tuple d (by simp-iota only[Ø];rfl') #[.int ↑xs,H,I.tok _,#[_,by simp-iota only[Ø];rw[a]],q]
 |_=>show(show False from e).elim
end
structure ObjM(h:ϒ)(x dx C:ό)(mA:ϐ->ύ ϋ):Prop where
 obj:h.get? x=!(PySem.W.instObj C dx)
 ns:h.Ns1 dx mA
 ne:dx≠x
theorem Cr{h:ϒ}(n:h.Ns1 dx mA):∃od,h.get? dx=!od/\∀name,PySem.W.lookIn name od=!(mA name):=by
 let#[o,c,l,j,f,g,_,i]:=n;show#[o,j,λname=>?_];have e:=i name;unfold nsFind findBy at e;rw[<-Array.find?_toList]at e;unfold PySem.W.lookIn;rw[f];dsimp only;split
 .rename_i y q;rw[q]at e;show Ý some e
 .rename_i q;rw[q]at e;have a:c.toList.any (·.refKey)=false:=by
   rw[List.any_eq_false];intro y k;let#[z,t,b]:=g y (Array.mem_toList_iff.mp k);simp[DictEntry.refKey,b]
  have d:¬c.toList.any (·.refKey)=true:=by rw[a];show Ò
  rw[if_neg d];show Ý some e
def ObjM.look{x C:ό}(I:ObjM h x dx C mA):∃od,PySem.W.InstAt h x (PySem.W.instObj C dx) C !od/\∀name,PySem.W.lookIn name od=!(mA name):=
 let⟨od,ho,hl⟩:=Cr I.ns
 #[od,#[I.obj,rfl,rfl,ho],hl]
theorem RelO.some_of(r:RelO (!v) o):∃u,o=!u/\RelV v u:=by
 cases o with
 |none=>show(show False from r).elim
 |some u=>show#[u,rfl,r]
section
variable{P:ϓ}{w:ϕ}{H:Hp}{h:ϒ}{a C dx:ό}{fs:ϊ (ϐ×V)}
theorem O8(b:HOk P w H h)(e:H a=!(.ins C dx fs)):∃mA,ObjM h a dx C mA/\(∀f,RelO (fs.lookup f) (mA f))/\PySem.Within mA (fs.map (·.1))/\↑fs<=1000/\H dx=!(.own a):=by
 let#[d,z,c,ob,mA,n,r,q]:=(show ObjOk P w H h a (.ins C dx fs)from b a _ e);show#[mA,#[ob,n,c],r,q,z,d]
end
structure Cls(K:Ϗ)(C:ό):Prop where
 pg:PySem.W.plainGet K C Str.empty=true
 hd:PySem.W.hasDictIn K C=true
 po:PySem.W.plainOver K C=true
 sa:PySem.W.findIn K (.ref C) "__setattr__"=!(!(.builtin "object.__setattr__"))
def Cls.get{K:Ϗ}{C:ό}(c:Cls K C)(f:ϐ):PySem.W.plainGet K C f=true:=c.pg
section
variable{X:Cx}{pins:ϸ}{σ:St}{H:Hp}{s:ώ}{A:ϖ}{E:϶}{Q:϶}{c:ϋ}{b:ϑ}
inductive TyOf(K:Ϗ)(H:Hp):V->ϋ->Prop where
 |non:TyOf K H .non (.type "NoneType")
 |bl (x:ϑ):TyOf K H (.bl x) (.type "bool")
 |int (i:Int):TyOf K H (.int i) (.type "int")
 |str (x:ϐ):TyOf K H (.str x) (.type "str")
 |flt (x:UInt64):TyOf K H (.flt x) (.type "float")
 |lst {a:ό} {xs:ϊ V} (e:H a=!(.lst xs)):TyOf K H (.ref a) (.type "list")
 |frz {a:ό} {o:Obj} {xs:ϊ V} (e:H a=!(.frz o (.lst xs))):TyOf K H (.ref a) (.type "list")
 |tup {a:ό} {xs:ϊ V} (e:H a=!(.tup xs)):TyOf K H (.ref a) (.type "tuple")
 |dK {a:ό} {kvs:ϊ (Key×V)} (e:H a=!(.dK kvs)):TyOf K H (.ref a) (.type "dict")
 |dT {a:ό} {kvs:ϊ (ϊ Key×V)} (e:H a=!(.dT kvs)):TyOf K H (.ref a) (.type "dict")
 |ins {a C dx:ό} {fs:ϊ (ϐ×V)} (e:H a=!(.ins C dx fs)) (cl:Cls K C) (ha:PySem.W.findIn K (.ref C) "__class__"=!(!(.builtin "object.__class__")))
   (hn:PySem.W.specialIn K (.builtin "object.__class__") "__get__"=!(!(.builtin "getset_descriptor.__get__"))) (htk:PySem.W.takesIn K (.builtin "object.__class__")=!true)
   (hm:PySem.W.mroIn K C (.type "object")=!true):TyOf K H (.ref a) (.ref C)
theorem Cu{x:V}{t:ϋ}(I:Inv X pins σ H s)(d:RelV x u)(r:TyOf X.K H x t)(e:PySem.W.kitOne X.K t c=!b)(h:∀m,Q (.bool b) {s with toks:=m}):
  wpAny (model X.prog X.w) A (call (.builtin "isinstance") [u,c]) Q E s:=by
 cases r with
 |non=>cases(show u=Value.none from d);show Ė PySem.W.kitx_none I.kIn True.intro e (λz=>nomatch z) h
 |bl y=>cases(show u=Value.bool y from d);show Ė PySem.W.kitx_bool I.kIn True.intro e (λz=>nomatch z) h
 |int i=>let#[t,q]:=(show∃t,u=Value.int i t from d);cases q;show Ė PySem.W.kitx_int I.kIn True.intro e (λz=>nomatch z) h
 |str y=>let#[t,q]:=(show∃t,u=Value.str y t from d);cases q;show Ė PySem.W.kitx_str I.kIn True.intro e (λz=>nomatch z) h
 |flt y=>let#[t,q]:=(show∃t,u=Value.float y t from d);cases q;show Ė PySem.W.kitx_float I.kIn True.intro e (λz=>nomatch z) h
 |@lst a g ea=>
  cases(show u=Value.ref a from d);let#[_,_,n,_,f]:=(show ObjOk X.prog X.w H s.heap a (.lst g)from I.hok a _ ea);show Ė PySem.W.kitx_list I.kIn #[_,f,rfl] e (λz=>nomatch z) h
 |@frz a ob g ea=>
  cases(show u=Value.ref a from d);let#[_,_,_,n,_,f]:=(show ObjOk X.prog X.w H s.heap a (.frz ob (.lst g))from I.hok a _ ea);show Ė PySem.W.kitx_list I.kIn #[_,f,rfl] e (λz=>nomatch z) h
 |@tup a g ea=>
  cases(show u=Value.ref a from d);let#[_,_,_,p]:=(show ObjOk X.prog X.w H s.heap a (.tup g)from I.hok a _ ea);let#[o,f,j,_]:=p;show Ė PySem.W.kitx_tuple I.kIn #[o,f,j] e (λz=>nomatch z) h
 |@dK a kvs ea=>
  cases(show u=Value.ref a from d);let#[_,_,B,_,p]:=(show ObjOk X.prog X.w H s.heap a (.dK kvs)from I.hok a _ ea);let#[o,l,k,f,j,_]:=p;show Ė PySem.W.kitx_dict I.kIn #[o,f,j.1] e (λz=>nomatch z) h
 |@dT a kvs ea=>
  cases(show u=Value.ref a from d);let#[_,_,g,_,o,l,k,f,j,_]:=(show ObjOk X.prog X.w H s.heap a (.dT kvs)from I.hok a _ ea);show Ė PySem.W.kitx_dict I.kIn #[o,f,j.1] e (λz=>nomatch z) h
 |@ins a C dx fs ea cl ha hn htk hm=>
  cases(show u=Value.ref a from d);let#[v,O,_]:=O8 I.hok ea;let#[w,J,_]:=O.look;show Ė (PySem.W.kitx_own (cl.get _) cl.hd ha hn htk hm) I.kIn J e (λz=>nomatch z) h
end
structure Room(k:Nat)(A:ϖ):Prop where
 hd:A.handled=none
 dp:A.depth+3*k+5<recursionLimit
 un:A.units+16*k+200<cLine
theorem Room.mono(r:Room k A)(h:j<=k):Room j A:=#[r.hd,by have:=r.dp;rfl',by have:=r.un;rfl']
theorem Room.deeper(r:Room (k+1) A)(a:Env):Room k (A.deeper a):=
 #[r.hd,by have:=r.dp;change A.depth+1+3*k+5<_;rfl',by have:=r.un;change A.units+3+16*k+200<_;rfl']
theorem Room.depth(r:Room k A):A.depth<recursionLimit:=by have:=r.dp;rfl'
theorem Room.units(r:Room k A):A.units+64<cLine:=by have:=r.un;rfl'
def f9:TA:=λ_ H Q=>Q [] H
abbrev dY(ta:TE)(tr:TA):TA:=λσ H Q=>ta σ H λx H1=>tr σ H1 λxs H2=>Q (x::xs) H2
section
variable{X:Cx}{e:Expr}{es:ϊ Expr}{te:TE}{t:TA}{pos:Pos}
theorem cW:PA X [] f9:=λ_ _ _ _ H Q I h=>ř #[[],H,I,.nil,h]
theorem Ac(j:PE X e te)(k:PA X es t)(l:starEach (e::es) X.env=(false,eval e X.env)::starEach es X.env:=by rfl):PA X (e::es) (dY te t):=by
 intro b a s c H Q I h;rw[l];change wpAny _ _ (spliced ((false,eval e X.env)::backTo b (starEach es X.env))) _ _ s;show Ģ (bA (j a s c H _ I h) λu q ob=>?_);let#[x,d,g,o,m]:=ob;show bA (k b a q c d _ g m) λw v ob=>?_
 let#[r,f,i,p,n]:=ob;show#[x::r,f,i,.cons o p,n]
abbrev cU(t:TA):TE:=λσ H Q=>t σ H λxs H1=>↑xs<=sizeLine/\∀p,H1 p=none->Q (.ref p) (upd H1 p (.tup xs))
abbrev fC(t:TA):TE:=λσ H Q=>t σ H λxs H1=>↑xs<=sizeLine/\∀p,H1 p=none->Q (.ref p) (upd H1 p (.lst xs))
theorem b8{x1}(h:PA X es t):PE X (.Tuple es x1 pos) (cU t):=by
 intro a s l H Q I i;show wpAny_Tuple_spliced (bA (h pos a s l H _ I i) λj c ob=>?_);let#[k,d,f,r,z,q]:=ob;show#[by rw[<-↑r];show z,?_];have g:d c.heap.objs.size=none:=f.hok.fresh (Ä _);show#[.ref c.heap.objs.size,upd d c.heap.objs.size (.tup k),f.laid (t':=c.toks) (λb u e=>Ã _ e) (Ä _) ?_,rfl,q _ g];show#[z,j,r,#[_,Ë _ rfl,rfl,_,rfl]]
theorem bV(h:PA X es t):PE X (.List es pos) (fC t):=by
 intro a s l H Q I i;show wpAny_List_spliced (bA (h pos a s l H _ I i) λj c ob=>?_);let#[k,d,f,r,z,q]:=ob;show#[by rw[<-↑r];show z,?_];have g:d c.heap.objs.size=none:=f.hok.fresh (Ä _);show#[.ref c.heap.objs.size,upd d c.heap.objs.size (.lst k),f.laid (t':=c.toks) (λb u e=>Ã _ e) (Ä _) ?_,rfl,q _ g];show#[z,j,0,r,Ë _ rfl]
end
abbrev Sp:=ϊ V->Hp->VK->XK->Prop
abbrev NP:=ϊ Env->Hp->ώ->XK->ϋ->ώ->Prop
variable{CX:NP}
structure Env0(P:ϓ)(w:ϕ)(K:Ϗ)(mg:ϐ->ύ ϋ)(base:ϒ)(A:ϖ)(outer:ϊ Env)(s:ώ)(H:Hp):Prop where
 frames:A.frames=!outer
 mod:Mod K mg base
 bs:∀b o,base.get? b=!o->s.heap.get? b=!o/\H b=none
 bsz:base.objs.size<=s.heap.objs.size
 funs:s.heap.FunFrames base outer
 frf:∀b∈frs outer,H b=none
 hok:HOk P w H s.heap
 bare:AllBare s.gens
def CE(outer:ϊ Env)(P:ϓ)(w:ϕ)(H:Hp)(s:ώ)(Q:VK)(u:ϋ)(s':ώ):Prop:=
 ∃v H',s'.os=s.os/\AllBare s'.gens/\Un (frs outer) [] H H' s.heap s'.heap/\HOk P w H' s'.heap/\RelV v u/\Q v H'
def CR(CX:NP)(outer:ϊ Env)(P:ϓ)(w:ϕ)(H:Hp)(s:ώ)(Q:VK)(E:XK)(r:Result)(s':ώ):Prop:=
 match r with
 |.ok (.ret u)=>CE outer P w H s Q u s'
 |.ok _=>False
 |.error e=>CX outer H s E e s'
structure FnOk(P:ϓ)(w:ϕ)(K:Ϗ)(mg:ϐ->ύ ϋ)(base:ϒ)(CX:NP)(k:Nat)(f:ό)(fd:FuncData)(ps:ϊ ϐ)(sp:Sp):Prop where
 len:∀vs H Q E,sp vs H Q E->↑vs=↑ps
 run:∀(A:ϖ)(outer:ϊ Env)(s:ώ)(H:Hp)(args:Args)(us:ϊ ϋ)(vs:ϊ V)(Q:VK)(E:XK),Room k A->Env0 P w K mg base A outer s H->BindsTo s fd args (ps.zip us)->Vals vs us->sp vs H Q E->
  codeAny (model P w) A (.call (.ref f) args) (CR CX outer P w H s Q E) s
section
variable{X:Cx}
def Inv.env0(I:Inv X pins σ H s):Env0 X.prog X.w X.K X.mg X.base X.A X.stack s H:=
 #[I.ok.frames,I.ok.mod,I.bs,Î I.ok.bsz I.sz,I.stack,I.stkFree,I.hok,I.bare]
theorem Inv.after{Q:VK}(I:Inv X pins σ H s)(h:CE X.stack X.prog X.w H s Q u s'):EP X pins σ Q u s':=by
 let#[v,f,j,a,k,c,r,q]:=h;let#[i,g,d,t,e]:=s';obtain rfl:e=s.os:=j;show#[v,f,I.call (h':=i) (g':=g) (d':=d) (t':=t) (ch:=[]) k c a (λb z=>absurd z (by simp)),r,q]
end
def pF(sp:Sp)(dvs:ϊ V)(E:XK)(t:TA):TE:=λσ H Q=>t σ H λvs H1=>sp (vs++dvs) H1 Q E
def Binds(K:Ϗ)(fd:FuncData)(ps:ϊ ϐ)(ds:ϊ ϋ):Prop:=
 ∀(s:ώ)(us:ϊ ϋ),K.In s.heap->↑(us++ds)=↑ps->BindsTo s fd #[us,[]] (ps.zip (us++ds))
theorem Binds.all{K:Ϗ}{a:ϊ ϐ}(h:∀us:ϊ ϋ,↑us=↑a->bindArgs fd #[us,[]]=pure (a.zip us)):Binds K fd a []:=λs us _ b=>by
 rw[ô]at b⊢;show .of_eq (h us b)
def tV(CX:NP)(X:Cx)(E:XK):Prop:=∀(pins:ϸ)(σ:St)(H:Hp)(s:ώ)(e:ϋ)(s':ώ),Inv X pins σ H s->CX X.stack H s E e s'->X.xe e s'
section
variable{X:Cx}{CX:NP}{k:Nat}{f C:ό}{fd:FuncData}{ps:ϊ ϐ}{sp:Sp}{dvs:ϊ V}{ds:ϊ ϋ}{E:XK}{x m:ϐ}{p pos apos:Pos}{e o:Expr}{es:ϊ Expr}{ta:TE}{t:TA}
theorem Fp{s:ώ}{Q:VK}{b:ϊ V}(F:FnOk X.prog X.w X.K X.mg X.base CX k f fd ps sp)(j:Room k X.A)(d:Binds X.K fd ps ds)(g:Vals dvs ds)(l:tV CX X E)
  (I:Inv X pins σ H s) (r:Vals b us) (h:sp (b++dvs) H Q E):wpAny (model X.prog X.w) X.A (call (.ref f) us) (EP X pins σ Q) X.xe s:=by
 have c:Vals (b++dvs) (us++ds):=r.append g;have i:↑(us++ds)=↑ps:=by rw[<-↑c];show F.len _ _ _ _ h
 show wpAny_call (codeAny_mono (F.run X.A X.stack s H #[us,[]] (us++ds) (b++dvs) Q E j I.env0 (d s us I.kIn i) c h) λr m a=>?_)
 cases r with
 |error e=>show l pins σ H s e m I a
 |ok fl=>
  cases fl with
  |ret u=>show I.after a
  |next=>show False.elim a
  |brk=>show False.elim a
  |cont=>show False.elim a
theorem O9(F:FnOk X.prog X.w X.K X.mg X.base CX k f fd ps sp)(u:Room k X.A)(m:Gl X x)(o:X.mg x=!(.ref f))(n:W.keepIn X.K (.ref f)=true)(i:Binds X.K fd ps ds)(j:Vals dvs ds)(v:tV CX X E)
  (g:PA X (e::es) t) (b:(x==("__debug__":ϐ))=false:=by decide) (l:starEach (e::es) X.env=(false,eval e X.env)::starEach es X.env:=by rfl) (c:(backTo pos (starEach es X.env)).any (·.1)=false:=by rfl):
  PE X (.Call (.Name x p) (e::es) [] pos) (pF sp dvs E t):=by
 intro a s w H Q I h;show ū (tU I m o ?_ b);show PySem.W.callWith_K (h₀:=X.base) I.ok.mod.kin n (bA (g pos a s w H _ I h) λA z ⟨B,y,d,r,q⟩=>#[d.kIn,?_]) l c;show Fp F u i j v d r q
theorem Ft(F:FnOk X.prog X.w X.K X.mg X.base CX k f fd ps sp)(j:Room k X.A)(e:Gl X x)(i:X.mg x=!(.ref f))(g:W.keepIn X.K (.ref f)=true)(c:Binds X.K fd ps ds)(d:Vals dvs ds)(l:tV CX X E)
  (a:(x==("__debug__":ϐ))=false:=by decide):PE X (.Call (.Name x p) [] [] pos) (pF sp dvs E f9):=by
 intro b s m H Q I h;show ū (tU I e i ?_ a);show PySem.W.callWith_K0 I.kIn g (Fp (us:=[]) F j c d l I .nil h)
end
structure FnScope(N P:ϊ ϐ)(sc:Scope):Prop where
 kind:sc.kind=.function
 co:sc.isCoroutine=false
 gen:sc.isGenerator=false
 nd:N.Nodup
 pre:N.take ↑P=P
 par:∀x∈P,sc.names.lookup x=!.local\/sc.names.lookup x=!.cell
 nofree:∀y∈sc.names,y.2≠.free
theorem rM{b:ϐ->ύ NameKind}{x:ϐ}:∀{a:ϊ (ϐ×ϋ)}{m:ϐ->ύ ϋ},(∀v,(x,v)∉a)->bindL b a m x=m x
 |[],_,_=>rfl
 |(n,v)::r,m,h=>by
  unfold bindL;rw[rM λw c=>h w (Ì _ c)];split
  .have:x≠n:=by rintro rfl;show h v É
   simp[this]
  .rfl
theorem rN{b:ϐ->ύ NameKind}{x:ϐ}:∀{a:ϊ (ϐ×ϋ)}{m:ϐ->ύ ϋ},(∀v,(x,v)∉a)->bindC b a m x=m x
 |[],_,_=>rfl
 |(n,v)::r,m,h=>by
  unfold bindC;rw[rN λw c=>h w (Ì _ c)];split
  .rfl
  .have:x≠n:=by rintro rfl;show h v É
   simp[this]
theorem rO{a:ϐ->ύ NameKind}{x:ϐ}{v:ϋ}:∀{P:ϊ ϐ}{vs:ϊ ϋ}{i:Nat}{m:ϐ->ύ ϋ},P.Nodup->P[i]?=!x->vs[i]?=!v->a x=!.local->
  bindL a (P.zip vs) m x=!v
 |[],_,_,_,_,h,_,_=>by simp at h
 |_::_,[],_,_,_,_,h,_=>by simp at h
 |p::P,w::vs,0,m,nd,h1,h2,hk=>by
  simp at h1 h2;subst h1;subst h2;change bindL a ((p,w)::P.zip vs) m p=_;unfold bindL;rw[rM λv b=>(é.mp nd).1 (List.of_mem_zip b).1,if_pos hk];simp
 |p::P,w::vs,i+1,m,nd,h1,h2,hk=>by
  change bindL a ((p,w)::P.zip vs) m x=_;unfold bindL;show rO (i:=i) (é.mp nd).2 (by simpa using h1) (by simpa using h2) hk
theorem rP{a:ϐ->ύ NameKind}{x:ϐ}{v:ϋ}:∀{P:ϊ ϐ}{vs:ϊ ϋ}{i:Nat}{m:ϐ->ύ ϋ},P.Nodup->P[i]?=!x->vs[i]?=!v->a x≠!.local->
  bindC a (P.zip vs) m x=!v
 |[],_,_,_,_,h,_,_=>by simp at h
 |_::_,[],_,_,_,_,h,_=>by simp at h
 |p::P,w::vs,0,m,nd,h1,h2,hk=>by
  simp at h1 h2;subst h1;subst h2;change bindC a ((p,w)::P.zip vs) m p=_;unfold bindC;rw[rN λv b=>(é.mp nd).1 (List.of_mem_zip b).1,if_neg hk];simp
 |p::P,w::vs,i+1,m,nd,h1,h2,hk=>by
  change bindC a ((p,w)::P.zip vs) m x=_;unfold bindC;show rP (i:=i) (é.mp nd).2 (by simpa using h1) (by simpa using h2) hk
def start(N:ϊ ϐ)(vs:ϊ V):St:=vs.map some++List.replicate (↑N-↑vs) none
def Cv(CX:NP)(P:ϓ)(w:ϕ)(K:Ϗ)(mg:ϐ->ύ ϋ)(base:ϒ)(N:ϊ ϐ)(qual:ϐ)(scope:Scope)(f:ό)(cd:ϋ)(A:ϖ)(outer:ϊ Env)(s:ώ)(H:Hp)(E:XK):Cx where
 prog:=P
 w:=w
 K:=K
 mg:=mg
 base:=base
 A:=A.deeper (envOfC qual scope s.heap.objs.size f cd)
 N:=N
 s₀:=s
 H₀:=H
 env:=envOfC qual scope s.heap.objs.size f cd
 outer:=outer
 stack:=envOfC qual scope s.heap.objs.size f cd::outer
 ex:=[]
 calm:=true
 fn:=λ_=>true
 pn:=[]
 xe:=λe s'=>wpAny (model P w) (A.deeper (envOfC qual scope s.heap.objs.size f cd)) (leaving (envOfC qual scope s.heap.objs.size f cd) e) (λ_ s''=>CX outer H s E e s'') (λe' s''=>CX outer H s E e' s'') s'
theorem vD(h:sc.names.lookup x=!.cell):∃c,(cellsFrom n sc.names []).lookup x=!c:=by
 have q:=PySem.W.cellsFrom_some sc.names n [] (.inl h);show Option.isSome_iff_exists.mp q
theorem Cw{P:ϓ}{K:Ϗ}{g:ϒ}{N m:ϊ ϐ}{f:ό}{s:ώ}{E:XK}{o:ϊ V}
  (S:FnScope N m scope) (J:A.handled=none) (j:Env0 P w K mg g A outer s H) (Q:↑o=↑m) (r:Vals o us)
  (x:InCallC s s.heap.objs.size (bindL (envOfC qual scope s.heap.objs.size f cd).kindOf (m.zip us) λ_=>none) (cellsFrom (s.heap.objs.size+1) scope.names []) (bindC (envOfC qual scope s.heap.objs.size f cd).kindOf (m.zip us) λ_=>none) s1):
  Inv (Cv CX P w K mg g N qual scope f cd A outer s H E) [] (start N o) H s1:=by
 have L:↑m<=↑N:=by have:=Ý List.length S.pre;rw[Ô]at this;rfl'
 let#[C,R,rfl,F]:=x.done;have l:∀b:ό,b∉(Cv CX P w K mg g N qual scope f cd A outer s H E).ex:=λb z=>absurd (show b∈([]:ϊ ό)from z) (by simp)
 show⟨⟨j.mod,S.kind,rfl,rfl,Ä _,λy z c C d=>?_,λy hy=>?_,λy c _ h=>?_,λ_=>J,Around.frames_deeper j.frames,.inr ⟨rfl,rfl⟩,λb z=>absurd z (l b),j.bs,j.bsz,λb _ _=>l b,λb z=>absurd z (l b),j.funs,j.frf⟩,
  rfl,j.bare,Un.kept F,⟨_,x.toInCall.ns,λi y v C d O=>?_⟩,λy c h=>⟨_,x.cell y c h⟩,j.hok.fresh (Ä _),λy c h=>?_,λp t=>absurd (show p∈([]:ϸ)from t) (by simp),j.hok.kept F,?_⟩
 .show name_of_addr x.apart (Ţ C) (Ţ d)
 .have hy:scope.names.lookup y=!.cell\/scope.names.lookup y=!.free:=hy;rcases hy with hy|hy
  .show vD hy
  .show absurd rfl (S.nofree _ (Ţ hy))
 .show ï (x.above y c (Ţ h))
 .have D:i<↑o:=by
   unfold start at d;by_cases D:i<↑o
   .show D
   .rw [å (by simpa using D)]at d;rw[List.getElem?_replicate]at d;split at d<;>cases d
  have I:o[i]?=!v:=by
   unfold start at d;rw[ê (by simpa using D),Jn]at d
   cases e:o[i]?with
   |none=>rw[e]at d;cases d
   |some a=>rw[e]at d;cases d;rfl
  let#[u,G,M]:=r.get I;have t:m[i]?=!y:=by
   rw[<-S.pre,List.getElem?_take_of_lt ()];show C
  have B:m.Nodup:=by rw[<-S.pre];show S.nd.sublist (ī _ _)
  show#[u,M,?_];rcases S.par y (Yf t)with k|k
  .show .inl #[k,rO B t G k]
  .obtain ⟨c,e⟩:=vD (n:=s.heap.objs.size+1) k;show .inr #[.inl k,c,e,?_];have q:=x.cell y c e;rw[rP B t G (by change scope.names.lookup y≠_;rw[k];decide)]at q;show q
 .show j.hok.fresh (ï (x.above y c (Ţ h)))
 .unfold start;change _=↑N;rw[Â,Qb,ç];rfl'
theorem XX{P:ϓ}{K:Ϗ}{c:ϒ}{f:ό}{g:ϐ}{U kV l X a T oc:ϋ}{od:ύ ό}
  {N B:ϊ ϐ} {M:Sp} (lk:K.lookup f=!#[oc,od,.func (W.fnOf g qual params body scope U kV l X an a T),osl]) (C:W.codeIn K a qual=true) (S:FnScope N B scope)
  (z:∀vs H Q E,M vs H Q E->↑vs=↑B)
  (h:∀(A:ϖ)(outer:ϊ Env)(s:ώ)(H:Hp)(vs:ϊ V)(Q:VK)(E:XK),Room k (A.deeper (envOfC qual scope s.heap.objs.size f a))->M vs H Q E->
   ∃t,PSs (Cv CX P w K mg c N qual scope f a A outer s H E) body t/\t {nx:=λ_ H'=>Q .non H',rt:=Q} (start N vs) H):
  FnOk P w K mg c CX (k+1) f (W.fnOf g qual params body scope U kV l X an a T) B M:=by
 show#[z,λA outer s H R us vs Q E D m hb r p=>?_];have hl:=z _ _ _ _ p;have O:K.In s.heap:=m.mod.kin.keeps λb o e=>(m.bs b o e).1
 have F:s.heap.NoLimit:=m.mod.nolimit.keeps λb o e=>(m.bs b o e).1
 have i:∀y∈B.zip us,scope.names.lookup y.1=!.local\/(scope.names.lookup y.1=!.cell/\((cellsFrom (s.heap.objs.size+1) scope.names []).lookup y.1).isSome=true):=λ⟨n,v⟩ hy=>by
  rcases S.par n (List.of_mem_zip hy).1with q|q
  .show .inl q
  .show .inr #[q,PySem.W.cellsFrom_some _ _ _ (.inl q)]
 show codeAny_call_function D.depth (O _ _ lk) rfl S.co S.gen rfl (PySem.W.codeRec_of O C) (hb _ _ _ _ ?_);show wpAny_newFunctionEnv_cells S.kind i λZ he Y x=>?_
 subst he;show#[F.keeps x.toInCall.keep,codeAny_func ?_];let#[t,ht,hq]:=h A outer s H vs Q E (D.deeper _) p;have I:Inv (Cv CX P w K mg c N qual scope f a A outer s H E) [] (start N vs) H Y:=Cw S D.hd m hl r x;show đ (ht [] Y (start N vs) H _ I hq) (λfl L j=>?_) λe L j=>j
 have fin:∀{d:St}{H':Hp}{v:V}{u:ϋ},Inv (Cv CX P w K mg c N qual scope f a A outer s H E) [] d H' L->RelV v u->Q v H'->CE outer P w H s Q u L:=
  λ{d H' v u} J G q=>#[v,H',J.os,J.bare,J.base,J.hok,G,q]
 cases fl with
 |ret u=>
  let#[v,d,H',J,G,q]:=j;show fin J G q
 |next=>
  let#[d,H',J,q]:=j;show fin (v:=V.non) (u:=Value.none) J rfl q
 |brk=>
  let#[_,_,_,q]:=j;show False.elim q
 |cont=>
  let#[_,_,_,q]:=j;show False.elim q
section
variable{X:Cx}{x:ϐ}{p pos:Pos}{e:Expr}{es:ϊ Expr}{t:TA}{id T:String}{r:ϊ V->Hp->VK->Prop}
abbrev gW(r:ϊ V->Hp->VK->Prop)(t:TA):TE:=λσ H Q=>t σ H λvs H1=>r vs H1 Q
theorem Fv(j:bU X (.builtin id) r)(l:Gl X x)(m:X.mg x=none)(o:bootBuiltins x=!(.builtin id))(i:PA X (e::es) t)(n:x≠"__name__":=by decide)(b:(x==("__debug__":ϐ))=false:=by decide)
  (k:starEach (e::es) X.env=(false,eval e X.env)::starEach es X.env:=by rfl) (c:(backTo pos (starEach es X.env)).any (·.1)=false:=by rfl):PE X (.Call (.Name x p) (e::es) [] pos) (gW r t):=by
 intro a s d H Q I h;show ū (gO I l m o ?_ n b);show PyProof.Rows.callWith_builtin1 (bA (i pos a s d H _ I h) λw v ⟨y,f,g,u,q⟩=>j a v d f y w Q g u q) k c
theorem bh(j:bU X (.type T) r)(l:Gl X x)(m:X.mg x=none)(o:bootBuiltins x=!(.type T))(i:PA X (e::es) t)(n:x≠"__name__":=by decide)(b:(x==("__debug__":ϐ))=false:=by decide)
  (k:starEach (e::es) X.env=(false,eval e X.env)::starEach es X.env:=by rfl) (c:(backTo pos (starEach es X.env)).any (·.1)=false:=by rfl):PE X (.Call (.Name x p) (e::es) [] pos) (gW r t):=by
 intro a s d H Q I h;show ū (gO I l m o ?_ n b);show Ą (bA (i pos a s d H _ I h) λw v ⟨y,f,g,u,q⟩=>j a v d f y w Q g u q) k c
end
end L2
namespace HT
open PySem PyProof.Rows
def lexLt:ϊ Int->ϊ Int->ϑ
 |[],[]=>false
 |[],_::_=>true
 |_::_,[]=>false
 |x::xs,y::ys=>if x=y then lexLt xs ys else decide (x<y)
def iH(x y:Int)(a b:ϊ Int):lexLt (x::a) (y::b)=if x=y then lexLt a b else decide (x<y):=rfl
def qX:lexLt [] []=false:=rfl
def pG(y:Int)(a:ϊ Int):lexLt [] (y::a)=true:=rfl
def pH(x:Int)(a:ϊ Int):lexLt (x::a) []=false:=rfl
def Fw(A:ϖ)(s:ώ)(a:Int)(t:Tok)(c:Int)(u:Tok):∃e,SeqAt.EqAt A s (.int a t) (.int c u) e/\(e=true↔a=c):=
 #[(a==c),SeqAt.EqAt.int_int a t c u,by simp]
def Fx(A:ϖ)(s:ώ)(a:Int)(t:Tok)(c:Int)(u:Tok)(b:ϓ)(w:ϕ)(E:϶)(Q:϶)(h:Q (.bool (decide (a<c))) s):
  wpAny (model b w) A (richCompare .Lt (.int a t) (.int c u)) Q E s:=
 (PyProof.Rows.lt_int h:wpAny (model b w) A (compareOp .Lt (.int a t) (.int c u)) Q E s)
section
open PySem.SeqAt
open PySem.AutoSeq1 (wpAny_loadPart')
open PySem.MeetsSeq PySem.MeetsSeq2 PySem.MeetsSeq3
def qY(l b:ό)(i f:ϔ ϋ)(n X:Nat)(S K:ύ ό)(Y N:ϔ (ύ ϋ))(F E:ϊ Int)(O:IntsAre i.toList F)(P:IntsAre f.toList E):
  Meets (Builtin.«tuple.__lt__» #[[.ref l,.ref b],[]])
   (λ_ R s=>s.heap.get? l=!{cls:=.type "tuple",dict:=S,data:=.seq i n,slots:=Y}/\s.heap.get? b=!{cls:=.type "tuple",dict:=K,data:=.seq f X,slots:=N}/\
    R (.ok (.ret (.bool (lexLt F E)))) s):=
 .of_wp λz w A R s h=>by
  let#[D,g,d,H,G]:=s;let#[W,T,h]:=h;have f2:=AutoSeq1.sub_tuple_tuple;have z1:i.size=↑F:=by rw[<-↑O];simp
  have z2:f.size=↑E:=by rw[<-↑P];simp
  wp_walk using wpAny_loadPart' W,wpAny_loadPart' T,wpAny_forIn_list _ (λrest b M=>b.1=none/\M=#[D,g,d,H,G]/\∃(I J:ϊ ϋ)(m k:ϊ Int),rest=I.zip J/\
   IntsAre I m/\IntsAre J k/\↑m+f.size=↑k+i.size/\R (.ok (.ret (.bool (lexLt m k)))) #[D,g,d,H,G]) _
  case turn=>
   rintro⟨y,x⟩ rest b M ⟨B,rfl,I,J,m,k,p,C,o,j,r⟩
   cases C with
   |nil=>rw[List.zip_nil_left]at p;cases p
   |cons a t hvi'=>
    cases o with
    |nil=>rw[List.zip_nil_right]at p;cases p
    |cons c u hwi'=>
     rw[Κ]at p;injection p with hyx hrest
     injection hyx with hy hx
     subst hy hx;rw[iH]at r;simp-iota only[í]at j;let#[e,U,v]:=Fw A.in1 #[D,g,d,H,G] a t c u;show Zp (U z w _ _ ?_)
     cases e with
     |true=>
      rw[if_pos (v.mp rfl)]at r
      wp_walk
      show#[rfl,rfl,_,_,_,_,hrest,hvi',hwi',(),r]
     |false=>
      rw[if_neg (λq=>absurd (v.mpr q) Ò)]at r;have L:=Fx A.in1 #[D,g,d,H,G] a t c u z w
      wp_walk using L
      show#[_,rfl,by simpa using r]
  case fin=>
   rintro⟨Z,b2⟩ M ⟨B,rfl,I,J,m,k,p,C,o,j,r⟩;simp only at B;subst B;have Q:lexLt m k=decide (i.size<f.size):=by
    cases C with
    |nil=>
     cases o with
     |nil=>
      simp-iota only[ű]at j;rw[qX];show(Ü ()).symm
     |cons c u hw=>
      simp-iota only[ű,í]at j;rw[pG];show(Ù ()).symm
    |cons a t Q=>
     cases o with
     |nil=>
      simp-iota only[ű,í]at j;rw[pH];show(Ü ()).symm
     |cons c u hw=>
      rw[Κ]at p
      cases p
   rw[Q]at r
   wp_walk
   show#[_,rfl,by simpa[Builtin.Tuple.tupleCompareSizes]using r]
  case h=>
   show#[rfl,rfl,i.toList,f.toList,F,E,rfl,O,P,(),h]
end
section
def xX(z:IsTup s.heap l items)(u:IsTup s.heap b a)(v:IntsAre items.toList f)(y:IntsAre a.toList ms)
  (B:A.units<cLine) (h:Q (.bool (lexLt f ms)) s):wpAny (model prog w) A (compareOp .Lt (.ref l) (.ref b)) Q E s:=by
 let#[#[r,t,m,D],q,o,n,p]:=id z;let#[#[k,i,g,j],e,c,C,d]:=id u;simp only at o p c d;subst o p c d;show richCompare_meets_room (op:=.Lt) #[_,q,rfl] #[_,e,rfl] υ PySem.F.entry_tuple_lt (PySem.F.args_tuple_lt_2 _ _) (qY l b items a n C t i D j f ms v y)
  #[q,e,show Value.bool (lexLt f ms)≠Value.notImplemented/\Q (.bool (lexLt f ms)) s from#[(λx=>nomatch x),h]] B
def dX(n d:Nat):ύ Int->Nat
 |none=>d
 |some v=>if v<0 then(v+(n:Int)).toNat else min v.toNat n
def Tr(n d:Nat)(b:d<=n)(o:ύ Int):dX n d o<=n:=by
 cases o with
 |none=>show b
 |some v=>
  change(if v<0 then(v+(n:Int)).toNat else min v.toNat n)<=n;by_cases a:v<0
  .rw [if_pos a];rfl'
  .rw [if_neg a];show Nat.min_le_right _ _
def Ad(v:Int)(n d:Nat):(if v<0 then max (v+(n:Int)) 0 else min v (n:Int))=((dX n d !v:Nat):Int):=by
 change(if v<0 then max (v+(n:Int)) 0 else min v (n:Int))=(((if v<0 then(v+(n:Int)).toNat else min v.toNat n):Nat):Int);by_cases a:v<0
 .simp-iota only[if_pos a];rfl'
 .simp-iota only[if_neg a];rfl'
def xY(lo a:ύ Int)(n:Nat):Builtin.Slice.sliceAdjust lo a 1 (n:Int)=(((dX n 0 lo:Nat):Int),((dX n n a:Nat):Int)):=by
 have b:¬((1:Int)<0):=()
 unfold Builtin.Slice.sliceAdjust;simp-iota only[b,Ć];show Prod.ext ?_ ?_
 .cases lo with
  |none=>rfl
  |some v=>show Ad v n 0
 .cases a with
  |none=>rfl
  |some v=>show Ad v n n
def xZ(i j:Nat):Builtin.Slice.slicePlaces (i:Int) (j:Int) 1=j-i:=by
 unfold Builtin.Slice.slicePlaces;have a:(1:Int)>0:=()
 simp-iota only[a,ľ,Int.ediv_one];split<;>rfl'
def pI{Q:ύ Int->ώ->Prop}(p:IsPart v o)(h:Q o s):wpAny (model prog w) A (Builtin.Slice.slicePartIndex v) Q E s:=by
 cases p with
 |none=>show slicePart_none h
 |int i t=>show slicePart_int h
def gZ{lo:ύ Int}{n:Nat}{Q:Int×Int×Nat->ώ->Prop}(d:s.heap.IsSliceOf sl vl vu .none)(e:IsPart vl lo)(f:IsPart vu hi)
  (h:Q (((dX n 0 lo:Nat):Int),1,dX n n hi-dX n 0 lo) s):wpAny (model prog w) A (Builtin.Slice.sliceApplied (.ref sl) (pure (n:Int))) Q E s:=by
 let#[g,b,c,a]:=id d;unfold Builtin.Slice.sliceApplied Builtin.Slice.sliceFields;show Zp (Zp (Ĝ b a (x:=vl) rfl (Zp (Ĝ b a (x:=vu) rfl (Zp (Ĝ b a (x:=.none) rfl (Á ?_)))))));show Zp (slicePart_none ?_);change wpAny _ _ (if((1:Int)==0)=true then _ else _) _ _ s;rw[if_neg (by decide)];show Zp (pI e (Zp (pI f (Zp (Á ?_)))));change wpAny _ _ (match Builtin.Slice.sliceAdjust lo hi 1 (n:Int)with|(lo,hi)=>pure (lo,(1:Int),Builtin.Slice.slicePlaces lo hi 1)) _ _ s;rw[xY lo hi n];change wpAny _ _ (pure (((dX n 0 lo:Nat):Int),(1:Int),Builtin.Slice.slicePlaces ((dX n 0 lo:Nat):Int) ((dX n n hi:Nat):Int) 1)) _ _ s;rw[xZ];show Á h
def Fy(a:ϔ ϋ)(i k:Nat):((List.range k).filterMap λ(m:Nat)=>a[((i:Int)+(m:Int)*1).toNat]?).toArray=((a.toList.drop i).take k).toArray:=by
 have e:(λ(m:Nat)=>a[((i:Int)+(m:Int)*1).toNat]?)=λm=>a[i+m]?:=by
  funext m;have:((i:Int)+(m:Int)*1).toNat=i+m:=()
  rw[this]
 rw[e];have:=pick_run a i k;rw[List.filterMap_map]at this;have b:((λx=>a[x]?)∘λx=>i+x)=λm=>a[i+m]?:=rfl
 rw[b]at this;rw[this]
def lM{t:ό}{lo:ύ Int}(b:IsTup s.heap t items)(g:s.heap.IsSliceOf sl vl vu .none)(n:IsPart vl lo)(o:IsPart vu hi)
  (k:¬(dX items.size 0 lo=0/\dX items.size items.size hi=items.size))
  (h:Q (.ref s.heap.objs.size) {s with heap:=s.heap.push {cls:=.type "tuple",data:=.seq ((items.toList.drop (dX items.size 0 lo)).take (dX items.size items.size hi-dX items.size 0 lo)).toArray}})
  (j:items.size<=sizeLine):wpAny (model prog w) A (getItem (.ref t) (.ref sl)) Q E s:=by
 have a:sizeOk (.seq ((items.toList.drop (dX items.size 0 lo)).take (dX items.size items.size hi-dX items.size 0 lo)).toArray):=by
  change((items.toList.drop (dX items.size 0 lo)).take (dX items.size items.size hi-dX items.size 0 lo)).toArray.size<=sizeLine;rw[Ø,Ô,î,ø];rfl'
 have p:dX items.size items.size hi<=items.size:=Tr _ _ (Ä _) hi;let#[l,f,d,i]:=id g;have c:s.TypeIs (.ref sl) "slice":=#[l,f,d];unfold getItem;try with_reducible show ÿ ?_
 first|show Zp (Á ?_)|skip
 show Zp (wpAny_sequenceKey b.typeIs (by decide) ?_);show Zp (wpAny_callSpecial?_slot (name:=Str.ofString "__getitem__") b.typeIs İ
  (ò İ b.typeIs entry_tuple_getitem ?_ (args_tuple_getitem _ _)))
 change wpAny _ _ (Builtin.Tuple.tupleItemsOf (.ref t)>>=_) _ _ s;show Zp (tupleItemsOf_ b ?_);show Zp (wpAny_typeOf c ?_);rw[if_pos (by decide)];show Zp (gZ g n o ?_);have e:¬((((dX items.size 0 lo:Nat):Int)==0&&(1:Int)==1&&(dX items.size items.size hi-dX items.size 0 lo)==items.size)=true):=by
  intro q;rw[Ă,Ă]at q;have r:((dX items.size 0 lo:Nat):Int)=0:=Ξ q.1.1;have u:dX items.size items.size hi-dX items.size 0 lo=items.size:=Ξ q.2;show k #[(),()]
 change wpAny _ _ (if(((dX items.size 0 lo:Nat):Int)==0&&(1:Int)==1&&(dX items.size items.size hi-dX items.size 0 lo)==items.size)=true then _ else _) _ _ s;rw[if_neg e,Fy]
 first
  |show Zp (m:=Builtin.Tuple.tupleExact _) (ù (Á #[_,rfl,Á h]) a)
  |show Zp (m:=Builtin.Tuple.tupleExact _) (ù (Zp (Á (Á #[_,rfl,Á h]))) a)
  |show Zp (Zp (m:=Builtin.Tuple.tupleExact _) (ù (Á (Á #[_,rfl,Á h])) a))
  |show Zp (Zp (m:=Builtin.Tuple.tupleExact _) (ù (Á #[_,rfl,Á h]) a))
end
end HT
namespace L2
open PySem PySem.Spec PyProof.Rows
variable{H:Hp}{σ:St}{i:Int}{x y:V}{p:ό}{A:ϖ}{T:String}{u v:ϋ}{j n t':Nat}{pins:ϸ}{its:ϊ ϋ}{f:ϔ ϋ->ϔ ϋ}{r:V->ύ Int->ύ Int->Hp->VK->Prop}
abbrev TO:=St->Hp->(ύ Int->Hp->Prop)->Prop
def PO(X:Cx)(e:ύ Expr)(t:TO):Prop:=
 ∀(pins:ϸ)(s:ώ)(σ:St)(H:Hp)(Q:ύ Int->Hp->Prop),Inv X pins σ H s->t σ H Q->
  wpAny (model X.prog X.w) X.A (evalPart e X.env) (λu s'=>∃o H',Inv X pins σ H' s'/\IsPart u o/\Q o H') X.xe s
abbrev iI:TO:=λ_ H Q=>Q none H
abbrev gh(t:TE):TO:=λσ H Q=>t σ H λx H1=>∃i,x=.int i/\Q (!i) H1
theorem intsAre_of:∀{us:ϊ ϋ},Vals (a.map V.int) us->IntsAre us a:=by
 induction a with
 |nil=>intro us r;rw[Ĕ]at r;cases r;show .nil
 |cons n a ih=>
  intro us r;rw[È]at r
  cases r with
  |cons r1 r2=>
   let#[t,e]:=r1;subst e;show .cons n t (ih r2)
section
variable{X:Cx}{e:Expr}{te:TE}{lo hi:ύ Expr}{tl th:TO}{pos p2:Pos}
theorem jK:PO X none iI:=by
 intro a s b H Q I h;rw[evalPart_none];show Á #[none,H,I,.none,h]
theorem cO(h:PE X e te):PO X (!e) (gh te):=by
 intro a s j H Q I d;rw[evalPart_some];show bA (h a s j H _ I d) λu k ob=>?_
 let#[x,b,c,g,f]:=ob;let#[i,rfl,q]:=f;let#[t,rfl]:=g;show#[!i,b,c,.int i t,q]
def Tt(X:Cx)(r:V->ύ Int->ύ Int->Hp->VK->Prop):Prop:=
 ∀(pins:ϸ)(s:ώ)(σ:St)(H:Hp)(x:V)(v vl vu:ϋ)(lo hi:ύ Int)(sl:ό)(Q:VK),Inv X pins σ H s->RelV x v->s.heap.IsSliceOf sl vl vu .none->IsPart vl lo->IsPart vu hi->r x lo hi H Q->
  ∃T id,typeLookup (.type T) "__getitem__"=pure !(.builtin id)/\s.TypeIs v T/\wpAny (model X.prog X.w) X.A (getItem v (.ref sl)) (EP X pins σ Q) X.xe s
abbrev FJ(r:V->ύ Int->ύ Int->Hp->VK->Prop)(te:TE)(tl th:TO):TE:=λσ H Q=>te σ H λx H1=>tl σ H1 λl H2=>th σ H2 λu H3=>r x l u H3 Q
theorem cY(A:Tt X r)(w:PE X e te)(z:PO X lo tl)(C:PO X hi th):PE X (.Subscript e (.Slice lo hi none p2) pos) (FJ r te tl th):=by
 intro a s d H Q I h;show Subscript_ (bA (w a s d H _ I h) λv L ob=>?_);let#[x,j,m,K,F]:=ob;show wpAny_Slice (bA (z a L d j _ m F) λf M ob=>?_);let#[l,k,n,D,G]:=ob;show bA (C a M d k _ n G) λg c ob=>?_
 let#[u,i,o,E,J]:=ob;rw[evalPart_none];show Á ?_;have p:Inv X a d i {c with heap:=c.heap.push {cls:=.type "slice",data:=.fields ([f,g,.none].toArray)}}:=o.kept (t':=c.toks) λb ob q=>Ã _ q
 let#[T,N,t,B,y]:=A a {c with heap:=c.heap.push {cls:=.type "slice",data:=.fields ([f,g,.none].toArray)}} d i x v f g l u c.heap.objs.size Q p K (Heap.IsSliceOf.new ..) D E J;change wpAny (model X.prog X.w) X.A (subscriptTail e (.Slice lo hi none p2) v (.ref c.heap.objs.size)) (EP X a d Q) X.xe {c with heap:=c.heap.push {cls:=.type "slice",data:=.fields ([f,g,.none].toArray)}};show tail_any (ops:=[.ref c.heap.objs.size,v]) B t y (by with_unfolding_all rfl)
def gR(xs:ϊ V)(lo hi:ύ Int):ϊ V:=(xs.drop (HT.dX ↑xs 0 lo)).take (HT.dX ↑xs ↑xs hi-HT.dX ↑xs 0 lo)
theorem nF(a:ϊ V)(lo b:ύ Int):↑(gR a lo b)<=↑a:=by
 unfold gR;rw[Ô,î];rfl'
def a0v(K:Ϗ):V->ύ Int->ύ Int->Hp->VK->Prop:=λx lo hi H Q=>∃a xs,x=.ref a/\SqT K H a xs/\
 ¬(HT.dX ↑xs 0 lo=0/\HT.dX ↑xs ↑xs hi=↑xs)/\∀p,H p=none->Q (.ref p) (upd H p (.tup (gR xs lo hi)))
theorem Tu:Tt X (a0v X.K):=by
 intro j s z H x v w y lo e u Q I t k n p h;let#[a,d,rfl,m,l,q]:=h
 cases t;let#[f,r,g,i]:=I.tuple m;have c:f.toArray.size=↑d:=by rw[Ø];show r.length.symm
 show#["tuple",_,PyProof.Rows.slot_tuple_getitem.lookup,g.typeIs,?_];show HT.lM g k n p (by rw[c];show l) ?_ (by rw[c];show i);rw[c];show#[.ref s.heap.objs.size,_,I.laid (t':=s.toks) (o:=.tup (gR d lo e)) (λb ob q=>Ã _ q) (Ä _) ?_,rfl,q _ (I.hok.fresh (Ä _))];show#[Nat.le_trans (nF d lo e) i,_,(r.drop (HT.dX ↑d 0 lo)).take (HT.dX ↑d ↑d e-HT.dX ↑d 0 lo),IsTup.new _ _]
end
def FN(n:Nat)(i:Int):ύ Nat:=if 0<=i then(if i<n then !i.toNat else none)else if-(n:Int)<=i then !(i+n).toNat else none
def xN{α:Type}(xs:ϊ α)(i:Int):ύ α:=(FN ↑xs i).bind λj=>xs[j]?
theorem Ae(h:FN n i=!j):seqIndex? i n=!j/\j<n/\-(n:Int)<=i/\i<n:=by
 unfold FN at h;by_cases b:0<=i
 .rw [if_pos b]at h;by_cases a:i<n
  .rw [if_pos a]at h;have e:i.toNat=j:=ß h;show#[by rw[seqIndex_of b a,e],(),(),a]
  .rw [if_neg a]at h;cases h
 .rw [if_neg b]at h;by_cases a:-(n:Int)<=i
  .rw [if_pos a]at h;have e:(i+n).toNat=j:=ß h;show#[by rw[seqIndex_neg () a,e],(),a,()]
  .rw [if_neg a]at h;cases h
theorem tW{b:Type}{a:ϊ b}{v:b}(h:xN a i=!v):∃j,seqIndex? i ↑a=!j/\a[j]?=!v/\j<↑a/\-(↑a:Int)<=i/\i<↑a:=by
 unfold xN at h
 cases e:FN ↑a i with
 |none=>rw[e]at h;cases h
 |some j=>
  rw[e]at h;let#[c,d,f,g]:=Ae e;show#[j,c,h,d,f,g]
theorem aM{a:Type}{xs:ϊ a}{v:a}(h:xs[j]?=!v):xN xs (j:Int)=!v:=by
 have b:j<↑xs:=(À.mp h).1;have e:FN ↑xs (j:Int)=!j:=by
  unfold FN;rw[if_pos (),if_pos ()];simp
 unfold xN;rw[e];show h
theorem vG{b:Type}(a:ϊ b)(v:b):xN (a++[v]) (-1)=!v:=by
 have c:↑(a++[v])=↑a+1:=by simp
 have e:FN ↑(a++[v]) (-1)=some ↑a:=by
  unfold FN;rw[c,if_neg (by decide),if_pos ()];congr 1;rfl'
 unfold xN;rw[e];change(a++[v])[↑a]?=!v;simp
def Oa(b:Expr):Prop:=∀o i,subscripted b false o i=operate [o,i] (getItem o i)
def Xk(X:Cx)(r:R2):Prop:=
 ∀(value slice:Expr)(pins:ϸ)(s:ώ)(σ:St)(H:Hp)(x y:V)(v u:ϋ)(Q:VK),Inv X pins σ H s->RelV x v->RelV y u->r x y H Q->
  subscripted slice false v u=operate [v,u] (getItem v u)->wpAny (model X.prog X.w) X.A (subscriptTail value slice v u) (EP X pins σ Q) X.xe s
def Tv(X:Cx)(id:String)(r:V->ϊ V->Hp->VK->Prop):Prop:=
 ∀(pins:ϸ)(s:ώ)(σ:St)(H:Hp)(x:V)(xs:ϊ V)(v:ϋ)(us:ϊ ϋ)(Q:VK),Inv X pins σ H s->RelV x v->Vals xs us->r x xs H Q->
  wpAny (model X.prog X.w) X.A (call (.builtin id) (v::us)) (EP X pins σ Q) X.xe s
section
variable{X:Cx}{a b:Expr}
theorem nG{r:R2}(i:Xk X r)(f:PE X a ta)(g:PE X b tb)(j:Oa b):PE X (.Subscript a b pos) (aL r ta tb):=by
 intro c s n H Q I h;show Subscript_ (Tj f g I h λv u m x y d e k l q=>i a b c m n d x y v u Q e k l q (j _ _))
def cu(K:Ϗ):R2:=λx y H Q=>∃p xs i v,x=.ref p/\y=.int i/\SqL K H p xs/\xN xs i=!v/\Q v H
def fO(K:Ϗ):R2:=λx y H Q=>∃p xs i v,x=.ref p/\y=.int i/\SqT K H p xs/\xN xs i=!v/\Q v H
def tY:R2:=λx y H Q=>∃z i c,x=.str z/\y=.int i/\↑z<=sizeLine/\xN z.cps.toList i=!c/\Q (.str #[([c].toArray)]) H
theorem Ob:Xk X (cu X.K):=by
 intro k g a s o H x y v u Q I G J h n;let#[p,O,i,z,rfl,rfl,F,D,q]:=h
 cases G;let#[t,rfl]:=J;let#[d,r,e,N]:=I.list F;let#[j,b,A,L,B,C]:=tW D;let#[w,l,f]:=r.get A;have E:=↑r;have M:=mH;have fin:EP X a o Q w s:=#[z,H,I,f,q];by_cases m:0<=i
 .have c:i.toNat=j:=by
   rw[seqIndex_of m C]at b;show ß b
  show item_listR e.isList m () (by rw[c];simpa using l) fin n
 .have c:(i+(d.toArray.size:Int)).toNat=j:=by
   rw[seqIndex_neg () B]at b;rw[Ø,<-E];show ß b
  show subscriptTail_builtinR (x:=w) e.isList.typeIs slot_list_getitem.lookup
   (wpAny_getItem_list_neg (Q:=λr K=>r=w/\EP X a o Q r K) e.isList () (by rw[Ø]<;>rfl') () (by rw[c];simpa using l) #[rfl,fin]) n
theorem Tw:Xk X (fO X.K):=by
 intro d c a s f H x y v u Q I C D h A;let#[p,M,i,z,rfl,rfl,o,m,q]:=h
 cases C;let#[t,rfl]:=D;let#[B,r,e,L]:=I.tuple o;let#[j,k,l,F,G,J]:=tW m;let#[w,g,b]:=r.get l;have n:=↑r;have K:=mH;have fin:EP X a f Q w s:=#[z,H,I,b,q];show subscriptTail_builtinR (x:=w) e.typeIs slot_tuple_getitem.lookup
  (getItem_tuple (j:=j) (Q:=λr E=>r=w/\EP X a f Q r E) e () () (by rw[Ø,<-n];show k) (by simpa using g) #[rfl,fin]) A
theorem mJ:Xk X tY:=by
 intro b a e s E H x y v u Q I r w h p;let#[z,i,c,rfl,rfl,C,n,q]:=h;let#[t,rfl]:=r;let#[D,rfl]:=w;let#[j,d,k,A,l,m]:=tW n;have o:↑z.cps.toList=↑z:=by simp[Str.length]
 rw[o]at d l m;have B:=mH;show tail_any (typeIs_str s z t) slot_str_getitem.lookup (getItem_str (c:=c) (by
  have f:decide (i< -(2^63:Int))=false:=Ü ();have g:decide (i>=2^63)=false:=Ü ();rw[f,g,Bool.or_false]) (by rw[d];simpa using k) #[.str #[([c].toArray)],H,I.tok _,#[_,rfl],q]) p
theorem yc(a:ϊ ϋ)(n j:Nat)(u:ϋ):Obj.mapSeq (·.setIfInBounds j u) {cls:=.type "list",data:=.seq a.toArray n}={cls:=.type "list",data:=.seq (a.set j u).toArray n}:=by
 simp[Obj.mapSeq]
theorem Inv.lst{s:ώ}{a:ϊ V}(I:Inv X pins σ H s)(h:H p=!(.lst a)):
  ∃(its:ϊ ϋ)(n:Nat),Vals a its/\s.heap.get? p=!{cls:=.type "list",data:=.seq its.toArray n}/\↑a<=sizeLine:=by
 let#[z,its,n,r,e]:=I.hok p _ h;show#[its,n,r,e,z]
theorem Inv.lstUpd{j:ϊ V}{a:Nat}{f:Obj->Obj}(I:Inv X pins σ H s)(h:H p=!(.lst j))
  (g:s.heap.get? p=!{cls:=.type "list",data:=.seq its.toArray n}) (c:f {cls:=.type "list",data:=.seq its.toArray n}={cls:=.type "list",data:=.seq its'.toArray a}) (r:Vals ys its') (i:↑ys<=sizeLine) (t:Nat):
  Inv X pins σ (upd H p (.lst ys)) {s with heap:=s.heap.update p f,toks:=t}:=by
 have e:(s.heap.update p f).get? p=!{cls:=.type "list",data:=.seq its'.toArray a}:=by
  rw[ĝ f g (by rw[c]<;>rfl),c]
 show I.write (x:=p) (e:=p) (by rw[h];trivial) (.inl rfl) (λb u d q=>(Ň _ _ (Ne.symm d)).trans q) #[_,e] ?_;show#[i,its',a,r,e]
def nH:V->V->V->Hp->(Hp->Prop)->Prop:=λo i v H Q=>∃p xs k j,o=.ref p/\i=.int k/\H p=!(.lst xs)/\FN ↑xs k=!j/\Q (upd H p (.lst (xs.set j v)))
theorem set_list:XF X nH:=by
 intro b s E H o i v ov J u Q I B A C h;let#[p,D,k,j,rfl,rfl,x,y,q]:=h
 cases B;let#[t,rfl]:=A;let#[a,n,r,f,z]:=I.lst x;let#[c,F,m,w]:=Ae y;have e:=↑r;have G:=mH;have g:Inv X b E (upd H p (.lst (D.set j v))) {s with heap:=s.heap.update p (Obj.mapSeq (·.setIfInBounds j u))}:=
  I.lstUpd x f (yc a n j u) (r.set C j) (by rw[Η];show z) s.toks
 by_cases l:0<=k
 .have d:k.toNat=j:=by
   rw[seqIndex_of l w]at c;show ß c
  show PySem.W.ki_setAt f l () (by rw[Ø,<-e];show w) (by rw[d];show#[_,g,q])
 .have d:(k+(a.toArray.size:Int)).toNat=j:=by
   rw[seqIndex_neg () m]at c;rw[Ø,<-e];show ß c
  show PySem.W.ki_setBack f () (by rw[Ø,<-e];show m) () (by rw[d];show#[_,g,q])
theorem tZ(lo a:ύ Int)(n:Nat):(sliceBounds lo a none n).1=((HT.dX n 0 lo:Nat):Int)/\(sliceBounds lo a none n).2.1=((HT.dX n n a:Nat):Int)/\(sliceBounds lo a none n).2.2=1:=by
 show#[?_,?_,rfl]
 .cases lo with
  |none=>simp[sliceBounds,HT.dX]
  |some i=>
   simp only[sliceBounds,HT.dX,Option.getD_none,show(1:Int)>0 by decide,ľ];by_cases h:i<0
   .simp only[h,ľ]<;>rfl'
   .simp only[h,Ć]<;>rfl'
 .cases a with
  |none=>simp[sliceBounds,HT.dX]
  |some i=>
   simp only[sliceBounds,HT.dX,Option.getD_none,show(1:Int)>0 by decide,ľ];by_cases h:i<0
   .simp only[h,ľ]<;>rfl'
   .simp only[h,Ć]<;>rfl'
theorem qZ(a:ϊ ϋ)(lo b:ύ Int):slicePick a.toArray lo b none=((a.drop (HT.dX ↑a 0 lo)).take (HT.dX ↑a ↑a b-HT.dX ↑a 0 lo)).toArray:=by
 let#[c,d,e]:=tZ lo b a.toArray.size;unfold slicePick;rw[c,d,e];simp-iota only[sliceRange_one,pick_run,Ø]<;>rfl
def vH(K:Ϗ):V->ύ Int->ύ Int->Hp->VK->Prop:=λx lo hi H Q=>∃a xs,x=.ref a/\SqL K H a xs/\∀p,H p=none->Q (.ref p) (upd H p (.lst (gR xs lo hi)))
theorem Oc:Tt X (vH X.K):=by
 intro g s y H x v u w lo e t Q I p i m n h;let#[a,c,rfl,j,q]:=h
 cases p;let#[l,r,f,k]:=I.list j;have d:=↑r;show#["list",_,slot_list_getitem.lookup,f.isList.typeIs,?_];show wpAny_getItem_list_slice f.isList i m n .none (by simp) ?_ (by rw[Ø]<;>rfl');rw[qZ,<-d];show#[.ref s.heap.objs.size,_,I.laid (t':=s.toks) (o:=.lst (gR c lo e)) (λb ob q=>Ã _ q) (Ä _) ?_,rfl,q _ (I.hok.fresh (Ä _))];show#[Nat.le_trans (nF c lo e) k,_,0,(r.drop (HT.dX ↑c 0 lo)).take (HT.dX ↑c ↑c e-HT.dX ↑c 0 lo),Ë _ rfl]
def gJ:V->ϑ
 |.non=>true
 |.bl _=>true
 |.int _=>true
 |.str _=>true
 |_=>false
def Od:V->V->ϑ
 |.non,.non=>true
 |.bl a,.bl b=>a==b
 |.bl a,.int b=>(if a then 1 else 0)==b
 |.int a,.bl b=>a==(if b then 1 else 0)
 |.int a,.int b=>a==b
 |.str a,.str b=>a==b
 |_,_=>false
theorem Tz(f:RelV y u)(c:RelV x v)(g:gJ y=true)(e:gJ x=true):SeqAt.EqAt A s u v (Od y x):=by
 cases y with
 |non=>
  cases f
  cases x with
  |non=>cases c;show SeqAt.EqAt.same _
  |bl b=>cases c;show SeqAt.EqAt.none_bool b
  |int b=>let#[t,rfl]:=c;show SeqAt.EqAt.none_int b t
  |str b=>let#[t,rfl]:=c;show SeqAt.EqAt.none_str b t
  |_=>show absurd (show false=true from e) Ò
 |bl a=>
  cases f
  cases x with
  |non=>cases c;show SeqAt.EqAt.bool_none a
  |bl b=>cases c;show SeqAt.EqAt.bool_bool a b
  |int b=>let#[t,rfl]:=c;show SeqAt.EqAt.bool_int a b t
  |str b=>let#[t,rfl]:=c;show SeqAt.EqAt.bool_str a b t
  |_=>show absurd (show false=true from e) Ò
 |int a=>
  let#[d,rfl]:=f
  cases x with
  |non=>cases c;show SeqAt.EqAt.int_none a d
  |bl b=>cases c;show SeqAt.EqAt.int_bool a d b
  |int b=>let#[t,rfl]:=c;show SeqAt.EqAt.int_int a d b t
  |str b=>let#[t,rfl]:=c;show SeqAt.EqAt.int_str a d b t
  |_=>show absurd (show false=true from e) Ò
 |str a=>
  let#[d,rfl]:=f
  cases x with
  |non=>cases c;show SeqAt.EqAt.str_none a d
  |bl b=>cases c;show SeqAt.EqAt.str_bool a d b
  |int b=>let#[t,rfl]:=c;show SeqAt.EqAt.str_int a d b t
  |str b=>let#[t,rfl]:=c;show SeqAt.EqAt.str_str a d b t
  |_=>show absurd (show false=true from e) Ò
 |_=>show absurd (show false=true from g) Ò
def yd(x:V)(u:ϋ):ϑ:=match u with
 |.none=>Od .non x
 |.bool b=>Od (.bl b) x
 |.int i _=>Od (.int i) x
 |.str z _=>Od (.str z) x
 |_=>false
theorem FP(r:RelV y u)(f:gJ y=true):yd x u=Od y x:=by
 cases y with
 |non=>cases r;rfl
 |bl b=>cases r;rfl
 |int i=>let#[t,rfl]:=r;rfl
 |str z=>let#[t,rfl]:=r;rfl
 |_=>show absurd (show false=true from f) Ò
theorem lN{x:V}:∀{xs:ϊ V}{us:ϊ ϋ},Vals xs us->xs.all gJ=true->us.any (yd x)=xs.any λy=>Od y x
 |_,_,.nil,_=>rfl
 |y::xs,u::us,.cons r t,f=>by
  rw[List.all_cons,Ă]at f;rw[Ŵ,Ŵ,FP r f.1,lN t f.2]
theorem jm{A:ϖ}{x:V}{v:ϋ}(b:RelV x v)(a:gJ x=true):∀{xs:ϊ V}{us:ϊ ϋ},Vals xs us->xs.all gJ=true->∀u∈us,SeqAt.EqAt A s u v (yd x u)
 |_,_,.nil,_=>λu hu=>by cases hu
 |y::xs,u::us,.cons r t,f=>λc hu=>by
  rw[List.all_cons,Ă]at f;rcases Ç.mp hu with rfl|hu
  .rw [FP r f.1];show Tz r b f.1 a
  .show jm b a t f.2 c hu
def inV(x:V)(xs:ϊ V):ϑ:=xs.any λy=>Od y x
def El(K:Ϗ)(neg:ϑ):R2:=λx y H Q=>∃p xs,y=.ref p/\(SqL K H p xs\/SqT K H p xs)/\gJ x=true/\xs.all gJ=true/\Q (.bl (if neg then not (inV x xs)else inV x xs)) H
theorem Cy:iw X (compareOp .In) (El X.K false):=by
 intro f s l H x y v u Q I g j h;let#[p,k,rfl,hq,e,b,q]:=h
 cases j;rcases hq with hq|hq
 .obtain ⟨a,r,d,i⟩:=I.list hq;show SeqAt.in_listAt (yd x) d.isList (λw c=>jm g e r b w (by simpa using c)) #[.bl _,H,I,rfl,?_];rw[show a.toArray.any (yd x)=a.any (yd x)by simp,lN r b];show q
 .obtain ⟨a,r,d,i⟩:=I.tuple hq;show SeqAt.in_tupleAt (yd x) d (λw c=>jm g e r b w (by simpa using c)) #[.bl _,H,I,rfl,?_];rw[show a.toArray.any (yd x)=a.any (yd x)by simp,lN r b];show q
theorem u5:iw X (compareOp .NotIn) (El X.K true):=by
 intro f s l H x y v u Q I g j h;let#[p,k,rfl,hq,e,b,q]:=h
 cases j;rcases hq with hq|hq
 .obtain ⟨a,r,d,i⟩:=I.list hq;show SeqAt.notIn_listAt (yd x) d.isList (λw c=>jm g e r b w (by simpa using c)) #[.bl _,H,I,rfl,?_];rw[show a.toArray.any (yd x)=a.any (yd x)by simp,lN r b];show q
 .obtain ⟨a,r,d,i⟩:=I.tuple hq;show SeqAt.notIn_tupleAt (yd x) d (λw c=>jm g e r b w (by simpa using c)) #[.bl _,H,I,rfl,?_];rw[show a.toArray.any (yd x)=a.any (yd x)by simp,lN r b];show q
theorem u6:bU X (.type "list") (λxs H Q=>∃p ys,xs=[.ref p]/\(SqL X.K H p ys\/SqT X.K H p ys)/\∀l,H l=none->Q (.ref l) (upd H l (.lst ys))):=by
 intro k s z H xs A Q I r h;let#[p,ys,rfl,hq,q]:=h;let#[u,rfl,y]:=vals1 r
 cases y;have fin:∀(a:ϊ ϋ),Vals ys a->↑ys<=sizeLine->∀(c:ϒ)(d:Nat),(∀b x,s.heap.get? b=!x->c.get? b=!x)->
   c.get? s.heap.objs.size=!{cls:=.type "list",dict:=none,data:=.seq a.toArray d,slots:=([].toArray)}->EP X k z Q (.ref s.heap.objs.size) {s with heap:=c}:=λa f i c d j e=>
  #[.ref s.heap.objs.size,_,I.laid (t':=s.toks) j (Ä _) (show ObjOk X.prog X.w _ c _ (.lst ys)from#[i,a,d,f,e]),rfl,q _ (I.hok.fresh (Ä _))]
 rcases hq with hq|hq
 .obtain ⟨a,f,w,i⟩:=I.list hq;have g:=↑f;let#[o,v,m,n,t]:=w.isList;show call_list_seq p (.inl rfl) v m t (λc d j e=>fin a f i c d j e) (by simp-iota only[Ø]<;>rfl')
 .obtain ⟨a,f,w,i⟩:=I.tuple hq;have g:=↑f;let#[o,v,m,n,t]:=w;show call_list_seq p (.inr rfl) v m t (λc d j e=>fin a f i c d j e) (by simp-iota only[Ø]<;>rfl')
theorem rn:bU X (.type "tuple") (λxs H Q=>∃p ys,xs=[.ref p]/\((SqL X.K H p ys/\∀l,H l=none->Q (.ref l) (upd H l (.tup ys)))\/(SqT X.K H p ys/\Q (.ref p) H))):=by
 intro a s m H xs w Q I r h;let#[p,ys,rfl,h]:=h;let#[u,rfl,v]:=vals1 r
 cases v;rcases h with⟨hq,q⟩|⟨hq,q⟩
 .obtain ⟨c,g,f,k⟩:=I.list hq;have j:=↑g;show call_tuple_list f.isList (λd t=>?_) (by simp-iota only[Ø]<;>rfl');have i:Inv X a m H {s with heap:=d}:=I.kept (t':=s.toks) t;have n:Inv X a m (upd H d.objs.size (.tup ys)) {s with heap:=d.push {cls:=.type "tuple",data:=.seq c.toArray}}:=
   i.laid (t':=s.toks) (λb o e=>Ã _ e) (Ä _) (show ObjOk X.prog X.w _ _ _ (.tup ys)from#[k,c,g,IsTup.new _ _])
  show#[.ref d.objs.size,_,n,rfl,q _ (i.hok.fresh (Ä _))]
 .obtain ⟨c,g,f,k⟩:=I.tuple hq;show call_tuple_same f #[.ref p,H,I,rfl,q]
def Y0(K:Ϗ)(T:String)(x:V)(H:Hp):Prop:=match x with
 |.str _=>T="str"
 |.int _=>T="int"
 |.ref p=>(T="list"/\∃xs,SqL K H p xs)\/(T="tuple"/\∃o,K.lookup p=!o/\o.cls=.type "tuple"/\o.dict=none)\/
   (T="dict"/\((∃kvs,H p=!(.dK kvs))\/∃kvs,H p=!(.dT kvs)))\/(T="set"/\∃S n,H p=!(.set S n))
 |_=>False
theorem FQ(I:Inv X pins σ H s)(r:RelV x v)(d:Y0 X.K T x H):
  s.TypeIs v T/\∀a,v=.ref a->∃ob,s.heap.get? a=!ob/\ob.dict=none:=by
 cases x with
 |str z=>
  let#[t,rfl]:=r
  cases(show T="str" from d);show#[typeIs_str s z t,λ_ e=>nomatch e]
 |int i=>
  let#[t,rfl]:=r
  cases(show T="int" from d);show#[typeIs_int s i t,λ_ e=>nomatch e]
 |ref p=>
  cases r;rcases d with⟨rfl,xs,hq⟩|⟨rfl,o,hk,hc,g⟩|⟨rfl,hk⟩|⟨rfl,S,n,hk⟩
  .obtain ⟨j,_,h,_⟩:=I.list hq;show#[h.isList.typeIs,λa e=>?_]
   cases e;let#[o,n,e,c,g,_]:=h;show#[o,e,g]
  .show #[#[o,I.kIn p o hk,hc],λa e=>?_]
   cases e;show#[o,I.kIn _ o hk,g]
  .have z:∃o,s.heap.get? p=!o/\o.ExactDict:=by
    rcases hk with⟨kvs,hk⟩|⟨kvs,hk⟩
    .obtain ⟨_,_,_,_,o,_,_,e,b,_⟩:=I.hok p _ hk;show#[o,e,b]
    .obtain ⟨_,_,_,_,o,_,_,e,b,_⟩:=I.hok p _ hk;show#[o,e,b]
   let#[o,e,b]:=z;show#[#[o,e,b.1],λa f=>?_]
   cases f;show#[o,e,b.2.1]
  .obtain ⟨o,_,_,_,e,b,_⟩:=I.hok p _ hk;show#[#[o,e,b.1],λa f=>?_]
   cases f;show#[o,e,b.2.1]
 |_=>show False.elim d
abbrev TF(K:Ϗ)(T:String)(r:V->ϊ V->Hp->VK->Prop)(to:TE):TE:=λσ H Q=>to σ H λx H1=>Y0 K T x H1/\r x [] H1 Q
abbrev qT(K:Ϗ)(T:String)(r:V->ϊ V->Hp->VK->Prop)(to:TE)(t:TA):TE:=λσ H Q=>to σ H λx H1=>Y0 K T x H1/\t σ H1 λxs H2=>r x xs H2 Q
variable{o e:Expr}{es:ϊ Expr}{to:TE}{t:TA}{name:ϐ}{apos cpos:Pos}{T id:String}{r:V->ϊ V->Hp->VK->Prop}
theorem TJ(p:PlainAttrs T)(d:Slot T name id)(e:typeOf (.builtin id)=pure (.type "method_descriptor"))(m:Tv X id r)(n:PE X o to)
  (b:attributeBase o name X.env (eval o X.env)=eval o X.env:=by rfl) (c:(apos.endLine==cpos.line)=true:=by rfl):PE X (.Call (.Attribute o name apos) [] [] cpos) (TF X.K T r to):=by
 intro a s i H Q I h;show Ο b c (bA (n a s i H _ I h) λv t ob=>?_);let#[x,j,f,g,u,q]:=ob;let#[k,l]:=FQ f g u;show#[T,id,p,d,e,k,l,ċ rfl (PySem.evalArgs_none (m a t i j x [] v [] Q f g .nil q))]
theorem Y4(C:PlainAttrs T)(g:Slot T name id)(i:typeOf (.builtin id)=pure (.type "method_descriptor"))(z:Tv X id r)(A:PE X o to)(y:PA X (e::es) t)
  (c:attributeBase o name X.env (eval o X.env)=eval o X.env:=by rfl)
  (f:((backTo cpos (starEach (e::es) X.env)).all (λx=>not x.1)&&(backToKw cpos (keywordEach [] X.env)).all (λx=>x.1.isSome)
   &&decide (↑(e::es)+↑([]:ϊ Keyword)+(if([]:ϊ Keyword).isEmpty then 0 else 1)<30))=true:=by rfl)
  (d:(apos.endLine==cpos.line)=true:=by rfl) (B:starEach (e::es) X.env=(false,eval e X.env)::starEach es X.env:=by rfl) (b:(backTo cpos (starEach es X.env)).any (·.1)=false:=by rfl):
  PE X (.Call (.Attribute o name apos) (e::es) [] cpos) (qT X.K T r to t):=by
 intro a s j H Q I h;show wpAny_Call_method_late c f d rfl (bA (A a s j H _ I h) λv G ob=>?_);let#[x,n,k,m,K,D]:=ob;let#[u,w]:=FQ k m K;show#[T,id,C,g,i,u,w,?_];have l:=y cpos a G j n _ k D;rw[B]at l⊢;show ċ (by change(false||(backTo cpos (starEach es X.env)).any (·.1))=false;rw[b]<;>rfl) (Ś ?_);show bA l λL J ob=>?_
 let#[M,p,q,F,E]:=ob;show z a J j p x M v L Q q m F E
end
def MtM(X:Cx)(id:String)(r:V->ϊ V->Hp->VK->Prop):Prop:=
 ∀(pins:ϸ)(s:ώ)(σ:St)(H:Hp)(x:V)(xs:ϊ V)(v:ϋ)(us:ϊ ϋ)(Q:VK),Inv X pins σ H s->RelV x v->Vals xs us->r x xs H Q->
  wpAny (model X.prog X.w) X.A (call (.builtin id) (v::us)) (EP X pins σ Q) X.xe s
theorem Vals.one(h:Vals [x] us):∃u,us=[u]/\RelV x u:=by
 cases h with
 |cons r t=>cases t;show#[_,rfl,r]
theorem Vals.two(h:Vals [x,y] us):∃u v,us=[u,v]/\RelV x u/\RelV y v:=by
 cases h with
 |cons r t=>
  let#[v,rfl,q]:=Vals.one t;show#[_,v,rfl,r,q]
theorem Vals.zero:∀{us:ϊ ϋ},Vals [] us->us=[]
 |_,.nil=>rfl
theorem Vals.dropLast(h:Vals a us):Vals a.dropLast us.dropLast:=by
 induction h with
 |nil=>show .nil
 |cons r t ih=>
  cases t with
  |nil=>show .nil
  |cons q t'=>show .cons r ih
theorem Vals.eraseIdx:∀{xs:ϊ V}{us:ϊ ϋ}(i:Nat),Vals xs us->Vals (xs.eraseIdx i) (us.eraseIdx i)
 |_,_,_,.nil=>.nil
 |_,_,0,.cons _ t=>t
 |_,_,i+1,.cons r t=>.cons r (Vals.eraseIdx i t)
theorem Vals.rep(h:Vals a us):∀k:Nat,Vals (List.replicate k a).flatten (List.replicate k us).flatten
 |0=>.nil
 |k+1=>by
  rw[Ņ,Ņ,Ω,Ω];show Vals.append h (Vals.rep h k)
theorem ye{c:Type}(l:ϊ c):l.eraseIdx (↑l-1)=l.dropLast:=by
 induction l with
 |nil=>rfl
 |cons a r ih=>
  cases r with
  |nil=>rfl
  |cons b r=>
   have e:↑(a::b::r)-1=(↑(b::r)-1)+1:=by
    have d:↑(a::b::r)=↑r+2:=rfl;have f:↑(b::r)=↑r+1:=rfl;rfl'
   rw[e,List.eraseIdx_cons_succ,ih];all_goals rfl
theorem rQ{a:Type}:∀(l:ϊ a)(i:Nat),↑(l.eraseIdx i)<=↑l
 |[],_=>Ä _
 |_::_,0=>Nat.le_succ _
 |_::r,i+1=>Ķ (rQ r i)
theorem foldl_rep(b:ϊ ϋ):∀(k:Nat)(a:ϊ ϋ),
  List.foldl (λd f=>d++f) a.toArray (List.replicate k b.toArray)=(a++(List.replicate k b).flatten).toArray
 |0,a=>by simp
 |k+1,a=>by
  have e:a.toArray++b.toArray=(a++b).toArray:=by simp
  have c:(a++b)++(List.replicate k b).flatten=a++(List.replicate (k+1) b).flatten:=by
   rw[Ņ,Ω,ð]
  rw[<-c,<-foldl_rep b k (a++b),<-e,Ņ,Ń]
section
variable{X:Cx}
theorem Inv.lset(I:Inv X pins σ H s)(a:H l=!(.lst xs))
  (e:s.heap.get? l=!{cls:=.type "list",data:=.seq its.toArray n}) (c:f its.toArray=its'.toArray) (g:Vals ys its') (h:↑ys<=sizeLine):
  Inv X pins σ (upd H l (.lst ys)) {s with heap:=s.heap.update l (Obj.mapSeq f),toks:=t'}:=by
 have q:=PySem.IsL.update e f;rw[c]at q;show I.write (x:=l) (e:=l) (by rw[a];show trivial) (.inl rfl) (λi u b d=>(Ň s.heap (Obj.mapSeq f) (Ne.symm b)).trans d) #[_,q] ?_;show#[h,its',_,g,q]
def Inv.lnew(I:Inv X pins σ H s)(a:Vals ys its)(b:↑ys<=sizeLine):
  Inv X pins σ (upd H s.heap.objs.size (.lst ys)) {s with heap:=s.heap.push {cls:=.type "list",data:=.seq its.toArray},toks:=t'}:=
 I.laid (λ_ _ q=>Ã _ q) (Ä _) #[b,its,0,a,Ë _ rfl]
theorem Inv.fresh(I:Inv X pins σ H s):H s.heap.objs.size=none:=I.hok.fresh (Ä _)
theorem Inv.lstM(I:Inv X pins σ H s)(a:H l=!(.lst xs)):↑xs<=sizeLine/\∃(its:ϊ ϋ)(n:Nat),Vals xs its/\↑xs=↑its/\s.heap.get? l=!{cls:=.type "list",data:=.seq its.toArray n}:=by
 let#[z,its,n,r,e]:=I.hok l _ a;show#[z,its,n,r,↑r,e]
theorem vI(h:n<=sizeLine):Builtin.List.listTooLong n=false:=by
 unfold Builtin.List.listTooLong;show Ü ()
end
section
variable{X:Cx}
def cI:V->ϊ V->Hp->VK->Prop:=λx vs H Q=>∃l xs y,x=.ref l/\vs=[y]/\H l=!(.lst xs)/\↑xs<sizeLine/\Q .non (upd H l (.lst (xs++[y])))
theorem Cz:MtM X "list.append" cI:=by
 intro c s p H x m v k Q I g f h;let#[l,o,y,rfl,rfl,b,j,q]:=h
 cases g;let#[u,rfl,d]:=f.one;let#[z,a,n,r,i,e]:=I.lstM b;show Λ F.slot_list_append #[_,e,rfl] F.entry_list_append (F.args_list_append_2 _ _) (PySem.list_append l a.toArray n u (by rw[Ø];rfl')) #[e,?_];show#[.non,_,I.lset (its':=a++[u]) b e (by simp) (r.append (.cons d .nil)) ?_,rfl,q];rw[Â,Ú];rfl'
def lO:V->ϊ V->Hp->VK->Prop:=λx vs H Q=>∃l b xs zs,x=.ref l/\vs=[.ref b]/\H l=!(.lst xs)/\H b=!(.lst zs)/\↑xs+↑zs<=sizeLine/\Q .non (upd H l (.lst (xs++zs)))
theorem mK:MtM X "list.extend" lO:=by
 intro i s K H x D v C Q I y w h;let#[l,b,E,J,rfl,rfl,g,k,B,q]:=h
 cases y;let#[u,rfl,t]:=w.one
 cases t;let#[z,c,n,r,A,e]:=I.lstM g;let#[G,a,o,p,m,j]:=I.lstM k;have f:c.toArray.size+a.toArray.size<=sizeLine:=by rw[Ø,Ø];rfl'
 have d:¬(not c.toArray.isEmpty&&Builtin.List.listTooLong (c.toArray.size+a.toArray.size))=true:=by
  rw[vI f,Bool.and_false];show Ò
 show Λ F.slot_list_extend #[_,e,rfl] F.entry_list_extend (F.args_list_extend_2 _ _)
  (AutoSeq1.list_extend_list_list_0 l c.toArray n b a.toArray o d (by rw[Ø];rfl') ()) #[e,j,?_]
 show#[.non,_,I.lset (its':=c++a) g e (by simp) (r.append p) ?_,rfl,q];rw[Â];rfl'
def TQ:V->ϊ V->Hp->VK->Prop:=λx vs H Q=>∃l xs y,x=.ref l/\vs=[]/\H l=!(.lst xs)/\xs[↑xs-1]?=!y/\Q y (upd H l (.lst xs.dropLast))
theorem TV:MtM X "list.pop" TQ:=by
 intro f s A H x t v p Q I o m h;let#[l,w,y,rfl,rfl,d,j,q]:=h
 cases o;have b:=m.zero;subst b;let#[z,a,n,r,g,e]:=I.lstM d;let#[u,i,k]:=r.get j;have c:a.toArray[a.toArray.size-1]?=!u:=by
  change a.toArray[↑a-1]?=!u;rw[<-û,<-g];show i
 show Λ F.slot_list_pop #[_,e,rfl] F.entry_list_pop (F.args_list_pop_1 _) (MeetsSeq.list_pop_last l a.toArray n u c (by rw[Ø];rfl')) #[e,?_];show#[y,_,I.lset (its':=a.dropLast) d e ?_ r.dropLast ?_,k,q]
 .show a.toArray.eraseIdxIfInBounds (a.toArray.size-1)=a.dropLast.toArray;rw[Ø,List.eraseIdxIfInBounds_toArray,ye]
 .rw [List.length_dropLast];rfl'
def yf:V->ϊ V->Hp->VK->Prop:=λx vs H Q=>∃l xs i k y,x=.ref l/\vs=[.int i]/\H l=!(.lst xs)/\-(2^63)<=i/\i<2^63/\seqIndex? i ↑xs=!k/\xs[k]?=!y/\Q y (upd H l (.lst (xs.eraseIdx k)))
theorem FT:MtM X "list.pop" yf:=by
 intro d s J H x G v E Q I C B h;let#[l,D,i,k,y,rfl,rfl,c,f,g,j,p,q]:=h
 cases C;let#[u,rfl,A]:=B.one;let#[t,rfl]:=A;let#[z,a,n,r,m,e]:=I.lstM c;let#[w,o,b]:=r.get p;show Λ F.slot_list_pop #[_,e,rfl] F.entry_list_pop (F.args_list_pop_2 _ _)
  (MeetsSeq.list_pop_at l a.toArray n i t k w (fitsIndex_both f g) (by rw[Ø,<-m];show j) (by rw[<-û];show o) (by rw[Ø];rfl')) #[e,?_]
 show#[y,_,I.lset (its':=a.eraseIdx k) c e ?_ (r.eraseIdx k) ?_,b,q]
 .show a.toArray.eraseIdxIfInBounds k=(a.eraseIdx k).toArray;rw[List.eraseIdxIfInBounds_toArray]
 .have:=rQ D k;rfl'
def yg:R2:=λx y H Q=>∃l b xs zs,x=.ref l/\y=.ref b/\H l=!(.lst xs)/\H b=!(.lst zs)/\↑xs+↑zs<=sizeLine/\∀p,H p=none->Q (.ref p) (upd H p (.lst (xs++zs)))
theorem pJ:iw X (binaryOp .Add) yg:=by
 intro d s E H x y v u Q I o p h;let#[l,b,B,D,rfl,rfl,j,i,w,q]:=h
 cases o
 cases p;let#[z,c,n,r,t,e]:=I.lstM j;let#[C,a,A,m,k,f]:=I.lstM i;show PySem.P.add_list e f ?_ (by rw[Ø,Ø];rfl');have g:c.toArray++a.toArray=(c++a).toArray:=by simp
 rw[g];show#[.ref _,_,I.lnew (t':=s.toks) (r.append m) (by rw[Â];rfl'),rfl,q _ I.fresh]
def Y5:R2:=λx y H Q=>∃l k xs,x=.ref l/\y=.int k/\H l=!(.lst xs)/\-(2^63)<=k/\k<2^63/\↑xs*k.toNat<=sizeLine/\
 ∀p,H p=none->Q (.ref p) (upd H p (.lst (List.replicate k.toNat xs).flatten))
theorem len_rep{b:Type}(a:ϊ b)(k:Nat):↑(List.replicate k a).flatten=k*↑a:=by
 induction k with
 |zero=>simp
 |succ k ih=>rw[Ņ,Ω,Â,ih,Nat.succ_mul,ļ]
theorem TX:iw X (binaryOp .Mult) Y5:=by
 intro w s M H x y v u Q I G J h;let#[l,k,L,rfl,rfl,D,B,C,p,q]:=h
 cases G;let#[t,rfl]:=J;let#[z,b,n,r,E,e]:=I.lstM D;have g:b.toArray.size*k.toNat<=sizeLine:=by rw[Ø,<-E];show p
 have d:¬b.toArray.size*k.toNat>(2^63-1)/8:=by
  have:(sizeLine:Nat)<=(2^63-1)/8:=by decide
  rfl'
 have f:¬(not (Builtin.List.listFitsIndex k))=true:=by
  rw[fitsIndex_both B C];show Ò
 have c:¬Builtin.List.listTooLong (b.toArray.size*k.toNat)=true:=by
  rw[vI g];show Ò
 have i:List.foldl (λj o=>j++o) ([].toArray) (List.replicate (if b.toArray.isEmpty=true then 0 else k.toNat) b.toArray)=(List.replicate k.toNat b).flatten.toArray:=by
  have A:∀m:Nat,List.foldl (λj o=>j++o) ([].toArray) (List.replicate m b.toArray)=(List.replicate m b).flatten.toArray:=λm=>by
   have:=foldl_rep b m [];rw[Ű]at this;show this
  rw[A]
  cases b with
  |nil=>simp
  |cons a r'=>rw[if_neg (by simp)]
 show wpAny_binaryOp_repeat_ref (T:="list") (U:="int") (by decide) #[_,e,rfl] (λK=>typeIs_int K k t) noFill_list_mul F.fills_int_mul F.slot_int_rmul repeat_list F.slot_int_index.lookup
  (Λ F.slot_int_rmul (typeIs_int s k t) F.entry_int_rmul (F.args_int_rmul_2 _ _) (int___rmul___int_list k t l b.toArray n)
   #[e,rfl,#[_,e,rfl],Λ F.slot_list_mul #[_,e,rfl] F.entry_list_mul (F.args_list_mul_2 _ _) (AutoListH.list___mul___list_int_3 l b.toArray n k t f d c) #[e,?_]])
 rw[i];show#[.ref _,_,I.lnew (t':=s.toks) (r.rep k.toNat) (by rw[len_rep,Nat.mul_comm];show p),rfl,q _ I.fresh]
end
end L2
namespace Att
open PySem PySem.W PySem.Calls PyProof.Rows
variable{n:Nat}
theorem nU:∀(ns:ϊ Int)(vs:ϊ ϋ),WellAll P h vs (ns.map WData.int)->IntsAre vs ns:=by
 intro ns;induction ns with
 |nil=>
  intro vs w;rw[Ĕ]at w
  cases w;show .nil
 |cons n ns ih=>
  intro vs w;rw[È]at w
  cases w with
  |cons a b=>
   cases a;show .cons _ _ (ih _ b)
theorem CG{l:OpenLaw}(p:l.most=!n){P:Params}{h:ϒ}
  (b:l.row.toRowW.claim.pre args=true) (i:WellAll P h vals args):
  ∃a vs ns,vals=[Value.ref a]/\args=[WData.list (ns.map WData.int)]/\h.get? a=!{cls:=.type "list",data:=.seq vs.toArray}/\IntsAre vs ns/\↑ns<=n:=by
 have g:WShape.hasAll [] args [.list .int]=true:=(pre_splitW b).1;have j:l.pre.holds [] {args:=args}=true:=(pre_splitW b).2;let#[d,r,rfl,k,m]:=hasAllW_cons g;obtain rfl:=hasAllW_nil m;let#[t,rfl,o]:=hasW_list k;let#[ns,rfl]:=items_int o;have c:↑ns<=n:=by
  unfold OpenLaw.pre at j;have e:(WTm.not (.lt (.lit (.int (n:Int))) (.len (.arg 0)))).holds [] {args:=[.list (ns.map .int)] }=true:=by
   have e:=(holds_andW j).1;rw[p]at e;show e
  have f:=condW_of e (w_not (w_lt w_lit (w_len_list (w_arg rfl))));rw[Qb]at f;show Nat.le_of_not_lt λq=>?_
  have s:(n:Int)<((↑ns:Nat):Int):=()
  first
   |(rw[Ù s]at f;show absurd f (by decide))
   |(simp at f;rfl')
 cases i with
 |cons w1 w2=>
  cases w2
  cases w1 with
  |list ho hall=>show#[_,_,ns,rfl,rfl,ho,nU ns _ hall,c]
theorem CJ(l:OpenLaw)(a:ϊ WData):l.row.toRowW.claim.post a (.bool true) a=true:=
 postW_of (r:=l.row.toRowW) (X:=(true==true))
  (show WShape.has [] (.bool true) .bool=true by first|rfl| decide | simp[WShape.has,WShape.arms,WShape.armsAll])
  (show(WTm.eq .res (.lit (.bool true))).value [] {args:=a,res:=!(.bool true),after:=a}=!(.bool (true==true))from w_eq_bool (w_res rfl) w_lit) rfl
theorem vJ{l:OpenLaw}
  (K:l.most=!n) (p:d.params.defaults=[])
  (c:∀(w:ϕ)(b s₁:ώ)(mg u:ϐ->ύ ϋ)(h:ό)(o:Obj)(v cd e:ϋ)(a:ό)(vs:ϊ ϋ)(ns:ϊ Int),
   Ground q loose [] XP w b mg u s₁.heap->YP w s₁.heap->
   s₁.heap.get? h=!o->o.data=.func (docDef d.name d.params d.body d.scope v cd e)->s₁.heap.CodeRec cd d.name->mg d.name=!(.ref h)->
   s₁.heap.get? a=!{cls:=.type "list",data:=.seq vs.toArray}->IntsAre vs ns->↑ns<=n->s₁.gens=([].toArray)->
   codeAny (model l.prog w) callerA (.call (.ref h) #[[.ref a],[]]) (λr s'=>r=.ok (.ret (.bool true))/\OldK s₁.heap s'.heap/\s'.os=s₁.os/\AllBare s'.gens) s₁):
  WalkO q loose XP YP l.row.toRowW d [] (λf vs=>PySem.call f vs):=by
 intro w b s₁ mg u G Y h o v cd e B kV L F m y s H x A O k z N t I;obtain rfl:B=.none:=Dflts.none y p;obtain rfl:kV=.none:=Dflts.noKw y;let#[a,vs,ns,rfl,rfl,j,g,i]:=CG K k t;show enter_call (codeAny_mono (c w b s₁ mg u h o v cd e a vs ns G Y L (fd_plain F) m s j g i H) λr s' M=>?_);let#[rfl,C,D,E]:=M;show#[.inl #[.bool true,.bool true,[],rfl,λ_=>rfl,.bool true,CJ l _,λ_=>#[List.Pairwise.nil,λ_ J=>(nomatch J)]],C,D,E]
section
end
end Att
namespace L2
open PySem PySem.Spec PyProof.Rows
variable{y:V}{σ:St}{n:Nat}{B:Prop}{H:Hp}{st:Stmt}{w:ϕ}{A:ϖ}{d:DefRec}{a b f:ό}{qual x:ϐ}{fd:FuncData}{CX:ϕ->NP}{sp:ϕ->Sp}{oc u:ϋ}{an:ύ ό}{loose:ϊ ϐ}{prog q:ϓ}{YP:ϕ->ϒ->Prop}{pins:ϸ}{kvs:ϊ (ϊ Key×V)}{E Q:϶}{osl:ϔ (ύ ϋ)}{XP:(ϐ->ύ ϋ)->ϒ->Prop}
theorem rR{b:ϊ ϋ}{a:ϊ Int}(h:IntsAre b a):Vals (a.map V.int) b:=by
 induction h with
 |nil=>show .nil
 |cons n t _ ih=>show .cons #[t,rfl] ih
def Only(H:Hp):Prop:=∀b,H b=none\/∃o xs,H b=!(.frz o (.lst xs))
theorem FW{P:ϓ}{K:Ϗ}{I T:ϐ->ύ ϋ}{X:NP}{k:Nat}{O:ό}{sp:Sp}{l:ϊ ϋ}{J:ϊ Int}
  (Y:K.In s₁.heap) (C:s₁.heap.Ns mainGlobals I) (f:s₁.heap.Ns builtinsNs T) (R:∀x:ϐ,x≠"__name__"->T x=bootBuiltins x) (B:s₁.heap.NoLimit) (hg:s₁.gens=([].toArray))
  (M:s₁.heap.get? a=!{cls:=.type "list",data:=.seq l.toArray}) (hi:IntsAre l J) (hl:↑J<=sizeLine) (hr:Room k callerA)
  (F:∀base:ϒ,K.In base->base.Ns mainGlobals I->FnOk P w K I base X k O fd [x] sp) (j:∀(s:ώ)(u:ϋ),BindsTo s fd #[[u],[]] [(x,u)])
  (S:∀H:Hp,Only H->SqL K H a (J.map V.int)->sp [.ref a] H (λv _=>v=.bl true) λ_ _ _=>False)
  (Q:∀H e s',X [] H s₁ (λ_ _ _=>False) e s'->False):
  codeAny (model P w) callerA (.call (.ref O) #[[.ref a],[]]) (λr s'=>r=.ok (.ret (.bool true))/\OldK s₁.heap s'.heap/\s'.os=s₁.os/\AllBare s'.gens) s₁:=by
 have rv:=rR hi;have G:=↑hi;have i:∀H:Hp,Only H->SqL K H a (J.map V.int)->HOk P w H s₁.heap-> (∀b,H b ≠ none->b=a)-> (H a ≠ none->K.lookup a=none)->
   codeAny (model P w) callerA (.call (.ref O) #[[.ref a],[]]) (λr s'=>r=.ok (.ret (.bool true))/\OldK s₁.heap s'.heap/\s'.os=s₁.os/\AllBare s'.gens) s₁:=by
  intro H hO hS D hA hK;have c:∀{b:ό}{o:Obj},s₁.heap.get? b=!o->H b=none->(tR s₁.heap H).get? b=!o:=λe n=>Er e n
  have U:∀{b:ό}{o:Obj}{y:ϔ DictEntry}{t:Nat},s₁.heap.get? b=!o->o.data=.dict y t->H b=none:=λ{b o y t} e d=>by
   cases q:H b with
   |none=>rfl
   |some u=>
    have N:b=a:=hA b (by rw[q];simp);subst N;rw[M]at e;cases e;have d':Data.seq l.toArray _=Data.dict y t:=d
    cases d'
  have g:∀{b:ό}{m:ϐ->ύ ϋ},s₁.heap.Ns b m->(tR s₁.heap H).Ns b m:=λ{b m} ⟨o,y,t,e,d,r⟩=>#[o,y,t,c e (U e d),d,r]
  have A:K.In (tR s₁.heap H):=λb o e=>c (Y b o e) (by
   cases q:H b with
   |none=>rfl
   |some u=>
    have N:b=a:=hA b (by rw[q];simp);subst N;rw[hK (by rw[q];simp)]at e;cases e)
  have hM:Mod K I (tR s₁.heap H):=#[A,g C,#[T,g f,R],let⟨mc,h1,h2⟩:=B;#[mc,g h1,h2]];have e0:Env0 P w K I (tR s₁.heap H) callerA [] s₁ H:=#[rfl,hM,λb o e=>O1 e,Ě (Ci _ _),trivial,λb f=>absurd (show b∈([]:ϊ ό)from f) (by simp),D,.of_eq hg];show codeAny_mono ((F _ A (g C)).run callerA [] s₁ H #[[.ref a],[]] [.ref a] [.ref a] _ _ hr e0 (j s₁ (.ref a)) (.cons rfl .nil) (S H hO hS)) λr s' h=>?_
  cases r with
  |error e=>show(Q H e s' h).elim
  |ok fl=>
   cases fl with
   |next=>show False.elim h
   |brk=>show False.elim h
   |cont=>show False.elim h
   |ret u=>
    let#[v,H',os,p,un,E,r',q]:=h;have q':v=.bl true:=q;subst q';obtain rfl:u=Value.bool true:=r';show#[rfl,OldK.of_keep λb o e=>?_,os,p]
    cases q:H b with
    |none=>show un.keep b o e q (by intro z;show absurd (show b∈([]:ϊ ό)from z) (by simp)) (by simp)
    |some u=>
     rcases hO b with z|⟨ob,xs,z⟩
     .rw [q]at z;cases z
     .have z2:=un.frzs b ob _ z;let#[Z,_]:=D b _ z;let#[e2,_]:=E b _ z2;rw[e]at Z;cases Z;show e2
 cases hk:K.lookup a with
 |some o=>
  have e:=Y a o hk;rw[M]at e
  cases e;show i (λ_=>none) (λ_=>.inl rfl) (.inr #[_,l.toArray,_,hk,rfl,rfl,rfl,by rw[Ø,G];show hl,by simpa using rv]) (λb u z=>by have L:(none:ύ HO)=!u:=z;cases L) (λb z=>absurd rfl z) λz=>absurd rfl z
 |none=>
  show i (λb=>if b=a then !(.frz {cls:=.type "list",data:=.seq l.toArray} (.lst (J.map V.int)))else none) (λb=>?_) (.inl (.inr #[{cls:=.type "list",data:=.seq l.toArray},if_pos rfl])) (λb u z=>?_) (λb z=>?_) λ_=>hk
  .by_cases f:b=a
   .show .inr #[_,_,if_pos f]
   .show .inl (if_neg f)
  .by_cases f:b=a
   .have L:=(if_pos f).symm.trans z
    cases L;subst f;show#[M,by rw[Qb];show hl,l,_,rv,M]
   .have L:=(if_neg f).symm.trans z
    cases L
  .by_cases f:b=a
   .show f
   .show absurd (if_neg f) z
theorem Oe{l:W.OpenLaw}{k:Nat}{K:Params->Ϗ}
  (N:l.most=!n) (t:n<=sizeLine) (p:d.params.defaults=[]) (O:Room k callerA)
  (I:∀(w:ϕ)(h:ϒ),YP w h->(K w.params).In h)
  (F:∀(w:ϕ)(mg:ϐ->ύ ϋ)(j:ό)(h:ϒ),(K w.params).In h->h.Ns mainGlobals mg->mg d.name=!(.ref j)->
   ∃fd:FuncData,(∀(s:ώ)(u:ϋ),BindsTo s fd #[[u],[]] [(x,u)])/\
    ∀base:ϒ,(K w.params).In base->base.Ns mainGlobals mg->FnOk l.prog w (K w.params) mg base (CX w) k j fd [x] (sp w))
  (y:∀(w:ϕ)(H:Hp)(a:ό)(ns:ϊ Int),↑ns<=n->Only H->SqL (K w.params) H a (ns.map V.int)->sp w [.ref a] H (λv _=>v=.bl true) λ_ _ _=>False)
  (m:∀(w:ϕ)(H:Hp)(s:ώ)(e:ϋ)(s':ώ),CX w [] H s (λ_ _ _=>False) e s'->False):
  PySem.W.WalkO q loose XP YP l.row.toRowW d [] (λf vs=>PySem.call f vs):=by
 show Att.vJ N p λw A i mg S j o T P B a vs ns G Y R Q L r g c b M=>?_
 have z:=I w _ Y;let#[fd,J,C]:=F w mg j _ z G.T.g r;show FW z G.T.g G.T.b G.T.builtins G.T.nolimit M g c (Î b t) O C J (λH D E=>y w H a ns b D E) λH e s'=>m w H i e s'
abbrev TY:NP:=λ_ _ _ _ _ _=>False
abbrev E0:XK:=λ_ _ _=>False
def R5{X:Cx}:tV TY X E0:=λ_ _ _ _ _ _ _ h=>h.elim
structure Fun(K:Ϗ)(x qual:ϐ)(st:Stmt)(f:ό)(fd:FuncData):Prop where
 ex:∃(oc:ϋ)(od:ύ ό)(kV doc pm:ϋ)(an:ύ ό)(cdv ct:ϋ)(osl:ϔ (ύ ϋ)),
  fd=W.fnOf x qual (gF st) (fM st) (bu st) .none kV doc pm an cdv ct/\K.lookup f=!#[oc,od,.func fd,osl]/\W.codeIn K cdv qual=true
 kp:W.keepIn K (.ref f)=true
section
variable{K:Ϗ}
theorem Fun.ok{N g:ϊ ϐ}{k:Nat}{i:Sp}(F:Fun K x qual st f fd)(S:FnScope N g (bu st))(e:∀vs H Q E,i vs H Q E->↑vs=↑g)
  (b:∀(a:ϋ)(A:ϖ)(outer:ϊ Env)(s:ώ)(H:Hp)(vs:ϊ V)(Q:VK)(E:XK),Room k (A.deeper (envOfC qual (bu st) s.heap.objs.size f a))->i vs H Q E->
   ∃t,PSs (Cv TY P w K mg base N qual (bu st) f a A outer s H E).nox (fM st) t/\t {nx:=λ_ H'=>Q .non H',rt:=Q} (start N vs) H):FnOk P w K mg base TY (k+1) f fd g i:=by
 let#[p,r,kV,j,u,n,a,o,m,rfl,lk,c]:=F.ex;show XX lk c S e λA outer s H vs Q E l d=>?_
 let#[t,h,q]:=b a A outer s H vs Q E l d;show#[t,h.nox,q]
theorem Fun.binds{e:ϊ ϐ}(F:Fun K x qual st f fd)
  (h:∀(kV b d:ϋ)(an:ύ ό)(a c:ϋ)(us:ϊ ϋ),↑us=↑e->bindArgs (W.fnOf x qual (gF st) (fM st) (bu st) .none kV b d an a c) #[us,[]]=pure (e.zip us)):Binds K fd e []:=by
 let#[j,k,kV,b,d,an,a,c,i,rfl,lk,g]:=F.ex;show .all (h kV b d an a c)
def yh{g:ύ ό}{kV b e a d:ϋ}(l:K.lookup f=!#[oc,g,.func (W.fnOf x qual (gF st) (fM st) (bu st) .none kV b e an a d),osl])
  (c:W.codeIn K a qual=true) (k:W.keepIn K (.ref f)=true):Fun K x qual st f (W.fnOf x qual (gF st) (fM st) (bu st) .none kV b e an a d):=#[#[oc,g,kV,b,e,an,a,d,osl,rfl,l,c],k]
end
theorem bG{k:Nat}(a:Room k A):A.units+1<cLine:=Õ (Nat.add_le_add_left (by decide:1<=64) _) a.units
theorem CK(h:n<=1000):n<sizeLine:=Õ h (by decide)
section
variable{X:Cx}
def pv(i:Nat){x:ϐ}{b:Pos}(c:X.N[i]?=!x:=by rfl)(e:Vis X.env.scope x:=by first|show Or.inl rfl|show Or.inr (Or.inl rfl)|show Or.inr (Or.inr rfl))(d:(x==("__debug__":ϐ))=false:=by decide)
  (a:(x==("__classdict__":ϐ))=false:=by decide):PE X (.Name x b) (fB i):=Te c e d a
end
theorem CN{A:Prop}(h:B):if false=true then A else B:=by
 rw[if_neg Ò];show h
theorem CP{A:Prop}(h:A):if true=true then A else B:=by
 rw[if_pos rfl];show h
def Same(H H':Hp):Prop:=∀b o,H b=!o->H' b=!o
def Same.refl(H:Hp):Same H H:=λ_ _ h=>h
def Same.trans{d:Hp}(a:Same H d)(b:Same d e):Same H e:=λc o h=>b c o (a c o h)
theorem Same.free(e:Same H H')(h:H' l=Option.none):H l=Option.none:=by
 cases q:H l with
 |none=>rfl
 |some o=>
  rw[e l o q]at h
  cases h
theorem Same.seq{K:Ϗ}{b:ϊ V}(e:Same H H')(h:SqL K H a b):SqL K H' a b:=by
 rcases h with(h|⟨o,h⟩)|h
 .show .inl (.inl (e _ _ h))
 .show .inl (.inr #[o,e _ _ h])
 .show .inr h
section
variable{κ:Type}[DecidableEq κ]
def bx(kvs:ϊ (κ×V))(k:κ):ύ V:=(kvs.find? λkv=>decide (kv.1=k)).map (·.2)
def putK(kvs:ϊ (κ×V))(k:κ)(v:V):ϊ (κ×V):=
 if(kvs.any λkv=>decide (kv.1=k))=true then kvs.map (λkv=>if kv.1=k then(kv.1,v)else kv)else kvs++[(k,v)]
def dI(kvs:ϊ (κ×V))(k:κ):ϊ (κ×V):=kvs.filter λkv=>decide (kv.1≠k)
theorem bZ{p:κ×V}{r:ϊ (κ×V)}{k:κ}(e:p.1=k):bx (p::r) k=!p.2:=by simp[bx,ė,e]
theorem bL{p:κ×V}{r:ϊ (κ×V)}{k:κ}(e:¬p.1=k):bx (p::r) k=bx r k:=by simp[bx,ė,e]
theorem lQ(k:κ):∀kvs:ϊ (κ×V),(kvs.any λa=>decide (a.1=k))=(bx kvs k).isSome
 |[]=>rfl
 |p::r=>by
  rw[Ŵ];by_cases e:p.1=k
  .simp only[bZ e,Ù e,Bool.true_or,Option.isSome_some]
  .rw [bL e,Ü e,Bool.false_or];show lQ k r
theorem rT(k j:κ)(y:V):∀kvs:ϊ (κ×V),bx kvs k=none->bx (kvs++[(k,y)]) j=if j=k then !y else bx kvs j
 |[],_=>by
  by_cases e:k=j
  .rw [if_pos e.symm];show bZ (p:=(k,y)) e
  .rw [if_neg (λz=>e z.symm)];show bL (p:=(k,y)) e
 |p::r,hn=>by
  rw[ť];have a:¬p.1=k:=λz=>by rw[bZ z]at hn;cases hn
  rw[bL a]at hn;have b:=rT k j y r hn;by_cases e:p.1=j
  .rw [bZ e,bZ e,if_neg (λz=>a (e.trans z))]
  .rw [bL e,bL e,b]
theorem jn(a:ϊ (κ×V))(k:κ)(v:V):↑(putK a k v)<=↑a+1:=by
 unfold putK;split
 .rw [Qb];rfl'
 .rw [Â,í,ű];rfl'
theorem dJ{a:ϊ (κ×V)}{k:κ}(v:V)(h:bx a k=none):putK a k v=a++[(k,v)]:=by
 unfold putK;rw[lQ,h];show if_neg (by decide)
theorem RelO.isSome_eq{u:ύ ϋ}(r:RelO o u):o.isSome=u.isSome:=by
 cases o with
 |none=>cases u with
  |none=>rfl
  |some _=>show(show False from r).elim
 |some _=>cases u with
  |none=>show(show False from r).elim
  |some _=>rfl
theorem RelO.getD{u:ύ ϋ}{d:V}(r:RelO o u)(a:RelV d d'):RelV (o.getD d) (u.getD d'):=by
 cases o with
 |none=>cases u with
  |none=>show a
  |some _=>show(show False from r).elim
 |some _=>cases u with
  |none=>show(show False from r).elim
  |some _=>show r
theorem KV.val{a:ϊ (κ×V)}{f:ϊ (κ×ϋ)}(r:KV a f)(k:κ):RelO (bx a k) (valueAt f k):=by
 unfold KV at r;induction r with
 |nil=>show True.intro
 |@cons p q ps qs h t ih=>
  let#[d,g]:=h;by_cases e:p.1=k
  .have c:q.1=k:=d.symm.trans e;have b:valueAt (q::qs) k=!q.2:=by simp[valueAt,ė,c]
   rw[bZ e,b];show g
  .have c:¬q.1=k:=λz=>e (d.trans z)
   have b:valueAt (q::qs) k=valueAt qs k:=by simp[valueAt,ė,c]
   rw[bL e,b];show ih
theorem KV.any{a:ϊ (κ×V)}{c:ϊ (κ×ϋ)}(r:KV a c)(k:κ):(a.any λb=>decide (b.1=k))=c.any λb=>decide (b.1=k):=by
 unfold KV at r;induction r with
 |nil=>rfl
 |cons h t ih=>rw[Ŵ,Ŵ,ih,h.1]
theorem KV.repl{b:ϊ (κ×V)}{d:ϊ (κ×ϋ)}(r:KV b d)(k:κ)(g:RelV y u):
  KV (b.map λa=>if a.1=k then(a.1,y)else a) (d.map λa=>if a.1=k then(a.1,u)else a):=by
 unfold KV at r⊢;induction r with
 |nil=>show .nil
 |@cons p q ps qs h t ih=>
  rw[È,È];show .cons ?_ ih;let#[c,f]:=h;by_cases e:p.1=k
  .rw [if_pos e,if_pos (c.symm.trans e)];show#[c,g]
  .rw [if_neg e,if_neg (λz=>e (c.trans z))];show#[c,f]
theorem KV.put{a:ϊ (κ×V)}{b:ϊ (κ×ϋ)}(r:KV a b)(k:κ)(c:RelV y u):KV (putK a k y) (stored b k u):=by
 unfold putK stored;rw[r.any k];by_cases e:(b.any λd=>decide (d.1=k))=true
 .rw [if_pos e,if_pos e];show r.repl k c
 .rw [if_neg e,if_neg e];show Paired.snoc r #[rfl,c]
theorem KV.keys{a:ϊ (κ×V)}{b:ϊ (κ×ϋ)}(r:KV a b):a.map (·.1)=b.map (·.1):=by
 unfold KV at r;induction r with
 |nil=>rfl
 |cons h t ih=>rw[È,È,ih,h.1]
def KV.length{a:ϊ (κ×V)}{b:ϊ (κ×ϋ)}(r:KV a b):↑a=↑b:=Ď r
def FZ(a:ϊ (κ×V))(k:κ):↑(dI a k)<=↑a:=ŵ _ _
end
theorem pK(r:RelV (kV k) u):(bf P w).is k u=true:=by
 cases k with
 |inl i=>let#[t,e]:=(show∃t,u=Value.int i t from r);subst e;show vp P w i t
 |inr x=>let#[t,e]:=(show∃t,u=Value.str x t from r);subst e;show vq P w x t
theorem rY{w:ϕ}:∀{a:ϊ Key}{us:ϊ ϋ},Vals (a.map kV) us->ItemsAre (bf P w) a us
 |[],_,r=>by rw[Ĕ]at r;cases r;show .nil
 |k::a,_,r=>by
  rw[È]at r
  cases r with
  |cons h t=>show .cons (pK h) (rY t)
abbrev KT(H:Hp):ϊ (ϊ Key×V)->ϊ (ϊ Key×ό×ϋ)->Prop:=Paired λp q=>p.1=q.1/\H q.2.1=!(.tup (p.1.map kV))/\RelV p.2 q.2.2
theorem KT.val{d:ϊ (ϊ Key×ό×ϋ)}(r:KT H kvs d)(k:ϊ Key):RelO (bx kvs k) ((atKey d k).map (·.2)):=by
 induction r with
 |nil=>show True.intro
 |@cons p q ps qs h t ih=>
  let#[c,_,f]:=h;by_cases e:p.1=k
  .have a:q.1=k:=c.symm.trans e;have b:atKey (q::qs) k=!q.2:=by simp[atKey,ė,a]
   rw[bZ e,b];show f
  .have a:¬q.1=k:=λz=>e (c.trans z)
   have b:atKey (q::qs) k=atKey qs k:=by simp[atKey,ė,a]
   rw[bL e,b];show ih
theorem KT.repl{d:ϊ (ϊ Key×ό×ϋ)}(r:KT H kvs d)(k:ϊ Key)(g:RelV y u):
  KT H (kvs.map λb=>if b.1=k then(b.1,y)else b) (d.map (putAt k u)):=by
 induction r with
 |nil=>show .nil
 |@cons p q ps qs h t ih=>
  rw[È,È];show .cons ?_ ih;let#[a,c,f]:=h;unfold putAt;by_cases e:p.1=k
  .rw [if_pos e,if_pos (a.symm.trans e)];show#[a,c,g]
  .rw [if_neg e,if_neg (λz=>e (a.trans z))];show#[a,c,f]
theorem KT.put{a:ϊ (ϊ Key×ό×ϋ)}(r:KT H kvs a)(k:ϊ Key)(d:H b=!(.tup (k.map kV)))(c:RelV y u):
  KT H (putK kvs k y) (storedH a k b u):=by
 have e:(kvs.any λf=>decide (f.1=k))=(atKey a k).isSome:=by
  rw[lQ,(r.val k).isSome_eq,ś]
 unfold putK storedH;rw[e];by_cases q:(atKey a k).isSome=true
 .rw [if_pos q,if_pos q];show r.repl k c
 .rw [if_neg q,if_neg q];show Paired.snoc r #[rfl,d,c]
def KT.keeps{a:ϊ (ϊ Key×ό×ϋ)}(r:KT H kvs a)(c:∀b ys,H b=!(.tup ys)->H' b=!(.tup ys)):KT H' kvs a:=
 Paired.mapP r λ_ _ z=>#[z.1,c _ _ z.2.1,z.2.2]
section
def R6{u:HO}(b:HOk P w H h)(e:Rd H a u):ObjOk P w H h a u:=e.ok b
def lR{b:ϊ (Key×V)}(c:HOk P w H h)(e:Rd H a (.dK b)):↑b<=sizeLine/\(a==sysModules)=false/\∃vs,KV b vs/\h.DictOf (bf P w) a vs:=
 show ObjOk P w H h a (.dK b)from R6 c e
def R7{b:ϊ (Key×V)}(c:HOk P w H h)(e:H a=!(.dK b)):↑b<=sizeLine/\(a==sysModules)=false/\∃vs,KV b vs/\h.DictOf (bf P w) a vs:=lR c (.inl e)
theorem iJ(i:HOk P w H h)(e:H a=!(.tup (c.map kV))):(tupleKind (bf P w)).is h c a:=by
 let#[_,b,r,o,d,f,n,g]:=(show ObjOk P w H h a (.tup (c.map kV))from i a _ e);show#[o,b.toArray,n,d,f,g,by simpa using rY r]
theorem pL(c:HOk P w H h)(e:Rd H a (.dT kvs)):↑kvs<=sizeLine/\(a==sysModules)=false/\
  ∃xs,KT H kvs xs/\h.DictOfH (tupleKind (bf P w)) a xs:=by
 let#[z,y,xs,r,o,f,d,g,i,j,k,n]:=(show ObjOk P w H h a (.dT kvs)from R6 c e);show#[z,y,xs,r,o,f,d,g,i,j,k,λx hx=>?_,n];have b:∀{l:ϊ (ϊ Key×V)}{m:ϊ (ϊ Key×ό×ϋ)},KT H l m->∀x∈m,(tupleKind (bf P w)).is h x.1 x.2.1:=by
  intro l m q;induction q with
  |nil=>intro x hx;show nomatch hx
  |@cons p q ps qs hq t ih=>
   intro x hx;rcases Ç.mp hx with e|hx
   .subst e;show iJ c (by rw[<-hq.1];show hq.2.1)
   .show ih x hx
 show b r x hx
def rZ(b:HOk P w H h)(e:H a=!(.dT kvs)):↑kvs<=sizeLine/\(a==sysModules)=false/\
  ∃xs,KT H kvs xs/\h.DictOfH (tupleKind (bf P w)) a xs:=pL b (.inl e)
end
def DGet(H:Hp)(a:ό)(y:V)(r:ύ V):Prop:=
 (∃kvs k,Rd H a (.dK kvs)/\y=kV k/\r=bx kvs k)\/∃kvs k b,Rd H a (.dT kvs)/\y=.ref b/\H b=!(.tup (k.map kV))/\r=bx kvs k
def DPut(H:Hp)(a:ό)(y v:V)(H':Hp):Prop:=
 (∃kvs k,H a=!(.dK kvs)/\y=kV k/\↑kvs<sizeLine/\H'=upd H a (.dK (putK kvs k v)))\/
 ∃kvs k b,H a=!(.dT kvs)/\y=.ref b/\H b=!(.tup (k.map kV))/\↑kvs<sizeLine/\H'=upd H a (.dT (putK kvs k v))
theorem DGet.k{H:Hp}{a:ό}{b:ϊ (Key×V)}{k:Key}(e:H a=!(.dK b)):DGet H a (kV k) (bx b k):=.inl #[b,k,.inl e,rfl,rfl]
def DGet.t{k:ϊ Key}(e:H a=!(.dT kvs))(c:H b=!(.tup (k.map kV))):DGet H a (.ref b) (bx kvs k):=.inr #[kvs,k,b,.inl e,rfl,c,rfl]
theorem DPut.k{H:Hp}{a:ό}{b:ϊ (Key×V)}{k:Key}{v:V}(e:H a=!(.dK b))(c:↑b<sizeLine):DPut H a (kV k) v (upd H a (.dK (putK b k v))):=.inl #[b,k,e,rfl,c,rfl]
def DPut.t{k:ϊ Key}{v:V}(e:H a=!(.dT kvs))(c:H b=!(.tup (k.map kV)))(d:↑kvs<sizeLine):
  DPut H a (.ref b) v (upd H a (.dT (putK kvs k v))):=.inr #[kvs,k,b,e,rfl,c,d,rfl]
section
variable{X:Cx}
theorem Inv.big(I:Inv X pins σ H s):sysModules<s.heap.objs.size:=by
 have h:mainGlobals<s.heap.objs.size:=(I.mod.glob.keeps I.bk).lt;show Ŭ (by decide) h
theorem CQ(t:A.units+1<cLine)(I:Inv X pins σ H s)(g:DGet H a y !v)(n:RelV y u)(h:∀f s',Inv X pins σ H s'->RelV v f->Q f s'):
  wpAny (model X.prog X.w) A (getItem (.ref a) u) Q E s:=by
 rcases g with⟨kvs,k,e,ey,l⟩|⟨kvs,k,b,e,ey,eb,l⟩
 .subst ey;let#[z,q,w,c,i]:=lR I.hok e;let#[f,m,d]:=RelO.some_of (v:=v) (o:=valueAt w k) (by rw[l];show c.val k);show wpAny_getItem_of (pK n) i.mapOf m (h f _ (I.tok _) d)
 .subst ey
  cases(show u=Value.ref b from n);let#[z,q,x,c,i]:=pL I.hok e;let#[f,m,d]:=RelO.some_of (v:=v) (o:=(atKey x k).map (·.2)) (by rw[l];show c.val k);let#[p,r,j]:=Ï.mp m;show wpAny_getItem_heap (ŋ t) (iJ I.hok eb) i r ?_;rw[j];show h f _ (I.tok _) d
theorem a0w(j:A.units+1<cLine)(I:Inv X pins σ H s)(g:DGet H a y o)(i:RelV y u)(h:∀s',Inv X pins σ H s'->Q (.bool o.isSome) s'):
  wpAny (model X.prog X.w) A (compareOp .In u (.ref a)) Q E s:=by
 rcases g with⟨kvs,k,e,ey,l⟩|⟨kvs,k,b,e,ey,eb,l⟩
 .subst ey;let#[z,f,m,c,d]:=lR I.hok e;show wpAny_in_of (pK i) f d.mapOf ?_;rw[<-(c.val k).isSome_eq,<-l];show h _ (I.tok _)
 .subst ey
  cases(show u=Value.ref b from i);let#[z,f,n,c,d]:=pL I.hok e;show wpAny_in_heap (ŋ j) (iJ I.hok eb) f d ?_;have q:=(c.val k).isSome_eq;rw[ś]at q;rw[<-q,<-l];show h _ (I.tok _)
theorem Og(j:A.units+1<cLine)(I:Inv X pins σ H s)(g:DGet H a y o)(i:RelV y u)(h:∀s',Inv X pins σ H s'->Q (.bool (not o.isSome)) s'):
  wpAny (model X.prog X.w) A (compareOp .NotIn u (.ref a)) Q E s:=by
 rcases g with⟨kvs,k,e,ey,l⟩|⟨kvs,k,b,e,ey,eb,l⟩
 .subst ey;let#[z,f,m,c,d]:=lR I.hok e;show wpAny_notIn_of (pK i) f d.mapOf ?_;rw[<-(c.val k).isSome_eq,<-l];show h _ (I.tok _)
 .subst ey
  cases(show u=Value.ref b from i);let#[z,f,n,c,d]:=pL I.hok e;show wpAny_notIn_heap (ŋ j) (iJ I.hok eb) f d ?_;have q:=(c.val k).isSome_eq;rw[ś]at q;rw[<-q,<-l];show h _ (I.tok _)
theorem iK{i:Nat}(I:Inv X pins σ H s)(h:Xz (H a))(g:Heap.SameBut a s.heap h')(f:∃q,h'.get? a=!q)(c:ObjOk X.prog X.w (upd H a ob) h' a ob):
  Inv X pins σ (upd H a ob) {s with heap:=h',toks:=i}:=
 I.write (x:=a) (e:=a) h (.inl rfl) (λb q d z=>(g.2 b d).trans z) f c
def G3{b:ϊ (Key×V)}{d:ϊ (Key×ϋ)}(z:↑b<=sizeLine)(f:(a==sysModules)=false)(c:KV b d)(e:h'.DictOf (bf P w) a d):
  ObjOk P w H' h' a (.dK b):=#[z,f,d,c,e]
theorem CT{Q:Unit->ώ->Prop}(M:A.units+1<cLine)(I:Inv X pins σ H s)(g:DPut H a y v H')(B:RelV y u)(x:RelV v r)(h:∀s',Inv X pins σ H' s'->Q Unit.unit s'):
  wpAny (model X.prog X.w) A (setItem (.ref a) u r) Q E s:=by
 rcases g with⟨kvs,k,e,ey,l,eH⟩|⟨kvs,k,b,e,ey,eb,l,eH⟩
 .subst ey eH;let#[z,m,N,d,j]:=R7 I.hok e;have p:↑N<=sizeLine:=by rw[<-↑d];show z
  have n:↑(putK kvs k v)<=sizeLine:=by have:=jn kvs k v;rfl'
  show wpAny_setItem_pairs (hsz:=p) (pK B) j λw f o=>h _ ?_
  have L:∃q,w.get? a=!q:=let⟨q,_,_,i,_⟩:=f;#[q,i];show iK I (by rw[e];show True.intro) o L (G3 n m (d.put k x) f)
 .subst ey eH
  cases(show u=Value.ref b from B);let#[z,m,O,d,j]:=rZ I.hok e;have p:↑O<=sizeLine:=by rw[<-Ď d];show z
  have n:↑(putK kvs k v)<=sizeLine:=by have:=jn kvs k v;rfl'
  show wpAny_setItem_heap (hsz:=p) (ŋ M) (iJ I.hok eb) j λw f o=>h _ ?_
  let#[q,D,C,i,F,G,J,_,K]:=f;show iK I (by rw[e];show True.intro) o ⟨q,i⟩ ⟨n,m,_,(d.put k eb x).keeps λc P t=>?_,q,D,C,i,F,G,J,K⟩;rw[ao (fZ t e (λz=>nomatch z))];show t
end
def U0(i:Expr):Prop:=∀ov iv,subscripted i false ov iv=operate [ov,iv] (getItem ov iv)
theorem Af{b a:Expr}
  (k:typeLookup (.type T) "__getitem__"=pure !(.builtin m)) (l:U0 a)
  (h:wpAny (model prog w) A (eval b e) (λo s₁=>wpAny (model prog w) A (eval a e) (λi s₂=>s₂.TypeIs o T/\wpAny (model prog w) A (getItem o i) Q E s₂) E s₁) E s):
  wpAny (model prog w) A (eval (.Subscript b a pos) e) Q E s:=by
 show Subscript_ (đ h (λo s₁ f=>đ f (λi s₂ c=>?_) λ_ _ x=>x) λ_ _ x=>x);let#[j,c]:=c;unfold subscriptTail;show Zp ?_;rw[getitemInPython_of_ne j.not_modules];show Zp (Θ j k ?_);have fin:wpAny (model prog w) A (subscripted a false o i) (λr d=>wpAny (model prog w) A (letTemporaryGo b o r>>=λ_=>pure r) Q E d) E s₂:=by
  rw[l o i];show wpAny_operating (đ c (λr d g=>Zp (wpAny_letTemporaryGo (Á g))) λ_ _ x=>x)
 first
  |show Á (Zp fin)
  |show Zp (Á (Zp fin))
  |show Zp fin
theorem vK{X:Cx}(I:Inv X pins σ H s)(g:DGet H a y o):s.TypeIs (.ref a) "dict":=by
 rcases g with⟨kvs,k,e,_,_⟩|⟨kvs,k,b,e,_,_,_⟩
 .obtain ⟨_,_,d,_,c⟩:=lR I.hok e;show c.typeIs
 .obtain ⟨_,_,f,_,c⟩:=pL I.hok e;show c.typeIs
abbrev gm(td ty:TE):TE:=λσ H Q=>td σ H λx H1=>ty σ H1 λy H2=>∃a v,x=.ref a/\DGet H2 a y !v/\Q v H2
abbrev Oh(ty td:TE):TE:=λσ H Q=>ty σ H λy H1=>td σ H1 λx H2=>∃a o,x=.ref a/\DGet H2 a y o/\Q (.bl o.isSome) H2
abbrev iM(ty td:TE):TE:=λσ H Q=>ty σ H λy H1=>td σ H1 λx H2=>∃a o,x=.ref a/\DGet H2 a y o/\Q (.bl (not o.isSome)) H2
abbrev jb(td ty tv:TE):TS:=λD σ H=>tv σ H λv H1=>td σ H1 λx H2=>ty σ H2 λy H3=>∃a H4,x=.ref a/\DPut H3 a y v H4/\D.nx σ H4
section
variable{X:Cx}
theorem cP(r:X.A.units+1<cLine)(p:PE X o td)(n:PE X i ty)(q:U0 i):PE X (.Subscript o i pos) (gm td ty):=by
 intro b s e H Q I h;show Af PySem.F.slot_dict_getitem.lookup q (bA (p b s e H _ I h) λu B ob=>?_);let#[x,f,k,z,t]:=ob;show bA (n b B e f _ k t) λC D ob=>?_
 let#[y,j,d,A,a,v,m,g,w]:=ob;subst m;obtain rfl:u=Value.ref a:=z;show#[vK d g,CQ r d g A λF E l c=>#[v,j,l,c,w]]
theorem yj(p:X.A.units+1<cLine)(m:PE X i ty)(n:PE X o td):PC X .In i o (Oh ty td):=by
 intro b s c H Q I h;show bA (m b s c H _ I h) λz w ob=>?_
 let#[y,d,f,v,q]:=ob;show bA (n b w c d _ f q) λu A ob=>?_
 let#[x,e,j,t,a,ov,l,g,r]:=ob;subst l;obtain rfl:u=Value.ref a:=t;show a0w p j g v λB k=>#[.bl ov.isSome,e,k,rfl,r]
theorem ie(p:X.A.units+1<cLine)(m:PE X i ty)(n:PE X o td):PC X .NotIn i o (iM ty td):=by
 intro b s c H Q I h;show bA (m b s c H _ I h) λz w ob=>?_
 let#[y,d,f,v,q]:=ob;show bA (n b w c d _ f q) λu A ob=>?_
 let#[x,e,j,t,a,ov,l,g,r]:=ob;subst l;obtain rfl:u=Value.ref a:=t;show Og p j g v λB k=>#[.bl (not ov.isSome),e,k,rfl,r]
theorem dM(w:X.A.units+1<cLine)(q:PE X o td)(p:PE X i ty)(z:PE X value tv)(t:swapsWith value (!(.Subscript o i pos')) pos.line X.env=pure false):
  PS X (.Assign [.Subscript o i pos'] value pos) (jb td ty tv):=by
 intro b s c H D I h;show wpAny_Assign_Subscript (bA (z b s c H _ I h) λr J ⟨v,d,j,E,A⟩=>bA (q b J c d _ j A) λu K ⟨x,e,k,F,B⟩=>bA (p b K c e _ k B) λM N ⟨y,L,l,G,a,f,n,g,C⟩=>?_) t;subst n;obtain rfl:u=Value.ref a:=F;show CT w l g G E λO m=>#[c,f,m,C]
end
def vL(h:ϒ)(a:sysModules<h.objs.size):ObjOk P w H (h.push {cls:=.type "dict",data:=.dict ([].toArray)}) h.objs.size (.dK []):=
 #[Nat.zero_le _,ń.mpr (Ne.symm (ã a)),[],.nil,Heap.DictOf.new h]
def vM(h:ϒ)(a:sysModules<h.objs.size):ObjOk P w H (h.push {cls:=.type "dict",data:=.dict ([].toArray)}) h.objs.size (.dT []):=
 #[Nat.zero_le _,ń.mpr (Ne.symm (ã a)),[],.nil,_,([].toArray),0,Ë _ rfl,#[rfl,rfl,rfl],rfl,rfl,Ÿ]
abbrev kJ:TE:=λ_ H Q=>∀p,H p=none->Q (.ref p) (upd H p (.dK []))
abbrev u9:TE:=λ_ H Q=>∀p,H p=none->Q (.ref p) (upd H p (.dT []))
section
variable{X:Cx}
theorem ig:PE X (.Dict [] [] pos) kJ:=λb s c H Q I h=>
 wpAny_Dict_empty #[.ref s.heap.objs.size,_,I.laid (a:=s.heap.objs.size) (o:=.dK []) (t':=s.toks) (λ_ _ q=>Ã _ q) (Ä _) (vL s.heap I.big),rfl,h _ (I.hok.fresh (Ä _))]
theorem pM:PE X (.Dict [] [] pos) u9:=λb s c H Q I h=>
 wpAny_Dict_empty #[.ref s.heap.objs.size,_,I.laid (a:=s.heap.objs.size) (o:=.dT []) (t':=s.toks) (λ_ _ q=>Ã _ q) (Ä _) (vM s.heap I.big),rfl,h _ (I.hok.fresh (Ä _))]
end
def yl:ϊ (TE×TE)->St->Hp->(ϊ (V×V)->Hp->Prop)->Prop
 |[],_,H,Q=>Q [] H
 |(tk,tv)::r,σ,H,Q=>tk σ H λx H1=>tv σ H1 λy H2=>yl r σ H2 λps H3=>Q ((x,y)::ps) H3
abbrev VV:ϊ (V×V)->ϊ (ϋ×ϋ)->Prop:=Paired λp q=>RelV p.1 q.1/\RelV p.2 q.2
def PPs(X:Cx)(pos:Pos)(keys:ϊ (ύ Expr))(values:ϊ Expr)(trs:ϊ (TE×TE)):Prop:=
 ∀(pins:ϸ)(s:ώ)(σ:St)(H:Hp)(Q:ϊ (V×V)->Hp->Prop),Inv X pins σ H s->yl trs σ H Q->
  wpAny (model X.prog X.w) X.A (evalPairs (pairTrees keys values X.env pos)) (λvs s'=>∃ps H',Inv X pins σ H' s'/\VV ps vs/\Q ps H') X.xe s
theorem Ag{X:Cx}:PPs X pos [] [] []:=λa s b H Q I h=>pairTrees_nil_walk #[[],H,I,.nil,h]
theorem vN{X:Cx}{d:ϊ (ύ Expr)}{f:TE}(p:PE X k e)(r:PE X v f)(q:PPs X pos d g trs):
  PPs X pos (some k::d) (v::g) ((e,f)::trs):=λa s c H Q I h=>
 pairTrees_cons_walk (bA (p a s c H _ I h) λu D ⟨x,i,m,B,w⟩=>bA (r a D c i _ m w) λG E ⟨y,j,n,C,z⟩=>
  bA (q a E c j _ n z) λJ F ⟨t,l,o,b,A⟩=>#[(x,y)::t,l,o,.cons #[B,C] b,A])
def jo(kvs more:ϊ (Key×V)):ϊ (Key×V):=more.foldl (λacc kv=>putK acc kv.1 kv.2) kvs
theorem KV.merge:∀{a:ϊ (Key×V)}{rs:ϊ (Key×ϋ)}{kvs:ϊ (Key×V)}{vs:ϊ (Key×ϋ)},KV a rs->KV kvs vs->KV (jo kvs a) (merged vs rs):=by
 intro a rs kvs vs r;unfold KV at r;induction r generalizing kvs vs with
 |nil=>intro q;show q
 |@cons p q ps qs h t ih=>
  intro b;have e:KV (putK kvs p.1 p.2) (stored vs q.1 q.2):=by
   have:=b.put p.1 h.2;rw[<-h.1];show this
  show ih e
theorem jU:∀(a kvs:ϊ (Key×V)),↑(jo kvs a)<=↑kvs+↑a
 |[],kvs=>by change↑kvs<=↑kvs+0;rfl'
 |p::r,kvs=>by
  have b:=jU r (putK kvs p.1 p.2);have c:=jn kvs p.1 p.2;change↑(jo (putK kvs p.1 p.2) r)<=_;rw[í];rfl'
theorem pN{w:ϕ}:∀{kvs:ϊ (Key×V)}{e:ϊ (ϋ×ϋ)},VV (kvs.map λd=>(kV d.1,d.2)) e->∃rs,Carries (bf P w) e rs/\KV kvs rs
 |[],_,r=>by rw[Ĕ]at r;cases r;show⟨[],True.intro,.nil⟩
 |p::kvs,_,r=>by
  rw[È]at r
  cases r with
  |@cons a b as bs h t=>
   let#[rs,c,q]:=pN (P:=P) (w:=w) t;let#[g,f]:=b;show#[(p.1,f)::rs,#[pK h.1,rfl,c],.cons #[rfl,h.2] q]
abbrev R8(trs:ϊ (TE×TE)):TE:=λσ H Q=>∀p,H p=none->yl trs σ (upd H p (.dK [])) λps H2=>H2 p=!(.dK [])/\∃kvs:ϊ (Key×V),ps=kvs.map (λkv=>(kV kv.1,kv.2))/\↑kvs<=15/\Q (.ref p) (upd H2 p (.dK (jo [] kvs)))
theorem Oi{X:Cx}{b:ϊ (ύ Expr)}(h:PPs X pos b values trs)(f:b.all (·.isSome)=true)(x:↑b=↑values)(r:b≠[])
  (j:↑b<=15):PE X (.Dict b values pos) (R8 trs):=by
 intro i s J H Q I q;have y:=I.hok.fresh (Ä s.heap.objs.size);have m:=I.laid (a:=s.heap.objs.size) (o:=.dK []) (h':=s.heap.push {cls:=.type "dict",data:=.dict ([].toArray)}) (t':=s.toks) (λ_ _ q=>Ã _ q) (Ä _) (vL s.heap I.big);show wpAny_Dict_walk (knd:=bf X.prog X.w) f x r j (bA (h i _ J _ _ m (q _ y)) λN M ob=>?_);let#[L,K,l,k,e,g,p,lk,C]:=ob;subst p;let#[F,c,E]:=pN (P:=X.prog) (w:=X.w) k;let#[z,u,G,D,n]:=R7 l.hok e
 cases D;show#[F,c,n,λh' d A=>#[.ref s.heap.objs.size,_,?_,rfl,C]];have B:↑(jo [] g)<=sizeLine:=by
  have t:=jU g [];rw[ű]at t;rw[ĉ];rfl'
 have v:∃q,h'.get? s.heap.objs.size=!q:=let⟨q,_,_,hq,_⟩:=d;#[q,hq];show iK l (by rw[e];show True.intro) A v (G3 B u (E.merge .nil) d)
structure M1(X:Cx)(o:Expr)(m:ϐ)(apos:Pos)(e:Expr)(cpos:Pos):Prop where
 base:attributeBase o m X.env (eval o X.env)=eval o X.env
 few:((backTo cpos (starEach [e] X.env)).all (λx=>not x.1)&&(backToKw cpos (keywordEach [] X.env)).all (λx=>x.1.isSome)
  &&decide (↑([e]:ϊ Expr)+↑([]:ϊ Keyword)+(if([]:ϊ Keyword).isEmpty then 0 else 1)<30))=true
 line:(apos.endLine==cpos.line)=true
 trees:backTo cpos (starEach [e] X.env)=[(false,eval e X.env)]
structure M2(X:Cx)(o:Expr)(m:ϐ)(apos:Pos)(e f:Expr)(cpos:Pos):Prop where
 base:attributeBase o m X.env (eval o X.env)=eval o X.env
 few:((backTo cpos (starEach [e,f] X.env)).all (λx=>not x.1)&&(backToKw cpos (keywordEach [] X.env)).all (λx=>x.1.isSome)
  &&decide (↑([e,f]:ϊ Expr)+↑([]:ϊ Keyword)+(if([]:ϊ Keyword).isEmpty then 0 else 1)<30))=true
 line:(apos.endLine==cpos.line)=true
 trees:backTo cpos (starEach [e,f] X.env)=[(false,eval e X.env),(false,eval f X.env)]
def Y6(H:Hp)(a:ό):Prop:=(∃kvs,Rd H a (.dK kvs))\/∃kvs,Rd H a (.dT kvs)
theorem uc{X:Cx}(I:Inv X pins σ H s)(d:Y6 H a):
  s.TypeIs (.ref a) "dict"/\(∀b,Value.ref a=.ref b->∃ob,s.heap.get? b=!ob/\ob.dict=none)/\(a==sysModules)=false:=by
 rcases d with⟨kvs,e⟩|⟨kvs,e⟩
 .obtain ⟨_,h,i,_,c⟩:=lR I.hok e;show#[c.typeIs,λb q=>?_,h]
  cases q;let#[ob,_,_,f,g,_]:=c;show#[ob,f,g.2.1]
 .obtain ⟨_,h,j,_,c⟩:=pL I.hok e;show#[c.typeIs,λb q=>?_,h]
  cases q;let#[ob,_,_,f,g,_]:=c;show#[ob,f,g.2.1]
section
variable{X:Cx}{pins:ϸ}{σ:St}{H:Hp}{s:ώ}{a:ό}{y d:V}{u r:ϋ}{o:ύ V}{A:ϖ}{E:϶}
theorem U3(p:A.units+1<cLine)(I:Inv X pins σ H s)(g:DGet H a y o)(m:RelV y u)(j:RelV d r)(h:∀n s',Inv X pins σ H s'->RelV (o.getD d) n->Q n s'):
  wpAny (model X.prog X.w) A (call (.builtin "dict.get") [.ref a,u,r]) Q E s:=by
 rcases g with⟨kvs,k,e,ey,l⟩|⟨kvs,k,b,e,ey,eb,l⟩
 .subst ey;let#[z,i,t,c,f]:=lR I.hok e;show call_meetsIn ő f.typeIs δ (PySem.F.args_dict_get_3 _ _ _) (meets_dict_get_default (bf X.prog X.w) a (pK m) i r) #[_,f.mapOf,h _ _ (I.tok _) ?_];rw[l];show(c.val k).getD j
 .subst ey
  cases(show u=Value.ref b from m);let#[z,i,q,c,f]:=pL I.hok e;show call_meetsIn ő f.typeIs δ (PySem.F.args_dict_get_3 _ _ _) (meetsH_dict_get_default (tupleKind (bf X.prog X.w)) a b i r) #[tupleKind_room_in1 p,k,q,iJ I.hok eb,f,h _ _ (I.tok _) ?_];rw[l];show(c.val k).getD j
end
abbrev G4(td ty tx:TE):TE:=λσ H Q=>td σ H λx H1=>∃a,x=.ref a/\Y6 H1 a/\ty σ H1 λy H2=>tx σ H2 λz H3=>∃o,DGet H3 a y o/\Q (o.getD z) H3
section
variable{X:Cx}{o e f:Expr}{apos cpos:Pos}{td ty tx:TE}
theorem G5(B:X.A.units+1<cLine)(A:PE X o td)(v:PE X e ty)(w:PE X f tx)(m:M2 X o "get" apos e f cpos):PE X (.Call (.Attribute o "get" apos) [e,f] [] cpos) (G4 td ty tx):=by
 intro b s i H Q I h;show ε m.base m.few m.line Ĥ ő PySem.F.type_dict_get (bA (A b s i H _ I h) λu K ob=>?_);let#[x,k,j,F,a,t,d,C]:=ob;subst t;obtain rfl:u=Value.ref a:=F;let#[M,N,_]:=uc j d;show#[M,N,?_];rw[m.trees];show ċ rfl (Ś (Ģ (bA (v b K i k _ j C) λP L ⟨y,l,p,G,D⟩=>
  Ģ (bA (w b L i l _ p D) λO R ⟨z,n,q,J,ov,g,E⟩=>ř ?_))))
 show U3 B q g G J λT S r c=>#[_,n,r,c,E]
end
end L2
set_option linter.all false
namespace Bm
variable{i k n:Nat}
def popF:Nat->Nat->Nat
 |0,_=>0
 |k+1,n=>n%2+popF k (n/2)
def pop(n:Nat):=popF n n
theorem popZ:∀k,popF k 0=0
 |0=>rfl
 |k+1=>(Nat.zero_add _).trans (popZ k)
theorem popK:∀{k j n:Nat},n<=k->n<=j->popF k n=popF j n
 |0,j,n,h,_=>by cases Nat.le_zero.mp h;exact (popZ j).symm
 |k+1,0,n,_,h=>by cases Nat.le_zero.mp h;exact popZ _
 |k+1,j+1,n,h,i=>congrArg (n%2+·) (popK (k:=k) (j:=j) (by omega) (by omega))
def jq:pop 0=0:=rfl
theorem mL(n:Nat):pop n=n%2+pop (n/2):=by
 cases n with
 |zero=>rfl
 |succ n=>exact congrArg ((n+1)%2+·) (popK (by omega) (Nat.le_refl _))
theorem ud(m:Nat):pop (2*m)=pop m:=by
 rw[mL,show 2*m%2=0 by rfl',show 2*m/2=m by rfl',Ū]
theorem Oj(m:Nat):pop (2*m+1)=pop m+1:=by
 rw[mL,show(2*m+1)%2=1 by rfl',show(2*m+1)/2=m by rfl',ļ]
theorem G6(a b:Nat):(2*a)&&&(2*b+1)=2*(a&&&b):=by
 apply ĥ;intro i
 cases i with
 |zero=>simp[Ŕ]
 |succ i=>
  rw[Ŕ,ķ,ķ,ķ,show 2*a/2=a by rfl',show(2*b+1)/2=b by rfl',show 2*(a&&&b)/2=(a&&&b)by rfl',Ŕ]
theorem U4(a b:Nat):(2*a+1)&&&(2*b)=2*(a&&&b):=by rw[Nat.and_comm,G6,Nat.and_comm]
theorem Ol(n:Nat)(h:0<n):pop (n&&&(n-1))+1=pop n:=by
 induction n using Nat.strongRecOn with
 |ind n ih=>
  rcases Ō n with e|e
  .obtain ⟨m,rfl⟩:∃m,n=2*m:=#[n/2,()];have q:=ih m () ();rw[show 2*m-1=2*(m-1)+1 by rfl',G6,ud,ud];show q
  .obtain ⟨m,rfl⟩:∃m,n=2*m+1:=#[n/2,()];rw[show 2*m+1-1=2*m by rfl',U4,Nat.and_self,ud,Oj]
def U5(n:Nat)(h:0<n):n&&&(n-1)<n:=Õ Nat.and_le_right ()
theorem vO:∀(k n:Nat),n<2^k->↑((List.range k).filter λi=>n.testBit i)=pop n
 |0,n,h=>by
  have e:n=0:=by simpa using h
  subst e;simp[jq]
 |k+1,n,h=>by
  have q:=vO k (n/2) (by rw[Nat.pow_succ]at h;rfl');rw[ζ,mL n,<-q,ĸ];have e:((List.range k).map Nat.succ).filter (λi=>n.testBit i)=((List.range k).filter λi=>(n/2).testBit i).map Nat.succ:=by
   rw[List.filter_map];congr 1;apply List.filter_congr;intro x _;simp[Function.comp,ķ]
  rw[e];rcases Ō n with z|z
  .have t:n.testBit 0=false:=by simp[Nat.testBit_zero,z]
   simp[t,z]
  .have t:n.testBit 0=true:=by simp[Nat.testBit_zero,z]
   simp[t,z];rfl'
theorem vP(a b:Nat):(a^^^b)/2=(a/2)^^^(b/2):=by
 apply ĥ;intro i;simp[<-ķ,Ų]
theorem dj(x:Nat):x%2=(x.testBit 0).toNat:=by
 rcases Ō x with h|h<;>simp[Nat.testBit_zero,h]
theorem Om(a b:Nat):(a^^^b)%2=(a%2+b%2)%2:=by
 rw[dj (a^^^b),dj a,dj b,Ų]
 cases a.testBit 0<;>cases b.testBit 0<;>rfl
theorem Oo(a:Nat):∀b:Nat,pop (a^^^b)<=pop a+pop b:=by
 induction a using Nat.strongRecOn with
 |ind a ih=>
  intro b;by_cases z:a=0
  .subst z;simp[jq]
  .have q:=ih (a/2) () (b/2);rw[mL (a^^^b),mL a,mL b,vP,Om];rfl'
theorem Oq(a b c:Nat):pop (a^^^c)<=pop (a^^^b)+pop (b^^^c):=by
 have e:a^^^c=(a^^^b)^^^(b^^^c):=by
  apply ĥ;intro i;simp only[Ų]
  cases a.testBit i<;>cases b.testBit i<;>cases c.testBit i<;>rfl
 rw[e];show Oo _ _
def lU(xs:ϊ Nat):Nat:=xs.foldl (λa i=>a|||2^i) 0
theorem Y7(b:ϊ Nat):∀(a i:Nat),(b.foldl (λa i=>a|||2^i) a).testBit i=(a.testBit i||decide (i∈b)):=by
 induction b with
 |nil=>intro a i;simp
 |cons x r ih=>
  intro a i;rw[Ń,ih,Nat.testBit_or,Nat.testBit_two_pow];simp only[Ç,Bool.decide_or,Bool.or_assoc];congr 1;by_cases e:x=i
  .subst e;simp
  .simp [e,Ne.symm e]
theorem U7(a:ϊ Nat)(i:Nat):(lU a).testBit i=decide (i∈a):=by
 unfold lU;rw[Y7];simp
theorem Ot(a:ϊ Nat)(x:Nat):lU (a++[x])=lU a|||2^x:=by unfold lU;rw[Ŀ];rfl
def bits(k n:Nat):ϊ Nat:=(List.range k).filter λi=>n.testBit i
theorem lV:i∈bits k n↔i<k/\n.testBit i=true:=by simp[bits]
theorem Ou(h:n<2^k)(a:n.testBit i=true):i<k:=by
 apply Decidable.byContradiction;intro z;have q:n.testBit i=false:=Nat.testBit_lt_two_pow (Ñ h (Nat.pow_le_pow_right () ()));rw[q]at a;cases a
theorem Ov(h:n<2^k):lU (bits k n)=n:=by
 apply ĥ;intro i;rw[U7]
 cases e:n.testBit i with
 |true=>simp[lV,e,Ou h e]
 |false=>simp[lV,e]
end Bm
set_option linter.all false
namespace Bx
open PySem
def iQ(m n:Nat):Builtin.bitAnd (m:Int) (n:Int)=((m&&&n:Nat):Int):=by
 rw[PyProof.Rows.bitAnd_pp () ()];simp
def G7(m n:Nat):(m|||n)+(m&&&n)=m+n:=by
 induction m using Nat.strongRecOn generalizing n with
 |ind m ih=>
  by_cases a:m=0
  .subst a;simp
  .have q:=ih (m/2) () (n/2);have b:(m|||n)/2=(m/2)|||(n/2):=by
    apply ĥ;intro i;simp[<-ķ,Nat.testBit_or]
   have c:(m&&&n)/2=(m/2)&&&(n/2):=by
    apply ĥ;intro i;simp[<-ķ,Ŕ]
   have d:(m|||n)%2+(m&&&n)%2=m%2+n%2:=by
    rw[Bm.dj (m|||n),Bm.dj (m&&&n),Bm.dj m,Bm.dj n,Nat.testBit_or,Ŕ]
    cases m.testBit 0<;>cases n.testBit 0<;>rfl
   rfl'
def su(m n:Nat):Builtin.bitOr (m:Int) (n:Int)=((m|||n:Nat):Int):=by
 rw[PyProof.Rows.bitOr_and,iQ];have:=G7 m n;rfl'
def Ow(m n:Nat):(m^^^n)+2*(m&&&n)=m+n:=by
 induction m using Nat.strongRecOn generalizing n with
 |ind m ih=>
  by_cases a:m=0
  .subst a;simp
  .have q:=ih (m/2) () (n/2);have b:=Bm.vP m n;have c:(m&&&n)/2=(m/2)&&&(n/2):=by
    apply ĥ;intro i;simp[<-ķ,Ŕ]
   have d:(m^^^n)%2+2*((m&&&n)%2)=m%2+n%2:=by
    rw[Bm.dj (m^^^n),Bm.dj (m&&&n),Bm.dj m,Bm.dj n,Ų,Ŕ]
    cases m.testBit 0<;>cases n.testBit 0<;>rfl
   rfl'
def pO(m n:Nat):Builtin.bitXor (m:Int) (n:Int)=((m^^^n:Nat):Int):=by
 unfold Builtin.bitXor;rw[su,iQ];have a:=G7 m n;have b:=Ow m n;rfl'
def pP(k:Nat):((2^k:Nat):Int)=(2:Int)^k:=by simp
def Ox(n k:Nat):(n:Int)/2^k=((n/2^k:Nat):Int):=by
 rw[<-pP];rfl
def Oz(n k:Nat):Builtin.bitAnd ((n:Int)/2^k) 1=(((n.testBit k).toNat:Nat):Int):=by
 rw[Ox,show(1:Int)=((1:Nat):Int)from rfl,iQ,Nat.and_one_is_mod,Bm.dj];rw[show(n/2^k).testBit 0=n.testBit k by rw[Nat.testBit_div_two_pow];simp]
end Bx
section
namespace L2
open PySem PySem.Spec PyProof.Rows
variable{H:Hp}{σ:St}{ta:TA}{tl:TE}{wi:TI}{x:ϐ}{env:Env}{h':ϒ}{u:ϋ}{w:ϕ}{d:PyData}{b tg:Expr}{N':ϊ ϐ}{ch:ϊ ό}{i k n t':Nat}{us:ϊ ϋ}{ds:ϊ PyData}{p pos tpos:Pos}{C a i1 i2 z:ό}{elts ifs:ϊ Expr}{esc sc scope:Scope}{κ:ϊ (ύ Nat)}{m':ϐ->ύ ϋ}{pins:ϸ}{E:϶}{RR:ϋ->ό->Result->ώ->Prop}
abbrev blk(X:Cx)(sc:Scope)(N':ϊ ϐ)(cl:ϊ (ϐ×ό))(C:ό)(s:ώ)(H:Hp)(fp:ϊ ό)(pins:ϸ):Cx where
 prog:=X.prog
 w:=X.w
 K:=X.K
 mg:=X.mg
 base:=X.base
 A:=X.A
 N:=N'
 s₀:=s
 H₀:=H
 env:=compEnvC sc cl C X.env
 outer:=X.stack
 stack:=X.stack
 ex:=fp
 fn:=λ_=>false
 calm:=X.calm
 pn:=X.pn++pins
 xe:=λ_ _=>False
structure CScope(esc sc:Scope):Prop where
 kind:sc.kind=.function
 nocell:∀y∈sc.names,y.2≠.cell
 locs:∀y∈sc.names,y.2=.local->sc.names.lookup y.1=!.local
 frees:∀y∈sc.names,y.2=.free->esc.names.lookup y.1=!.cell\/esc.names.lookup y.1=!.free
theorem mem_lookup{a:Type}{x:ϐ}{k:a}:∀{l:ϊ (ϐ×a)},l.lookup x=!k->(x,k)∈l
 |[],h=>by simp at h
 |(n,k')::r,h=>by
  rw[ģ]at h
  cases e:x==n with
  |true=>
   rw[e]at h;have b:x=n:=Ξ e;injection h with h
   subst b;subst h;show É
  |false=>
   rw[e]at h;show Ì _ (mem_lookup h)
theorem ue{env:Env}:∀(names:ϊ (ϐ×NameKind))(cs:ϊ (ϐ×ό)),(∀y∈names,y.2=.free->∃c,env.cells.lookup y.1=!c)->(∀x c,cs.lookup x=!c->env.cells.lookup x=!c)->
  ∃cl:ϊ (ϐ×ό),(forIn names cs λ(y:ϐ×NameKind) (r:ϊ (ϐ×ό))=>(if(y.2==NameKind.free)=true then(cellOf env y.1>>=λc=>pure (ForInStep.yield ((y.1,c)::r)))else pure (ForInStep.yield r):Sem (ForInStep (ϊ (ϐ×ό)))))=pure cl/\
   (∀x c,cl.lookup x=!c->env.cells.lookup x=!c)/\∀x c,env.cells.lookup x=!c->((x,NameKind.free)∈names\/cs.lookup x=!c)->cl.lookup x=!c
 |[],cs,_,hcs=>#[cs,rfl,hcs,λx c _ h=>h.elim (λz=>nomatch z) id]
 |(n,k) ::r,cs,hf,hcs=>by
  have f:∀y∈r,y.2=.free->∃c,env.cells.lookup y.1=!c:=λy s=>hf y (Ì _ s)
  by_cases o:k=.free
  .subst o;let#[c,l]:=hf (n,.free) É rfl;have q:cellOf env n=pure c:=by
    have m:env.cells.lookup n=!c:=l;unfold cellOf;rw[m]
   have d:∀x a,((n,c)::cs).lookup x=!a->env.cells.lookup x=!a:=λx a h=>by
    rw[ģ]at h
    cases e:x==n with
    |true=>
     rw[e]at h;injection h with h
     have b:x=n:=Ξ e;subst b;subst h;show l
    |false=>rw[e]at h;show hcs x a h
   let#[cl,e,i,j]:=ue r ((n,c)::cs) f d;show#[cl,?_,i,λx a g hm=>j x a g ?_]
   .rw [ý];simp-iota only[beq_self_eq_true,ľ];rw[q];show e
   .rw [ģ]
    cases ex:x==n with
    |true=>
     right;have b:x=n:=Ξ ex;subst b;show l.symm.trans g
    |false=>
     rcases hm with hm|hm
     .rcases Ç.mp hm with z|z
      .have b:x=n:=Ý Prod.fst z;subst b;rw[beq_self_eq_true]at ex
       cases ex
      .show .inl z
     .show .inr hm
  .obtain ⟨cl,e,i,j⟩:=ue r cs f hcs;have p:(k==NameKind.free)=false:=by
    cases k<;>first|rfl|show absurd rfl o
   show#[cl,?_,i,λx a g hm=>j x a g ?_]
   .rw [ý];simp-iota only[p,ä,Ć];show e
   .rcases hm with hm|hm
    .rcases Ç.mp hm with z|z
     .show absurd (Ý Prod.snd z).symm o
     .show .inl z
    .show .inr hm
theorem Ah(f:∀y∈sc.names,y.2=.free->∃c,env.cells.lookup y.1=!c):
  ∃cl:ϊ (ϐ×ό),closureFor sc env=pure cl/\(∀x c,cl.lookup x=!c->env.cells.lookup x=!c)/\∀x c,env.cells.lookup x=!c->(x,NameKind.free)∈sc.names->cl.lookup x=!c:=by
 let#[cl,e,b,d]:=ue (env:=env) sc.names [] f (λx c h=>by simp at h);show#[cl,?_,b,λx c i g=>d x c i (.inl g)];have q:closureFor sc env=((forIn sc.names [] λ(y:ϐ×NameKind) (r:ϊ (ϐ×ό))=>(if(y.2==NameKind.free)=true then(cellOf env y.1>>=λc=>pure (ForInStep.yield ((y.1,c)::r)))else pure (ForInStep.yield r):Sem (ForInStep (ϊ (ϐ×ό)))))>>=λa=>pure a):=by
  first
   |rfl
   |(unfold closureFor;congr 1)
 rw[q,e];rfl
theorem fP{env:Env}{x:ϐ}:∀{names:ϊ (ϐ×NameKind)},
  (names.map λ(n,k)=>if(k==NameKind.free&&env.scope.kind==.function&&env.kindOf n==!.cell)then(n,NameKind.cell)else(n,k)).lookup x=
   (names.lookup x).map λk=>if(k==NameKind.free&&env.scope.kind==.function&&env.kindOf x==!.cell)then NameKind.cell else k
 |[]=>rfl
 |(n,k) ::r=>by
  have c:=fP (env:=env) (x:=x) (names:=r);change List.lookup x ((if(k==NameKind.free&&env.scope.kind==.function&&env.kindOf n==!.cell)=true then(n,NameKind.cell)else(n,k))::_)=_;rw[ģ (b:=k)]
  cases hx:x==n with
  |true=>
   have e:x=n:=Ξ hx;subst e;by_cases a:(k==NameKind.free&&env.scope.kind==.function&&env.kindOf x==!.cell)=true
   .rw [if_pos a,ģ,hx];change some NameKind.cell=!(if(k==NameKind.free&&env.scope.kind==.function&&env.kindOf x==!.cell)=true then NameKind.cell else k);rw[if_pos a]
   .rw [if_neg a,ģ,hx];change some k=!(if(k==NameKind.free&&env.scope.kind==.function&&env.kindOf x==!.cell)=true then NameKind.cell else k);rw[if_neg a]
  |false=>
   by_cases a:(k==NameKind.free&&env.scope.kind==.function&&env.kindOf n==!.cell)=true
   .rw [if_pos a,ģ,hx];show c
   .rw [if_neg a,ģ,hx];show c
theorem CScope.free_of(S:CScope esc sc)(h:(relabel sc env).names.lookup x=!.cell\/(relabel sc env).names.lookup x=!.free):(x,NameKind.free)∈sc.names:=by
 have q:(relabel sc env).names.lookup x=_:=fP (env:=env) (x:=x) (names:=sc.names);rw[q]at h
 cases e:sc.names.lookup x with
 |none=>rw[e]at h;simp at h
 |some k=>
  have a:=mem_lookup e;have b:=S.nocell _ a
  cases k with
  |free=>show a
  |cell=>show absurd rfl b
  |_=>rw[e]at h;simp at h
theorem CScope.cell_of(S:CScope esc sc)(a:env.scope=esc)(b:env.scope.kind=.function)(h:sc.names.lookup x=!.free):(relabel sc env).names.lookup x=!.cell\/(relabel sc env).names.lookup x=!.free:=by
 have q:(relabel sc env).names.lookup x=_:=fP (env:=env) (x:=x) (names:=sc.names);rw[q,h];simp-iota only[Œ];split
 .show .inl rfl
 .show .inr rfl
def cap(κ:ϊ (ύ Nat))(σ:St):St:=κ.map λo=>o.bind λi=>(σ[i]?).join
def capOk(κ:ϊ (ύ Nat))(N' N:ϊ ϐ)(sc:Scope):ϑ:=
 decide (↑κ=↑N')&&(κ.zip N').all λp=>match p.1 with
  |none=>true
  |some i=>N[i]? ==some p.2&&sc.names.lookup p.2==!.free
theorem capOk.len(h:capOk κ N' N sc=true):↑κ=↑N':=by
 unfold capOk at h;rw[Ă]at h;show æ h.1
theorem capOk.at{b:ϊ (ύ Nat)}(h:capOk b c N f=true){j:Nat}{d:St}(g:c[j]?=!y)(a:(cap b d)[j]?=!(!v)):
  ∃i:Nat,N[i]?=!y/\d[i]?=!(!v)/\f.names.lookup y=!.free:=by
 unfold capOk at h;rw[Ă,ż]at h;unfold cap at a;rw[Jn]at a
 cases e:b[j]?with
 |none=>rw[e]at a;simp at a
 |some o=>
  rw[e]at a;simp only[Œ,Option.some.injEq]at a
  cases o with
  |none=>simp at a
  |some i=>
   have k:(!i,y)∈b.zip c:=Yf (i:=j) (by rw[List.getElem?_zip_eq_some];show#[e,g]);have q:=h.2 _ k;simp only[Ă,beq_iff_eq]at q;show#[i,q.1,?_,q.2];simp only[Option.bind_some]at a
   cases r:d[i]?with
   |none=>rw[r]at a;simp at a
   |some z=>rw[r]at a;simp at a;rw[a]
def oE(a b:St):Prop:=↑b=↑a/\∀(i:Nat) v,a[i]?=!(!v)->b[i]?=!(!v)
def G8(X:Cx)(ifs:ϊ Expr)(t:TT):Prop:=
 ∀(pins:ϸ)(s:ώ)(σ:St)(H:Hp)(Q:ϑ->Hp->Prop),Inv X pins σ H s->t σ H Q->
  wpAny (model X.prog X.w) X.A (forIn ifs true λc r=>if r=true then do let ok<-isTrue c X.env (eval c X.env);pure (ForInStep.yield ok)else pure (ForInStep.yield r)) (TP X pins σ Q) X.xe s
abbrev cZ:TT:=λ_ H Q=>Q true H
theorem bC{X:Cx}:G8 X [] cZ:=λa s b H Q I h=>wpAny_tests_nil #[H,I,h]
theorem fQ{X:Cx}(h:PT X c t):G8 X [c] t:=λa s b H Q I q=>wpAny_tests_one (h a s b H Q I q)
section
theorem uf{a i:Expr}{C l:ϋ}(I:Nat->ώ->Prop)
  (B:∀n s,I n s->wpAny (model prog w) A (pyNext C) (λr s₁=>match r with
   |none=>R (.ok .next) s₁
   |some v=>wpAny (model prog w) A (letOwnedTupleGo a C v) (λ_ d=>wpAny (model prog w) A (assign a env v) (λ_ s₂=>
     wpAny (model prog w) A (forIn ifs true λc r=>if r=true then do let ok<-isTrue c env (eval c env);pure (ForInStep.yield ok)else pure (ForInStep.yield r)) (λok e=>
      if ok=true then wpAny (model prog w) A (eval o env) (λx j=>
       wpAny (model prog w) A (call (.builtin "list.append") [l,x]) (λ_ k=>∃m,m<n/\I m k) (λ_ _=>False) j) (λ_ _=>False) e
      else ∃m,m<n/\I m e) (λ_ _=>False) s₂) (λ_ _=>False) d) (λ_ _=>False) s₁) (λ_ _=>False) s)
  (n:Nat) (h:I n s):
  codeAny (model prog w) A (.compLoop (.ListComp o [#[a,i,ifs,0]] scope pos) 0 C l env) R s:=by
 show codeAny_loop rfl I (λn s D=>?_) n h;change wpAny _ A ((compTurn (.ListComp o [#[a,i,ifs,0]] scope pos) 0 C l env).onRaise (λx=>do noteFrame x env;theTreesLotGoes x)) _ _ s;show wpAny_noted ?_;rw[compTurn_list];show đ (E:=λ_ _=>False) ?_ (λ_ _ q=>q) (λ_ _ z=>z.elim);show Zp (wpAny_standAt (Zp (đ (B n s D) (λr s₁ f=>?_) λ_ _ b=>b)))
 cases r with
 |none=>show Á f
 |some v=>
  show Zp (đ f (λ_ d p=>?_) λ_ _ b=>b);show Zp (đ p (λ_ s₂ t=>Zp (đ t (λok e g=>?_) λ_ _ b=>b)) λ_ _ b=>b)
  cases ok with
  |false=>show Á #[rfl,g]
  |true=>
   show Zp (Zp (đ g (λx j u=>Zp (đ u (λ_ k y=>Á (Á #[rfl,y])) λ_ _ b=>b)) λ_ _ b=>b))
end
theorem HOk.track(x:HOk P w H h)(g:H a=none)(d:ObjOk P w (upd H a o) h a o):HOk P w (upd H a o) h:=λb u e=>by
 by_cases f:b=a
 .subst f;rw[aa]at e;cases e;show d
 .rw [ao f]at e;show(x b u e).stay (λc v _ q=>q) (λc q=>by rw[ao (aU q g)];show q) λc i q=>by rw[ao (aU q g)];show q
section
variable{X:Cx}{pins:ϸ}{σ:St}{H2:Hp}{s₂:ώ}{tg iter elt:Expr}{ifs:ϊ Expr}{sc:Scope}{pos:Pos}{N':ϊ ϐ}{κ:ϊ (ύ Nat)}{cl:ϊ (ϐ×ό)}{it:ό}{fp:ϊ ό}{tn:Nat->ϒ->Prop}{J:It}{g:TG}{tc:TT}{te:TE}
theorem U8(I:Inv X pins σ H2 s₂)(g:∀b∈fp,mG X pins H2 b)(j:∀b∈fp,b<s₂.heap.objs.size)(S:CScope X.env.scope sc)
  (a:∀x c,cl.lookup x=!c->X.env.cells.lookup x=!c) (f:∀x c,X.env.cells.lookup x=!c->(x,NameKind.free)∈sc.names->cl.lookup x=!c) (i:s₂.heap.objs.size<=C):
  (blk X sc N' cl C s₂ H2 fp pins).Ok where
 mod:=I.mod
 kind:=S.kind
 glob:=I.ok.glob
 blt:=I.ok.blt
 above:=i
 inj:=λx y c k l=>I.ok.inj x y c (a _ _ k) (a _ _ l)
 has:=λx h=>by
  have e:=S.free_of (env:=X.env) h;let#[c,m]:=I.ok.has x (S.frees _ e rfl);show#[c,f x c m e]
 cab:=λx c h _=>by cases h
 hd:=I.ok.hd
 frames:=I.ok.frames
 stk:=.inl rfl
 exf:=λb d=>#[Nat.ne_of_lt (Ñ (j b d) i),λx c n=>(g b d).2.2.2.2.1 x c (a x c n)]
 bs:=I.bs
 bsz:=Î I.ok.bsz I.sz
 noex:=λb o d e=>by
  let#[_,_,_,h4,_]:=g b e;rcases h4 with h4|h4
  .show I.ok.noex b o d h4
  .show absurd (Ê (I.ok.bs b o d).1) (Nat.not_lt.mpr h4)
 exfs:=λb d e=>by
  rcases Ç.mp (I.stkSub b e)with z|z
  .show (g b d).2.1 z
  .show (g b d).2.2.1 z
 funs:=I.stack
 frf:=I.stkFree
theorem OD(I:Inv X pins σ H2 s₂)(D:∀b∈fp,mG X pins H2 b)(E:∀b∈fp,b<s₂.heap.objs.size)(S:CScope X.env.scope sc)(f:capOk κ N' X.N sc=true)
  (a:∀x c,cl.lookup x=!c->X.env.cells.lookup x=!c) (g:∀x c,X.env.cells.lookup x=!c->(x,NameKind.free)∈sc.names->cl.lookup x=!c) (k:s₂.heap.objs.size<=C)
  {T:Nat} (M:h'.Ns C m') (d:∀b o,s₂.heap.get? b=!o->h'.get? b=!o):
  Inv (blk X sc N' cl C s₂ H2 fp pins) [] (cap κ σ) H2 {s₂ with heap:=h',toks:=T} where
 ok:=U8 I D E S a g k
 os:=rfl
 bare:=I.bare
 base:=Un.kept d
 loc:=⟨m',M,λj y v Q P A=>by
  let#[i,K,O,t]:=capOk.at f Q P;have w:=mem_lookup t;have h:=S.frees _ w rfl;let#[m,_,L]:=I.loc;let#[u,R,lk]:=L i y v K O (.inr h);show#[u,R,.inr #[S.cell_of (env:=X.env) rfl I.ok.kind t,?_]];rcases lk with⟨hk,_⟩|⟨_,c,hc,hu⟩
  .have l:X.env.scope.names.lookup y=!.local:=hk;rcases h with z|z<;>(have B:X.env.scope.names.lookup y=_:=z;rw[l]at B;cases B)
  .obtain ⟨o,e,r⟩:=hu;show⟨c,g y c hc w,o,d _ _ e,r⟩⟩
 cell:=λx c q=>by
  let#[v,o,e,r]:=I.cell x c (a x c q);show#[v,o,d _ _ e,r]
 free:=I.hok.fresh k
 freeC:=λx c q=>I.freeC x c (a x c q)
 pin:=λp N=>by
  have n:p∈X.pn++pins:=by simpa using N
  let#[s,F,G,H,J]:=I.pin p n;show#[d _ _ s,F,ã (Ñ (Ê s) k),λz=>?_,J];rcases Ç.mp (I.stkSub p.1 z)with y|y
  .show G y
  .show H y
 hok:=I.hok.kept d
 len:=by
  change↑(cap κ σ)=↑N';unfold cap;rw[Qb];show capOk.len f
structure Left(X:Cx)(pins:ϸ)(σ:St)(C:ό)(H:Hp)(s:ώ):Prop where
 inv:Inv X pins σ H s
 ns:∃m,s.heap.Ns C m
 un:H C=none
 nl:C≠X.env.locals
 nf:C∉X.fs
 ab:X.s₀.heap.objs.size<=C
 nc:∀x c,X.env.cells.lookup x=!c->c≠C
 np:∀p∈X.pn++pins,p.1≠C
theorem Left.go(l:Left X pins σ C H s)(c:Heap.SameBut C s.heap h'):Inv X pins σ H {s with heap:=h'}:=
 l.inv.turned (t':=s.toks) (λb o a e=>c.extBut b o a e) l.un l.nl (.inr l.ab) l.nc l.np
theorem Ai(hc:X.calm=true)(I:Inv X pins σ H2 s₂)(T:Turn X.prog X.w X.K tg J fp it tn)(st:tn 0 s₂.heap)(G:∀b∈fp,mG X pins H2 b)
  (S:CScope X.env.scope sc) (am:capOk κ N' X.N sc=true) (w:∀x c,cl.lookup x=!c->X.env.cells.lookup x=!c) (ap:∀x c,X.env.cells.lookup x=!c->(x,NameKind.free)∈sc.names->cl.lookup x=!c)
  (hg:∀C,PG (blk X sc N' cl C s₂ H2 fp pins) tg g) (hi:∀C,G8 (blk X sc N' cl C s₂ H2 fp pins) ifs tc) (he:∀C,PE (blk X sc N' cl C s₂ H2 fp pins) elt te)
  {W:Nat->Nat->ϊ V->Hp->Prop} {Q:VK} {m0:Nat} (w0:W 0 m0 [] H2)
  (ay:∀i m ys H,W i m ys H->(J.stop i H/\∀p,H p=none->Q (.ref p) (upd H p (.lst ys)))\/
   (J.go i H/\↑ys<sizeLine/\∃N:ϊ V->Hp->Prop,(∀a1 H',N a1 H'->∃m',m'<m/\W (i+1) m' a1 H')/\∀x H',J.yld i H x H'->g x (cap κ σ) H' λag H2=>oE (cap κ σ) ag/\tc ag H2 λb B=>if b=true then te ag B λy H4=>N (ys++[y]) H4 else N ys B))
  (a7:∀D C H' s1,Left X pins σ C H' s1->Q (.ref D) H'->RR (.ref D) C (.ok .next) s1):
  wpAny (model X.prog X.w) X.A (newList []) (λai t=>wpAny (model X.prog X.w) X.A (newFunctionEnv sc X.env.globals cl [] X.env.qual none .none !X.env) (λR ax=>
   codeAny (model X.prog X.w) X.A (.compStart (.ListComp elt [#[tg,iter,ifs,0]] sc pos) 0 (.ref it) ai {R with scope:=relabel sc X.env}) (RR ai R.locals) ax) E t) E s₂:=by
 show ù (wpAny_newFunctionEnv S.nocell (by intro y hy;simp at hy) (λs k h=>?_) S.kind);dsimp only at k h⊢;generalize hH2:s₂.heap.push {cls:=.type "list",dict:=none,data:=.seq ([]:ϊ ϋ).toArray}=P2 at k h⊢;have K:P2.objs.size=s₂.heap.objs.size+1:=by rw[<-hH2,Ĭ]
 generalize hCe:P2.objs.size=C at k h K⊢;generalize hDe:s₂.heap.objs.size=D at K⊢;have L:D≠C:=by rw[K];show ã (Ĺ _)
 have hC:s₂.heap.objs.size<=C:=by rw[hDe,K];show Nat.le_succ _
 have hD:s₂.heap.objs.size<=D:=by rw[hDe];show Ä _
 have a:∀b,b<s₂.heap.objs.size->b≠C/\b≠D:=λb j=>#[Nat.ne_of_lt (Ñ j hC),ã (Ñ j hD)]
 have as:∀b o,s₂.heap.get? b=!o->s.get? b=!o:=λb o e=>h.extBut b o (a b (Ê e)).1 (Ã _ (hH2▸Ã _ e))
 have al:s.get? D=!{cls:=.type "list",data:=.seq ([]:ϊ ϋ).toArray ↑([]:ϊ ϋ)}:=by
  have q:P2.get? s₂.heap.objs.size=!{cls:=.type "list",data:=.seq ([]:ϊ ϋ).toArray 0}:=hH2▸Ë _ rfl;rw[hDe]at q;show h.extBut _ _ L (Ã _ q)
 have fl:∀b∈fp,b<s₂.heap.objs.size:=λb j=>by
  let#[o,e,_]:=T.obj 0 _ st b j;show Ê e
 have A:tn 0 s:=T.keep 0 _ _ st λb _ o e=>as b o e
 have IB:∀tk,Inv (blk X sc N' cl C s₂ H2 fp pins) [] (cap κ σ) H2 {s₂ with heap:=s,toks:=tk}:=λtk=>OD I G fl S am w ap hC k as
 have ac:∀x c,cl.lookup x=!c->c<s₂.heap.objs.size:=λx c M=>by
  let#[v,o,e,_]:=I.cell x c (w x c M);show Ê e
 have Z:∀p∈X.pn++pins,p.1<s₂.heap.objs.size:=λp l=>Ê (I.pin p l).1
 have ab:∀{H':Hp}{pl:ϸ},(∀b∈fp,H' b=none)->(∀p∈pl,p.1=D)->∀b∈fp,mG (blk X sc N' cl C s₂ H2 fp pins) pl H' b:=λ{H' pl} hn be b j=>by
  show#[hn b j,(a b (fl b j)).1,λz=>?_,.inl j,λx c M=>(G b j).2.2.2.2.1 x c (w x c M),λp l=>?_]
  .rcases Ç.mp (I.stkSub b z)with z|z
   .show (G b j).2.1 z
   .show (G b j).2.2.1 z
  .rcases Å.mp l with z|z
   .show (G b j).2.2.2.2.2 p z
   .rw [be p z];show Ne.symm (a b (fl b j)).2
 have av:∀{s':ώ}{af:St}{H':Hp}{o:Obj},Inv (blk X sc N' cl C s₂ H2 fp pins) [] af H' s'->s'.heap.get? D=!o->H' D=none->(∀v,o.data≠.cell v)->Inv (blk X sc N' cl C s₂ H2 fp pins) [(D,o)] af H' s':=λ{s' af H' o} I' e n d=>
  I'.pins_of λp l=>by
   rw[Zs.mp l];show#[e,n,L,λz=>?_,d];have z':D<s₂.heap.objs.size:=by
    rcases Ç.mp (I.stkSub D z)with y|y
    .have y':D=X.env.locals:=y;rw[y'];show I.lt
    .show absurd y (I.nofs hD)
   show absurd z' (Nat.not_lt.mpr hD)
 have Y:∀t:ώ,t= {s₂ with heap:= s,toks:= s₂.toks + ↑([] :ϊ (ϐ×ϋ))} ->
   codeAny (model X.prog X.w) X.A (.compLoop (.ListComp elt [#[tg,iter,ifs,0]] sc pos) 0 (.ref it) (.ref D) (compEnvC sc cl C X.env)) (RR (.ref D) C) t:=by
  rintro t rfl;show uf (λn s'=>∃(i:Nat)(ys:ϊ V)(f:ϊ ϋ)(H':Hp),Inv (blk X sc N' cl C s₂ H2 fp pins) [] (cap κ σ) H' s'/\tn i s'.heap/\(∀b∈fp,H' b=none)/\
   s'.heap.get? D=!{cls:=.type "list",data:=.seq f.toArray ↑f}/\Vals ys f/\H' D=none/\↑ys<=sizeLine/\W i n ys H') ?_ m0
   #[0,[],[],H2,IB _,A,λb j=>(G b j).1,al,.nil,I.hok.fresh hD,à _,w0]
  rintro n s3 ⟨i,ys,f,B,I3,aw,a5,d3,v3,n3,z3,w3⟩;have ah:=av I3 d3 n3 (by intro v z;cases z);have ff:=ab (pl:=[(D,({cls:=.type "list",data:=.seq f.toArray ↑f}:Obj))]) a5 (λp l=>by rw[Zs.mp l]);rcases ay i n ys B w3 with⟨stop,qn⟩|⟨go,hlt,N,hN,step⟩
  .show bA (T.done (blk X sc N' cl C s₂ H2 fp pins) rfl rfl rfl hc i _ s3 (cap κ σ) B _ ah ff aw stop) λr s4 ob=>?_
   let#[hr,I4]:=ob;subst hr;change RR (.ref D) C (.ok .next) s4;let#[dD,nD,_]:=I4.pin (D,_) (Û _ É);have nC:B C=none:=I4.free;have O:=I4.base;have bb:HOk X.prog X.w (upd B D (.lst ys)) s4.heap:=HOk.track I4.hok nD #[z3,f,↑f,v3,dD];have un:Un (frs X.stack) fp H2 (upd B D (.lst ys)) s₂.heap s4.heap:=
    ⟨O.keep,O.slot,λb o q n M=>by rw[ao (a b (Ê q)).2];show O.free b o q n M,O.there,
     λb xs q=>by rw[ao (aU (O.tups b xs q) nD)];show O.tups b xs q,
     λb o x q=>by rw[ao (aU (O.frzs b o x q) nD)];show O.frzs b o x q,
     λb ps q=>by
      let#[m1,e1]:=O.tbls b ps q;show⟨m1,by rw[ao (aU e1 nD)];show e1⟩⟩
   have IX:Inv X pins σ (upd B D (.lst ys)) s4:=I.call' (by show I4.os) un bb I4.bare λb j=>#[(G b j).2.2.2.1,(G b j).2.1,(G b j).2.2.2.2]
   let#[m4,a9,_]:=I4.loc;show a7 D C _ s4 #[IX,#[m4,a9],by rw[ao (Ne.symm L)];show nC,Ne.symm (a _ I.lt).1,I.nofs hC,Î I.sz hC,λx c M=>?_,λp l=>(a _ (Z p l)).1] (qn D nD);let#[v,o,e,_]:=I.cell x c M;show(a c (Ê e)).1
  .show bA (T.item (blk X sc N' cl C s₂ H2 fp pins) rfl rfl rfl hc i _ s3 (cap κ σ) B _ ah ff aw go) λr s4 ob=>?_
   let#[u,hr,h4]:=ob;subst hr;show bA h4 λ_ s5 ob=>?_
   let#[x,H5,I5,r5,y5,ae,a6]:=ob;have a4:=ab (pl:=[(D,({cls:=.type "list",data:=.seq f.toArray ↑f}:Obj))]) a6 (λp l=>by rw[Zs.mp l]);have a3:=I5.pinned a4 (T.obj _ _ ae);show bA (hg C _ s5 (cap κ σ) H5 x u _ a3 r5 (step x H5 y5)) λ_ s6 ob=>?_
   let#[P,H6,I6,F,q6]:=ob;show bA (hi C _ s6 P H6 _ I6 q6) λok s7 ob=>?_
   let#[H7,I7,q7]:=ob;have U:∀{a2:St}{H8:Hp}{s8:ώ},Inv (blk X sc N' cl C s₂ H2 fp pins) ([(D,({cls:=.type "list",data:=.seq f.toArray ↑f}:Obj))]++pq fp s5.heap) a2 H8 s8->
     tn (i+1) s8.heap/\(∀b∈fp,H8 b=none)/\s8.heap.get? D=!{cls:=.type "list",data:=.seq f.toArray ↑f}/\H8 D=none:=λ{a2 H8 s8} I8=>by
    show#[T.keep _ _ _ ae λb j o e=>(I8.pin (b,o) (Û _ (Û _ (iG j e)))).1,λb j=>?_,?_]
    .obtain ⟨o,e,d⟩:=T.obj _ _ ae b j;show(I8.pin (b,o) (Û _ (Û _ (iG j e)))).2.1
    .obtain ⟨e,n,_⟩:=I8.pin (D,_) (Û _ (á _ É));show#[e,n]
   cases ok with
   |false=>
    have ad:N ys H7:=by simpa using q7
    let#[m',hm,w7]:=hN _ _ ad;let#[t8,f8,d8,n8]:=U I7;change∃m,m<n/\_;show#[m',hm,i+1,ys,f,H7,(I7.pins_of (pins':=[]) (λp l=>nomatch l)).weak F.1.symm F.2,t8,f8,d8,v3,n8,z3,w7]
   |true=>
    have ad:te P H7 λy H4=>N (ys++[y]) H4:=by simpa using q7
    change wpAny _ _ (eval elt (compEnvC sc cl C X.env)) _ _ s7;show bA (he C _ s7 P H7 _ I7 ad) λv s8 ob=>?_
    let#[y,H8,I8,r8,q8]:=ob;let#[m',hm,w8]:=hN _ _ q8;let#[t8,f8,d8,n8]:=U I8;show append_at (hsz:=by rw[Ø,<-↑v3];show z3) d8 λh9 ar a8=>?_
    have I9:Inv (blk X sc N' cl C s₂ H2 fp pins) [] P H8 {s8 with heap:=h9,toks:=s8.toks}:=by
     show(I8.pins_of (pins':=[]) (λp l=>nomatch l)).turned (λb o j e=>ar.extBut b o j e) n8 L (.inr hD) (λx c M=>(a c (ac x c M)).2) λp l=>?_
     have bd:p∈X.pn++pins:=by simpa using l
     show(a _ (Z p bd)).2
    show#[m',hm,i+1,ys++[y],f++[v],H8,I9.weak F.1.symm F.2,T.keep _ _ _ t8 λb j o e=>ar.extBut b o (a b (fl b j)).2 e,f8,?_,Vals.append v3 (.cons r8 .nil),n8,?_,w8]
    .show h9.get? D=_;rw[a8];simp
    .rw [Â,Ú];show hlt
 show codeAny_compStart_list (Y _ rfl) (T.self X.A 0 _ _ _ A (Y _ rfl))
def jr(κ:ϊ (ύ Nat))(wi:TI)(g:TG)(tc:TT)(te:TE):TE:=λσ H Q=>wi σ H λJ H1=>∃W:Nat->Nat->ϊ V->Hp->Prop,(∃m,W 0 m [] H1)/\∀i m ys H,W i m ys H->
 (J.stop i H/\∀p,H p=none->Q (.ref p) (upd H p (.lst ys)))\/
 (J.go i H/\↑ys<sizeLine/\∃N:ϊ V->Hp->Prop,(∀ys' H',N ys' H'->∃m',m'<m/\W (i+1) m' ys' H')/\∀x H',J.yld i H x H'->g x (cap κ σ) H' λσ2 H2=>oE (cap κ σ) σ2/\tc σ2 H2 λb H3=>if b=true then te σ2 H3 λy H4=>N (ys++[y]) H4 else N ys H3)
theorem R9(r:ϊ (ύ Nat))(i:ϊ ϐ)(B:X.calm=true)(k:PI X tg iter wi)(S:CScope X.env.scope sc)(b:capOk r i X.N sc=true)
  (G:∀cl C s H fp pins,PG (blk X sc i cl C s H fp pins) tg g) (K:∀cl C s H fp pins,G8 (blk X sc i cl C s H fp pins) ifs tc) (E:∀cl C s H fp pins,PE (blk X sc i cl C s H fp pins) elt te)
  (M:∀x,foldedSetIterable iter X.env x=pure x:=by intro _;rfl):PE X (.ListComp elt [#[tg,iter,ifs,0]] sc pos) (jr r wi g tc te):=by
 intro pins s U H Q I h;let#[cl,a,c,d]:=Ah (sc:=sc) (env:=X.env) λy N F=>I.ok.has y.1 (S.frees y N F)
 rw[eval_ListComp];show wpAny_comprehension_free (use:=none) rfl M a S.kind S.locs (bA (k pins s U H _ I h) λv P z=>bA z λO o A=>?_);let#[Z,fp,tn,J,j,e,u,T,p,w,W,#[m0,R],f]:=A;subst e;show Ai B u T p w S b c d (λC=>G cl C o j fp pins) (λC=>K cl C o j fp pins) (λC=>E cl C o j fp pins) R f λD C t P l q=>?_
 let#[m,L]:=l.ns;show#[m,L,λY n=>#[V.ref D,t,l.go n,rfl,q]]
theorem nJ{p:Pos}(R:ϊ (ύ Nat))(t:ϊ ϐ)(hc:X.calm=true)(hN:X.N.Nodup)(E:X.N[i]?=!x)(n:X.env.scope.names.lookup x=!.local)
  (B:PI X tg iter wi) (S:CScope X.env.scope sc) (f:capOk R t X.N sc=true)
  (hg:∀cl C s H fp pins,PG (blk X sc t cl C s H fp pins) tg g) (hi:∀cl C s H fp pins,G8 (blk X sc t cl C s H fp pins) ifs tc) (he:∀cl C s H fp pins,PE (blk X sc t cl C s H fp pins) elt te)
  (K:swapsWith (.ListComp elt [#[tg,iter,ifs,0]] sc pos) (!(.Name x p)) c.line X.env=pure true:=by rfl)
  (hs:∀x,foldedSetIterable iter X.env x=pure x:=by intro _;rfl):PS X (.Assign [.Name x p] (.ListComp elt [#[tg,iter,ifs,0]] sc pos) c) (aK (jr R wi g tc te) (ak i)):=by
 intro pins s N H D I h;let#[cl,d,j,k]:=Ah (sc:=sc) (env:=X.env) λy hy hf=>I.ok.has y.1 (S.frees y hy hf)
 rw[exec_Assign_Name_used _ _ _ _ K];show Zp (wpAny_standAt (Zp ?_));change wpAny _ X.A (do let _<-comprehension (.ListComp elt [⟨tg,iter,ifs,0⟩] sc pos) sc X.env _ (newList []) false (eval iter X.env) !(assign (.Name x p) X.env)) _ _ s;show Zp (đ (wpAny_comprehension_free (use:=!(assign (.Name x p) X.env)) (Q:=λ_ O=>SP X pins D .next O) rfl hs d S.kind S.locs
  (bA (B pins s N H _ I h) λv s1 h1=>bA h1 λab L h2=>?_)) (λ_ O hq=>Á (Á hq)) λ_ _ e=>e)
 let#[it,fp,tn,J,w,e,Z,T,M,f2,W,#[m0,w0],r]:=h2;subst e;show Ai (Q:=λy Y=>ak i y N Y D.nx) hc Z T M f2 S f j k (λC=>hg cl C L w fp pins) (λC=>hi cl C L w fp pins) (λC=>he cl C L w fp pins) w0 r λu C U s1 l q=>?_
 change wpAny _ X.A (assign (.Name x p) X.env (.ref u)) _ _ _;show wpAny_assign_Name (rJ l.inv hN E (.inl n) (v:=.ref u) rfl (λP I3 ⟨a,G,ha⟩=>?_) (.inr n));let#[m,hn]:=l.ns;have A:C≠a:=by
  rcases ha with z|z
  .rw [z];show l.nl
  .show Ne.symm (l.nc x a z)
 show#[m,hn.sameBut G A,λh' F=>?_];have I4:Inv X pins (N.set i !(.ref u)) U {P with heap:=h'}:=I3.turned (t':=P.toks) (λb o hb e=>F.extBut b o hb e) l.un l.nl (.inr l.ab) l.nc l.np;show#[_,_,I4,q]
end
section
variable{κ:ϊ (ύ Nat)}{g:TG}{tc:TT}{te:TE}{σ:St}{H:Hp}{Q:VK}
theorem G9{lo:Int}(d:Nat->ϊ V->Hp->Prop)(k:d 0 [] H)(o:n<=sizeLine)(r:∀i ys H,d i ys H->↑ys<=i)
  (q:∀i ys H,i<n->d i ys H->g (.int (lo+i)) (cap κ σ) H λa H2=>oE (cap κ σ) a/\tc a H2 λb h=>if b=true then te a h λy j=>d (i+1) (ys++[y]) j else d (i+1) ys h)
  (l:∀ys H,d n ys H->∀p,H p=none->Q (.ref p) (upd H p (.lst ys))):
  ∃W:Nat->Nat->ϊ V->Hp->Prop,(∃m,W 0 m [] H)/\∀i m ys H,W i m ys H->
   ((NK lo n).stop i H/\∀p,H p=none->Q (.ref p) (upd H p (.lst ys)))\/
   ((NK lo n).go i H/\↑ys<sizeLine/\∃N:ϊ V->Hp->Prop,(∀f H',N f H'->∃m',m'<m/\W (i+1) m' f H')/\∀x H',(NK lo n).yld i H x H'->g x (cap κ σ) H' λa H2=>oE (cap κ σ) a/\tc a H2 λb h=>if b=true then te a h λy j=>N (ys++[y]) j else N ys h):=by
 show#[λi m ys H=>m=n-i/\i<=n/\d i ys H,#[n,by simp,à _,k],?_];rintro i m ys H ⟨rfl,t,p⟩;by_cases c:i<n
 .show .inr #[c,Ñ (Õ (r _ _ _ p) c) o,d (i+1),λf H' s=>#[n-(i+1),(),rfl,c,s],λx H' y=>?_];let#[e,y]:=y;subst e y;show q i ys _ c p
 .have e:i=n:=()
  subst e;show .inl #[Nat.le_refl _,l ys H p]
theorem OJ{K:Ϗ}{xs:ϊ V}(d:Nat->ϊ V->Hp->Prop)(l:d 0 [] H)(s:↑xs<=sizeLine)(r:∀i ys H,i<=↑xs->d i ys H->SqL K H a xs)(u:∀i ys H,d i ys H->↑ys<=i)
  (t:∀i x ys H,xs[i]?=!x->d i ys H->g x (cap κ σ) H λc H2=>oE (cap κ σ) c/\tc c H2 λb j=>if b=true then te c j λy k=>d (i+1) (ys++[y]) k else d (i+1) ys j)
  (n:∀ys H,d ↑xs ys H->∀p,H p=none->Q (.ref p) (upd H p (.lst ys))):
  ∃W:Nat->Nat->ϊ V->Hp->Prop,(∃m,W 0 m [] H)/\∀i m ys H,W i m ys H->
   ((O4 K a).stop i H/\∀p,H p=none->Q (.ref p) (upd H p (.lst ys)))\/
   ((O4 K a).go i H/\↑ys<sizeLine/\∃N:ϊ V->Hp->Prop,(∀h H',N h H'->∃m',m'<m/\W (i+1) m' h H')/\∀x H',(O4 K a).yld i H x H'->g x (cap κ σ) H' λc H2=>oE (cap κ σ) c/\tc c H2 λb j=>if b=true then te c j λy k=>N (ys++[y]) k else N ys j):=by
 show#[λi m ys H=>m=↑xs-i/\i<=↑xs/\d i ys H,#[↑xs,by simp,à _,l],?_];rintro i m ys H ⟨rfl,o,p⟩;have q:=r i ys H o p;by_cases f:i<↑xs
 .show .inr #[#[xs,xs[i],q,by simp[f]],Ñ (Õ (u _ _ _ p) f) s,d (i+1),λh H' v=>#[xs.length-(i+1),(),rfl,f,v],λx H' y=>?_];let#[e,y]:=y;subst e;show t i x ys _ (y xs q) p
 .have e:i=↑xs:=()
  subst e;show .inl #[#[xs,q,Ä _],n ys H p]
end
mutual
inductive Dp(K:Ϗ)(H:Hp):V->PyData->Prop where
 |non:Dp K H .non .none
 |bl (b:ϑ):Dp K H (.bl b) (.bool b)
 |int (i:Int):Dp K H (.int i) (.int i)
 |str (x:ϐ):Dp K H (.str x) (.str x)
 |lst {a:ό} {xs:ϊ V} {ds:ϊ PyData}:SqL K H a xs->DpAll K H xs ds->Dp K H (.ref a) (.list ds)
 |tup {a:ό} {xs:ϊ V} {ds:ϊ PyData}:SqT K H a xs->DpAll K H xs ds->Dp K H (.ref a) (.tuple ds)
inductive DpAll(K:Ϗ)(H:Hp):ϊ V->ϊ PyData->Prop where
 |nil:DpAll K H [] []
 |cons {x:V} {xs:ϊ V} {d:PyData} {ds:ϊ PyData}:Dp K H x d->DpAll K H xs ds->DpAll K H (x::xs) (d::ds)
end
theorem DpAll.ints{K:Ϗ}:∀ns:ϊ Int,DpAll K H (ns.map V.int) (ns.map PyData.int)
 |[]=>.nil
 |n::r=>.cons (.int n) (DpAll.ints r)
theorem DpAll.strs{K:Ϗ}:∀ns:ϊ ϐ,DpAll K H (ns.map V.str) (ns.map PyData.str)
 |[]=>.nil
 |n::r=>.cons (.str n) (DpAll.strs r)
theorem Dp.ints{K:Ϗ}{b:ϊ Int}(h:SqL K H a (b.map V.int)):Dp K H (.ref a) (.list (b.map PyData.int)):=.lst h (DpAll.ints b)
section
variable{X:Cx}
mutual
theorem Dp.reads{pins:List (Addr×Obj)}{σ:St}{H:Hp}{s:Shared}(I:Inv X pins σ H s){x:V}{d:PyData}{u:Value}(h:Dp X.K H x d)(r:RelV x u):∃a,Reads s.heap u d a:=by
 cases h with
 |non=>cases(show _=Value.none from r);show#[_,.none]
 |bl b=>cases(show _=Value.bool b from r);show#[_,.bool b]
 |int i=>let#[t,rfl]:=r;show#[_,.int i t]
 |str x=>let#[t,rfl]:=r;show#[_,.str x t]
 |lst h hs=>
  cases(show _=Value.ref _ from r);let#[g,j,p,_]:=I.list h;let#[a,q]:=DpAll.reads I hs j;let#[o,n,e,c,_,f]:=p;show#[_,.list e c f (by simpa using q)]
 |tup h hs=>
  cases(show _=Value.ref _ from r);let#[g,j,p,_]:=I.tuple h;let#[a,q]:=DpAll.reads I hs j;let#[o,e,c,n,f]:=p;show#[_,.tuple e c f (by simpa using q)]
theorem DpAll.reads{pins:List (Addr×Obj)}{σ:St}{H:Hp}{s:Shared}(I:Inv X pins σ H s){b:List V}{ds:List PyData}{us:List Value}(h:DpAll X.K H b ds)(r:Vals b us):∃a,ReadsAll s.heap us ds a:=by
 cases h with
 |nil=>cases r;show#[_,.nil]
 |cons h hs=>
  cases r with
  |cons r rr=>
   let#[a,q]:=Dp.reads I h r;let#[c,p]:=DpAll.reads I hs rr;show#[_,.cons q p]
end
def rEqD(K:Ϗ):R2:=λx y H Q=>∃d e,Dp K H x d/\Dp K H y e/\SeqAt.shaped d=true/\SeqAt.shaped e=true/\Q (.bl (PyData.eqv d e)) H
def rNeD(K:Ϗ):R2:=λx y H Q=>∃d e,Dp K H x d/\Dp K H y e/\SeqAt.shaped d=true/\SeqAt.shaped e=true/\Q (.bl (not (PyData.eqv d e))) H
theorem U9(i:X.A.units+64<cLine):iw X (compareOp .Eq) (rEqD X.K):=by
 intro a s p H x y v u Q I l m h;let#[d,e,b,c,f,g,q]:=h;let#[n,j]:=b.reads I l;let#[o,k]:=c.reads I m;show eq_dataH j k f g i #[.bl _,H,I,rfl,q]
theorem Ua(i:X.A.units+64<cLine):iw X (compareOp .NotEq) (rNeD X.K):=by
 intro a s p H x y v u Q I l m h;let#[d,e,b,c,f,g,q]:=h;let#[n,j]:=b.reads I l;let#[o,k]:=c.reads I m;show ne_dataH j k f g i #[.bl _,H,I,rfl,q]
end
theorem jt:∀ns ms:ϊ Int,PyData.eqvAll (ns.map PyData.int) (ms.map PyData.int)=decide (ns=ms)
 |[],[]=>by simp[PyData.eqvAll]
 |[],_::_=>by simp[PyData.eqvAll]
 |_::_,[]=>by simp[PyData.eqvAll]
 |n::r,m::q=>by
  simp only[È,PyData.eqvAll,PyData.eqv,jt r q];by_cases h:n=m<;>simp[h]
section
variable{X:Cx}
theorem vQ:bU X (.builtin "isinstance") (λxs H Q=>∃T x t b,xs=[x,.ty T]/\TyOf X.K H x t/\PySem.W.kitOne X.K t (.type T)=!b/\Q (.bl b) H):=by
 intro c s k H xs j Q I f h;let#[T,x,t,b,rfl,ty,e,q]:=h;let#[u,i,rfl,d,a]:=f.two
 cases(show i=Value.type T from a);show Cu I d ty e λg=>#[.bl b,H,I.tok g,rfl,q]
theorem sy:iw X (compareOp .LtE) (λx y H Q=>∃i j,x=.str i/\y=.str j/\Q (.bl (not (decide (j.cps.toList<i.cps.toList)))) H):=by
 intro a s e H x y v u Q I b c h;let#[i,j,rfl,rfl,q]:=h;let#[t,rfl]:=b;let#[d,rfl]:=c;show PySem.P.le_str (b7 I q (by simp))
theorem Ga(i:X.calm=true):bU X (.builtin "sum") (λxs H Q=>∃(a:ό)(ns:ϊ Int),xs=[.ref a]/\SqL X.K H a (ns.map V.int)/\Q (.int ns.sum) H):=by
 intro f s w H xs v Q I m h;let#[a,ns,rfl,k,q]:=h;let#[u,rfl,l]:=m.one
 cases(show u=Value.ref a from l);let#[b,r,d,o]:=I.list k;have c:=intsAre_of r;let#[xs,e]:=c.allInts.items;rw[e]at d;show sum_intListG (I.ok.hd i) d.isList λn t p j=>?_
 have g:preSum (numAt xs) xs.size=ns.sum:=by
  rw[preSum_eq,è (by simp),<-nums_intItems,<-e];change(numsOf b.toArray.toList).sum=_;rw[show b.toArray.toList=b from rfl,c.numsOf]
 rw[g];show#[.int _,H,I.kept j,#[_,rfl],q]
end
section
variable{X:Cx}
def Its(x:ϐ):It:=#[λi _=>i<x.cps.size,λi H v H'=>H'=H/\∃c,x.cps[i]?=!c/\v=.str #[([c].toArray)],λi _=>i=x.cps.size]
theorem Gb{P:ϓ}{K:Ϗ}(x:ϐ)(t:Tok)(p:String)(a:ό)(N:["enumerate","zip","dict_itemiterator","dict_reverseitemiterator","odict_iterator","itertools.zip_longest","itertools.pairwise"].contains p=false)
  (W:∀A:ϖ,A.handled=none->Walks P w A a [a] [a] x.cps.size (SignAt x) (λi h=>h.IsStrIter a p x t i))
  (S:∀(A:ϖ)(i:Nat)(s:ώ)(Q:϶)(E:϶),s.heap.IsStrIter a p x t i->Q (.ref a) s->wpAny (model P w) A (pyIter (.ref a)) Q E s):
  Turn P w K tg (Its x) [a] a (λi h=>h.IsStrIter a p x t i)where
 mem:=by simp
 obj:=λi h f b j=>by
  have e:b=a:=by simpa using j
  subst e;let#[o,e,c,d]:=f;show#[o,e,λv z=>by rw[d]at z;cases z]
 keep:=λi h m f k=>by
  let#[o,e,r]:=f;show#[o,k a (by simp) o e,r]
 item:=by
  intro X G O F J i g s U H E I n f M;subst G O F;let#[q,y,Z,B,C,D]:=n a (by simp);show(W X.A (I.ok.hd J)).item i s _ _ M f λv m T hv l R=>?_
  let#[c,u,hx,rfl]:=hv;have Y:Inv X g U H {s with heap:=m,toks:=T}:=I.turned (λb o j e=>R b o (by simpa using j) e) q y B C D;let#[o,e,L,d]:=id l;show⟨_,rfl,nA (s:={s with heap:=m,toks:=T}) e L d N ⟨.str ⟨([c].toArray)⟩,H,Y,⟨u,rfl⟩,⟨rfl,c,hx,rfl⟩,l,λb j=>(n b j).1⟩⟩
 done:=by
  intro X G O F J i g s U H E I n f M;subst G O F;let#[q,y,Z,B,C,D]:=n a (by simp);have e:i=x.cps.size:=M;subst e;show(W X.A (I.ok.hd J)).done s _ _ f λm T R=>#[rfl,I.turned (λb o j e=>R b o (by simpa using j) e) q y B C D]
 self:=λA i s Q E f h=>S A i s Q E f h
abbrev CV(tl:TE):TI:=λσ H R=>tl σ H λx H1=>∃z,x=.str z/\R (Its z) H1
theorem pQ(r:PE X l tl):PI X tg l (CV tl):=by
 intro c s k H R I h;show bA (r c s k H _ I h) λv a ob=>?_
 let#[x,m,g,w,u]:=ob;let#[z,e,q]:=u;subst e;let#[t,rfl]:=w;have fin:∀(d:String)(o:Obj),(["enumerate","zip","dict_itemiterator","dict_reverseitemiterator","odict_iterator","itertools.zip_longest","itertools.pairwise"].contains d=false)->
   (∀A:ϖ,A.handled=none->Walks X.prog X.w A a.heap.objs.size [a.heap.objs.size] [a.heap.objs.size] z.cps.size (SignAt z) (λi h=>h.IsStrIter a.heap.objs.size d z t i))->
   (∀(A:ϖ)(i:Nat)(s:ώ)(Q:϶)(E:϶),s.heap.IsStrIter a.heap.objs.size d z t i->Q (.ref a.heap.objs.size) s->wpAny (model X.prog X.w) A (pyIter (.ref a.heap.objs.size)) Q E s)->
   (a.heap.push o).IsStrIter a.heap.objs.size d z t 0->PIE X c k tg R (.ref a.heap.objs.size) {a with heap:=a.heap.push o}:=λd o n W S f=>by
  show#[a.heap.objs.size,[a.heap.objs.size],_,_,m,rfl,g.kept (t':=a.toks) λb o e=>Ã _ e,Gb z t d _ n W S,f,λb p=>?_,q];have e:b=a.heap.objs.size:=by simpa using p
  subst e;show g.fpOk (Ä _) (g.hok.fresh (Ä _))
 cases ha:z.cps.all (·<128)
 .show wpAny_pyIter_wide ha (fin "str_iterator" _ (by decide) (λA j=>Walks.strWide j _ z t) (λA i s Q E f h=>wpAny_pyIter_striter_wide f h) #[_,Ë _ rfl,rfl,rfl])
 .show wpAny_pyIter_ascii ha (fin "str_ascii_iterator" _ (by decide) (λA j=>Walks.strAscii j _ z t) (λA i s Q E f h=>wpAny_pyIter_striter_ascii f h) #[_,Ë _ rfl,rfl,rfl])
def Ub(lo c:Int)(n:Nat):It:=#[λi _=>i<n,λi H x H'=>H'=H/\x=.int (lo+i*c),λi _=>n<=i]
theorem vR{P:ϓ}{K:Ϗ}(d:ό)(lo c:Int)(n:Nat):Turn P w K tg (Ub lo c n) [d] d (λi h=>IsRangeIter h d (lo+(i:Nat)*c) ((n:Int)-(i:Nat)) c)where
 mem:=by simp
 obj:=λi h a b g=>by
  have e:b=d:=by simpa using g
  subst e;show⟨_,a,λv z=>by
   have Q:Data.fields _=Data.cell v:=z
   cases Q⟩
 keep:=λi h l a k=>k d (by simp) _ a
 item:=by
  intro X A D y B i f s G H E I m a C;subst A D y;let#[p,q,M,r,u,x]:=m d (by simp);have W:=Walks.range (prog:=X.prog) (w:=X.w) (I.ok.hd B) d lo c n;show W.item i s _ _ C a λv l F N j O=>?_
  let#[t,rfl]:=N;have J:Inv X f G H {s with heap:=l,toks:=F}:=I.turned (λb o g e=>O b o (by simpa using g) e) p q r u x;show⟨_,rfl,nA (s:={s with heap:=l,toks:=F}) (n:="range_iterator") j rfl rfl (by decide) ⟨.int (lo+i*c),H,J,⟨t,rfl⟩,⟨rfl,rfl⟩,j,λb g=>(m b g).1⟩⟩
 done:=by
  intro X A D y B i f s G H E I m a C;subst A D y;let#[p,q,M,r,u,x]:=m d (by simp);show Φ (I.ok.hd B) a (by have:n<=i:=C;rfl') λl L=>#[rfl,I.turned (t':=s.toks) (λb o g e=>L b o g e) p q r u x]
 self:=λ_ _ _ _ _ a h=>Χ a h
abbrev Ra(ta:TA):TI:=λσ H R=>ta σ H λvs H1=>∃(i j c:Int)(n:Nat),vs=[.int i,.int j,.int c]/\c≠0/\Builtin.Range.small i j c=true/\Builtin.divisionGoesByPylong (j-i) c=false/\Builtin.Range.rangeSize i j c=(n:Int)/\R (Ub i c n) H1
theorem CW{a d:Expr}(F:Gl X "range")(G:X.mg "range"=none)(D:PA X [a,b,d] ta)(J:starEach [a,b,d] X.env=[(false,eval a X.env),(false,eval b X.env),(false,eval d X.env)]:=by rfl)(g:starEach [b,d] X.env=[(false,eval b X.env),(false,eval d X.env)]:=by rfl):
  PI X tg (.Call (.Name "range" p) [a,b,d] [] pos) (Ra ta):=by
 intro f s v H R I h;show Call_ (gO I F G boot_range (Ą (bA (D pos f s v H _ I h) λM k ⟨N,u,w,L,K⟩=>?_) (by rw[J,g]) (by rw[g];rfl)));let#[i,j,c,n,e,z,A,B,C,q]:=K;subst e
 cases L with
 |cons r rr=>
  cases rr with
  |cons r' rr=>
   cases rr with
   |cons r'' rr=>
    cases rr;let#[t,rfl]:=r;let#[t',rfl]:=r';let#[m,rfl]:=r'';show call_range_3 z ?_ (.inl B);show wpAny_pyIter_range (IsRange.new ..) A ?_;have l:Inv X f v u {k with heap:=k.heap.push {cls:=.type "range",data:=.fields ([.int i t,.int j t',.int c m].toArray)},toks:=k.toks}:=w.kept λb o e=>Ã _ e
    show#[_,[_],_,_,u,rfl,l.kept (t':=k.toks) λb o e=>Ã _ e,vR _ i c n,?_,λb E=>?_,q]
    .have x:i+((0:Nat):Int)*c=i:=by simp
     have y:((n:Int))-((0:Nat):Int)=Builtin.Range.rangeSize i j c:=by rw[C];simp
     change IsRangeIter _ _ (i+((0:Nat):Int)*c) ((n:Int)-((0:Nat):Int)) c;rw[x,y];show Ë _ rfl
    .have e:=Zs.mp E;subst e;show l.fpOk (Ä _) (l.hok.fresh (Ä _))
end
def Itz(K:Ϗ)(a b:ό):It:=
 ⟨λi H=>∃xs ys x y,SqL K H a xs/\SqL K H b ys/\xs[i]?=!x/\ys[i]?=!y,
  λi H v H'=>∃p x y,H p=none/\v=.ref p/\H'=upd H p (.tup [x,y])/\(∀xs,SqL K H a xs->xs[i]?=!x)/\∀ys,SqL K H b ys->ys[i]?=!y,
  λi H=>∃xs ys,SqL K H a xs/\SqL K H b ys/\(↑xs<=i\/↑ys<=i)⟩
structure ZipSt(z TI TO i1 i2 a b:ό)(i:Nat)(h:ϒ):Prop where
 hz:IsZip h z TI TO .none
 hTI:IsPair h TI (.ref i1) (.ref i2)
 hTO:∃u v,IsPair h TO u v
 h1:h.IsListIter i1 a i
 h2:h.IsListIter i2 b i
structure ZipNe(z TI TO i1 i2:ό):Prop where
 TIz:TI≠z
 TOz:TO≠z
 i1z:i1≠z
 i2z:i2≠z
 TITO:TI≠TO
 TIi1:TI≠i1
 TIi2:TI≠i2
 TOi1:TO≠i1
 TOi2:TO≠i2
 i12:i1≠i2
theorem Inv.turnedAll{X:Cx}{s:ώ}(I:Inv X pins σ H s)(k:∀b o,b∉ch->s.heap.get? b=!o->h'.get? b=!o)
  (d:∀b∈ch,mG X pins H b):Inv X pins σ H {s with heap:=h',toks:=t'}:=by
 have f:∀b u,H b=!u->b∉ch:=λb u e z=>by rw[(d b z).1]at e;cases e
 show I.step (g':=s.gens) (d':=s.drawn) (ch:=ch) (λb g=>?_) (λb o _ _ a e _=>k b o a e) (λb o _ _ a e _=>#[o.slots,k b o a e]) (λ_ _ _ _ n=>n)
  (λb o a e=>#[o,k b o a e]) (λ_ _ e=>e) (λ_ _ _ e=>e) (λb p e=>#[([].toArray),by rw[e];simp]) (λm j=>?_) (λb u e=>?_) I.bare
 .show #[(d b g).2.2.2.1,(d b g).2.1,(d b g).2.2.2.2.1,(d b g).2.2.2.2.2]
 .obtain ⟨o,i,h,l,r⟩:=j;show#[o,i,h,k _ o (λz=>(d _ z).2.1 rfl) l,r]
 .show (I.hok b u e).stay (λc v a q=>k c v ?_ q) (λ_ q=>q) λ_ _ q=>q
  rcases a with z|z
  .rw [z];show f b u e
  .show f c _ z
theorem Inv.yields{X:Cx}{s:ώ}{x y:V}{v:ϋ}(I:Inv X pins σ H s)(k:∀b o,b∉ch->s.heap.get? b=!o->h'.get? b=!o)
  (g:∀b∈ch,mG X pins H b) (h:RelV x u) (i:RelV y v) (e:h'.get? s.heap.objs.size=!{cls:=.type "tuple",data:=.seq ([u,v].toArray)}):
  H s.heap.objs.size=none/\Inv X pins σ (upd H s.heap.objs.size (.tup [x,y])) {s with heap:=h',toks:=t'}:=by
 have a:H s.heap.objs.size=none:=I.hok.fresh (Ä _);have n:∀b z,H b=!z->upd H s.heap.objs.size (.tup [x,y]) b=!z:=λb z q=>by rw[ao (aU q a)];show q
 show⟨a,I.call' (s':={s with heap:=h',toks:=t'}) rfl ⟨λb o q _ _ f=>k b o f q,λb o q _ _ f=>⟨o.slots,k b o f q⟩,λb o q n _=>by rw[ao (ã (Ê q))];show n,λb o q f=>⟨o,k b o f q⟩,λb _ q=>n b _ q,λb _ _ q=>n b _ q,λb j q=>⟨([].toArray),by rw[n b _ q];simp⟩⟩
  (HOk.track (I.turnedAll (t':=t') k g).hok a ⟨by change 2<=sizeLine;decide,[u,v],.cons h (.cons i .nil),_,e,rfl,_,rfl⟩) I.bare λc d=>⟨(g c d).2.2.2.1,(g c d).2.1,(g c d).2.2.2.2⟩⟩
theorem ug{X:Cx}{i:ϊ V}(I:Inv X pins σ H s)(b:SqL X.K H a i)(e:s.heap.get? c=!o)(g:o.cls≠.type "list")(f:H c=none):a≠c:=by
 intro q;subst q;rcases b with(h|⟨o',h⟩)|⟨o',it,n,h,hcl,_⟩
 .rw [f]at h;cases h
 .rw [f]at h;cases h
 .have d:=I.kIn _ _ h;rw[e]at d
  cases d;show g hcl
theorem uh{X:Cx}{TI TO n:ό}{p:ϊ V}(I:Inv X pins σ H s)(c:SqL X.K H a p)(o:ZipSt z TI TO i1 i2 m n i s.heap)(d:∀b∈[z,TI,TO,i1,i2],mG X pins H b):
  a≠z/\a≠TO/\a≠i1/\a≠i2:=by
 let#[l,k,#[t,v0,e],#[q,h,f,_],#[r,j,g,_]]:=o;show#[ug I c l (by change Value.type "zip"≠Value.type "list";decide) (d z (by simp)).1,ug I c e (by change Value.type "tuple"≠Value.type "list";decide) (d TO (by simp)).1,ug I c h (by rw[f];decide) (d i1 (by simp)).1,ug I c j (by rw[g];decide) (d i2 (by simp)).1]
theorem Gd{P:ϓ}{K:Ϗ}{TI TO:ό}(a b:ό)(D:ZipNe z TI TO i1 i2):
  Turn P w K (.Tuple elts k tpos) (Itz K a b) [z,TI,TO,i1,i2] z (ZipSt z TI TO i1 i2 a b)where
 mem:=by simp
 obj:=λi h t c Q=>by
  let#[F,f,#[u,v,j],#[o1,U,c1,d1],#[o2,Y,c2,d2]]:=t;simp only[Ç,Þ,ć]at Q;rcases Q with rfl|rfl|rfl|rfl|rfl
  .show #[_,F,λv z=>by cases z]
  .show #[_,f,λv z=>by cases z]
  .show #[_,j,λv z=>by cases z]
  .show #[o1,U,λv z=>by rw[d1]at z;cases z]
  .show #[o2,Y,λv z=>by rw[d2]at z;cases z]
 keep:=λi h h' t A=>by
  let#[F,f,#[u,v,j],L,M]:=t;show#[A z (by simp) _ F,A TI (by simp) _ f,#[u,v,A TO (by simp) _ j],L.at λo e=>A i1 (by simp) o e,M.at λo e=>A i2 (by simp) o e]
 item:=by
  intro X hP hw Z Q i C s σ H E I B t hg;subst hP hw Z;let#[xs,ys,x,y,m,r,G,hy]:=hg;let#[af,rv,p,ad]:=I.list m;let#[S,J,p2,ae]:=I.list r;let#[u,hu,ru]:=rv.get G;let#[v,hv,ag]:=J.get hy;let#[F,f,#[u0,v0,j],L,M]:=id t;let#[n1,n2,n3,n4]:=uh I m t B;let#[m1,m2,m3,m4]:=uh I r t B;have T:ZipApart z TI TO i1 i2 a b:=#[D.TIz,D.TOz,D.i1z,D.i2z,D.TITO,D.TIi1,D.TIi2,D.TOi1,D.TOi2,D.i12,n1,n2,n3,n4,m1,m2,m3,m4];show wpAny_pyNext_zip_item T F f j L M p.isList p2.isList (x:=u) (y:=v) (by simpa using hu) (by simpa using hv) λh' a1 a2 a3 a4 a5 a6 a7=>?_
  show#[_,rfl,wpAny_letOwnedTupleGo_zip a1 λg b1 N=>?_];have hT:s.heap.objs.size≠z:=ę (Ê F);have A:∀c o,c∉[z,TI,TO,i1,i2]->s.heap.get? c=!o->g.get? c=!o:=λc o d e=>by
   simp only[Ç,Þ,ć,not_or]at d;show N.extBut _ _ d.1 (a7 c o d.1 d.2.2.1 d.2.2.2.1 d.2.2.2.2 e)
  have I1:Inv X C σ H {s with heap:=g,toks:=s.toks}:=I.turnedAll A B;have l:H s.heap.objs.size=none:=I.hok.fresh (Ä _);have e5:g.get? s.heap.objs.size=!{cls:=.type "tuple",data:=.seq ([u,v].toArray)}:=N.extBut _ _ hT a5;have O:IsPair g TI (.ref i1) (.ref i2):=N.extBut _ _ D.TIz (a7 _ _ D.TIz D.TITO D.TIi1 D.TIi2 f);have un:Un (frs X.stack) [z,TI,TO,i1,i2] H (upd H s.heap.objs.size (.tup [x,y])) s.heap g:=
   ⟨λb o q _ _ G=>A b o G q,λb o q _ _ G=>⟨o.slots,A b o G q⟩,λb o q n _=>by rw[ao (ã (Ê q))];show n,λb o q G=>⟨o,A b o G q⟩,
    λb xs q=>by rw[ao (aU q l)];show q,λb o x q=>by rw[ao (aU q l)];show q,λb ps q=>⟨([].toArray),by rw[ao (aU q l),q];simp⟩⟩
  have ac:HOk X.prog X.w (upd H s.heap.objs.size (.tup [x,y])) g:=HOk.track I1.hok l #[by change 2<=sizeLine;decide,[u,v],.cons ru (.cons ag .nil),_,e5,rfl,_,rfl];have I2:Inv X C σ (upd H s.heap.objs.size (.tup [x,y])) {s with heap:=g}:=I.call' (s':={s with heap:=g}) rfl un ac I.bare λc d=>⟨(B c d).2.2.2.1,(B c d).2.1,(B c d).2.2.2.2⟩
  show#[.ref s.heap.objs.size,_,I2,rfl,#[_,x,y,l,rfl,rfl,λal h=>by rw[I.list_inj h m];show G,λam h=>by rw[I.list_inj h r];show hy],#[b1,O,#[u,v,N.extBut _ _ D.TOz a2],a3.extBut N.extBut D.i1z,a4.extBut N.extBut D.i2z],λc d=>?_];have ab:c<s.heap.objs.size:=by
   let#[#[o1,U,_],#[o2,Y,_]]:=(#[L,M]:_/\_);simp only[Ç,Þ,ć]at d;rcases d with rfl|rfl|rfl|rfl|rfl
   .show Ê F
   .show Ê f
   .show Ê j
   .show Ê U
   .show Ê Y
  rw[ao (ã ab)];show(B c d).1
 done:=by
  intro X hP hw Z Q i C s σ H E I B t hg;subst hP hw Z;let#[xs,ys,m,r,R]:=hg;let#[af,rv,p,ad]:=I.list m;let#[S,J,p2,ae]:=I.list r;let#[F,f,#[u0,v0,j],L,M]:=id t;let#[n1,n2,n3,n4]:=uh I m t B;let#[m1,m2,m3,m4]:=uh I r t B;have T:ZipApart z TI TO i1 i2 a b:=#[D.TIz,D.TOz,D.i1z,D.i2z,D.TITO,D.TIi1,D.TIi2,D.TOi1,D.TOi2,D.i12,n1,n2,n3,n4,m1,m2,m3,m4];have ah:=↑rv;have ai:=↑J;show wpAny_pyNext_zip_end (I.ok.hd Q) T F f j L M p.isList p2.isList ?_ λh' A=>?_
  .rcases R with q|q
   .left;simp;rfl'
   .right;simp;rfl'
  .show #[rfl,I.turnedAll (t':=s.toks) (λc o d e=>?_) B];simp only[Ç,Þ,ć,not_or]at d;show A c o d.1 d.2.2.1 d.2.2.2.1 d.2.2.2.2 e
 self:=λ_ _ _ _ _ t h=>wpAny_pyIter_zip t.hz h
abbrev Uc(K:Ϗ)(ta:TA):TI:=λσ H R=>ta σ H λvs H1=>∃a b xs ys,vs=[.ref a,.ref b]/\SqL K H1 a xs/\SqL K H1 b ys/\R (Itz K a b) H1
theorem P0{X:Cx}{a:Expr}(w:Gl X "zip")(T:X.calm=true)(x:X.mg "zip"=none)(v:PA X [a,b] ta)(y:starEach [a,b] X.env=[(false,eval a X.env),(false,eval b X.env)]:=by rfl)(j:starEach [b] X.env=[(false,eval b X.env)]:=by rfl):
  PI X (.Tuple elts k tpos) (.Call (.Name "zip" p) [a,b] [] pos) (Uc X.K ta):=by
 intro l s Q H R I h;show Call_ (gO I w x (show bootBuiltins "zip"=!(.type "zip")by ac_nf) (Ą (bA (v pos l s Q H _ I h) λW d ⟨Y,u,f,K,J⟩=>?_) (by rw[y,j]) (by rw[j];rfl)));let#[D,E,Z,ys,e,m,n,q]:=J;subst e
 cases K with
 |cons r rr=>
  cases rr with
  |cons r' rr=>
   cases rr
   cases r
   cases r';let#[B,U,F,z]:=f.list m;let#[o,L,G,A]:=f.list n;show call_zip_2 F.isList G.isList λS t M N O P z6 C=>?_
   show wpAny_pyIter_zip t ?_;show#[d.heap.objs.size+4,[d.heap.objs.size+4,d.heap.objs.size+2,d.heap.objs.size+3,d.heap.objs.size,d.heap.objs.size+1],_,_,u,rfl,f.kept (t':=d.toks) C,Gd D E #[?_,?_,?_,?_,?_,?_,?_,?_,?_,?_],#[t,M,#[_,_,N],O,P],λc g=>?_,q];all_goals first
    |(change(_:Nat)≠_;rfl')
    |skip
   have i:d.heap.objs.size<=c:=by
    simp only[Ç,Þ,ć]at g;rcases g with rfl|rfl|rfl|rfl|rfl<;>(change(_:Nat)<=_;rfl')
   show f.fpOk i (f.hok.fresh i)
structure Cal(P:ϓ)(w:ϕ)(K:Ϗ)(mg:ϐ->ύ ϋ)(base:ϒ)(n:Nat)(x:ϐ)(ps:ϊ ϐ)(sp:Sp):Prop where
 ex:∃(f:ό)(fd:FuncData),FnOk P w K mg base TY n f fd ps sp/\Binds K fd ps []/\W.keepIn K (.ref f)=true/\mg x=!(.ref f)
section
variable{X:Cx}{n k:Nat}
theorem ym(c:Cal X.prog X.w X.K X.mg X.base n x ps sp)(m:Room k X.A)(j:n<=k)(i:Gl X x)(d:PA X (e::es) t)(a:(x==("__debug__":ϐ))=false:=by decide)
  (h:starEach (e::es) X.env=(false,eval e X.env)::starEach es X.env:=by rfl) (b:(backTo pos (starEach es X.env)).any (·.1)=false:=by rfl):
  PE X (.Call (.Name x p) (e::es) [] pos) (pF sp [] E0 t):=by
 let#[f,q,F,g,o,l]:=c.ex;show O9 F (m.mono j) i l o g .nil R5 d a h b
theorem Aj(c:Cal X.prog X.w X.K X.mg X.base n x ps sp)(h:Room k X.A)(e:n<=k)(d:Gl X x)(a:(x==("__debug__":ϐ))=false:=by decide):
  PE X (.Call (.Name x p) [] [] pos) (pF sp [] E0 f9):=by
 let#[f,j,F,b,i,g]:=c.ex;show Ft F (h.mono e) d g i b .nil R5 a
end
def small(h:n<=1000):n<=sizeLine:=ï (CK h)
theorem aq{p:ό}(h:H p=none)(o:HO):Same H (upd H p o):=λb u q=>by rw[ao (aU q h)];show q
def Same.get{b:Hp}(e:Same H b)(h:H a=!o):b a=!o:=e a o h
def az{p:ό}(h:H p=none)(q:H a=!o):upd H p o' a=!o:=aq h o' a o q
section
variable{X:Cx}(K:Ϗ)(hK:X.K=K)
include hK
theorem Ge:Xk X (cu K):=hK▸Ob
theorem Pa:Xk X (fO K):=hK▸Tw
theorem ju:Tt X (vH K):=hK▸Oc
theorem gr:iw X (compareOp .In) (El K false):=hK▸Cy
theorem rA:iw X (compareOp .NotIn) (El K true):=hK▸u5
theorem Ak(a:X.A.units+64<cLine):iw X (compareOp .Eq) (rEqD K):=hK▸U9 a
theorem ul(a:X.A.units+64<cLine):iw X (compareOp .NotEq) (rNeD K):=hK▸Ua a
def vU(K:Ϗ):ϊ V->Hp->VK->Prop:=λxs H Q=>∃x n,xs=[x]/\XS K x H n/\Q (.int n) H
theorem aB:bU X (.builtin "len") (vU K):=by subst hK;show Fl
def gK(K:Ϗ):ϊ V->Hp->VK->Prop:=λxs H Q=>∃p ys,xs=[.ref p]/\(SqL K H p ys\/SqT K H p ys)/\∀l,H l=none->Q (.ref l) (upd H l (.lst ys))
theorem d7:bU X (.type "list") (gK K):=by subst hK;show u6
def dN(K:Ϗ):ϊ V->Hp->VK->Prop:=λxs H Q=>∃p ys,xs=[.ref p]/\((SqL K H p ys/\∀l,H l=none->Q (.ref l) (upd H l (.tup ys)))\/(SqT K H p ys/\Q (.ref p) H))
theorem c7:bU X (.type "tuple") (dN K):=by subst hK;show rn
def fU(K:Ϗ):ϊ V->Hp->VK->Prop:=λxs H Q=>∃T x t b,xs=[x,.ty T]/\TyOf K H x t/\PySem.W.kitOne K t (.type T)=!b/\Q (.bl b) H
theorem cJ:bU X (.builtin "isinstance") (fU K):=by subst hK;show vQ
def Pb(K:Ϗ):ϊ V->Hp->VK->Prop:=λxs H Q=>∃(a:ό)(ns:ϊ Int),xs=[.ref a]/\SqL K H a (ns.map V.int)/\Q (.int ns.sum) H
theorem sE(a:X.calm=true):bU X (.builtin "sum") (Pb K):=by subst hK;show Ga a
theorem aR(a:PE X l tl):PI X tg l (bY K tl):=hK▸O5 a
theorem fV(a:PE X l tl):PI X tg l (ph K tl):=hK▸Th a
abbrev jw(K:Ϗ)(ta:TE):TT:=λσ H Q=>ta σ H λx H'=>∃k,Fg K x H' k/\Q k H'
theorem bF{a:Expr}(d:PE X a c)(e:∀b,isTrue a X.env b=(do let v<-b;standAt a.pos;holding [v] (truthy v))):PT X a (jw K c):=by subst hK;show Fi d e
theorem cL{a:ϊ Expr}(c:X.calm=true)(h:XD X a t)
  (d:↑(assignEach a X.env)=n:=by rfl) (b:(assignEach a X.env).findIdx? (·.1)=none:=by rfl):PG X (.Tuple a k pos) (je K n t):=by subst hK;show Tg c h d b
theorem Gf{a:Expr}(f:Gl X "zip")(e:X.calm=true)(g:X.mg "zip"=none)(d:PA X [a,b] ta)(h:starEach [a,b] X.env=[(false,eval a X.env),(false,eval b X.env)]:=by rfl)(c:starEach [b] X.env=[(false,eval b X.env)]:=by rfl):
  PI X (.Tuple elts k tpos) (.Call (.Name "zip" p) [a,b] [] pos) (Uc K ta):=by subst hK;show P0 f e g d h c
end
section
variable{X:Cx}(K:Ϗ)(hK:X.K=K){o e:Expr}{es:ϊ Expr}{to:TE}{t:TA}{name:ϐ}{apos cpos:Pos}{T id:String}{r:V->ϊ V->Hp->VK->Prop}
include hK
theorem Ph(g:PlainAttrs T)(c:Slot T name id)(d:typeOf (.builtin id)=pure (.type "method_descriptor"))(e:Tv X id r)(f:PE X o to)(a:attributeBase o name X.env (eval o X.env)=eval o X.env:=by rfl)
  (b:(apos.endLine==cpos.line)=true:=by rfl):PE X (.Call (.Attribute o name apos) [] [] cpos) (TF K T r to):=by subst hK;show TJ g c d e f a b
theorem jx(l:PlainAttrs T)(f:Slot T name id)(g:typeOf (.builtin id)=pure (.type "method_descriptor"))(i:Tv X id r)(j:PE X o to)(h:PA X (e::es) t)(b:attributeBase o name X.env (eval o X.env)=eval o X.env:=by rfl)
  (d:((backTo cpos (starEach (e::es) X.env)).all (λx=>not x.1)&&(backToKw cpos (keywordEach [] X.env)).all (λx=>x.1.isSome)&&decide (↑(e::es)+↑([]:ϊ Keyword)+(if([]:ϊ Keyword).isEmpty then 0 else 1)<30))=true:=by rfl)
  (c:(apos.endLine==cpos.line)=true:=by rfl) (k:starEach (e::es) X.env=(false,eval e X.env)::starEach es X.env:=by rfl) (a:(backTo cpos (starEach es X.env)).any (·.1)=false:=by rfl):
  PE X (.Call (.Attribute o name apos) (e::es) [] cpos) (qT K T r to t):=by subst hK;show Y4 l f g i j h b d c k a
end
abbrev bQ:R2:=qW λi j=>.int (i+j)
abbrev pR:R2:=qW λi j=>.int (i-j)
abbrev gw:R2:=rI CMul λi j=>.int (i*j)
abbrev eN:R2:=rI XJ λi j=>.int (i/j)
abbrev bJ:R2:=rI (λ_ j=>0<j) λi j=>.int (i%j)
abbrev Gg:R2:=rI XM λi j=>.int (i*2^j.toNat)
abbrev Rb:R2:=rI (λ_ j=>0<=j) λi j=>.int (i/2^j.toNat)
abbrev Rc:R2:=qW λi j=>.int (Builtin.bitAnd i j)
abbrev a0x:R2:=qW λi j=>.int (Builtin.bitOr i j)
abbrev Rf:R2:=qW λi j=>.int (Builtin.bitXor i j)
abbrev rB:R2:=qW λi j=>.bl (decide (i<j))
abbrev CZ:R2:=qW λi j=>.bl (decide (i<=j))
abbrev uo:R2:=qW λi j=>.bl (decide (j<i))
abbrev a0y:R2:=qW λi j=>.bl (decide (j<=i))
abbrev fW:R2:=λx y H Q=>∃i j,x=.str i/\y=.str j/\↑i+↑j<=sizeLine/\Q (.str (i++j)) H
abbrev pU:R2:=λx y H Q=>∃i j,x=.str i/\y=.str j/\Q (.bl (not (decide (j.cps.toList<i.cps.toList)))) H
abbrev lW:R2:=λx y H Q=>y=.non/\Q (.bl (decide (x=.non))) H
abbrev mO:R2:=λx y H Q=>y=.non/\Q (.bl (not (decide (x=.non)))) H
abbrev pW:V->Hp->VK->Prop:=rU λi=>.int (-i)
abbrev Rg:ϊ V->Hp->VK->Prop:=λxs H Q=>∃x,xs=[.str x]/\↑x=1/\Q (.int (x.cps.getD 0 0:Nat)) H
abbrev Gh:ϊ V->Hp->VK->Prop:=λxs H Q=>∃i j,xs=[.int i,.int j]/\Q (.int (if j<i then j else i)) H
abbrev Al:Xi:=ipI λi j=>i+j
abbrev Ud(X:Cx)(pins:ϸ)(xe:϶):Cx where
 prog:=X.prog
 w:=X.w
 K:=X.K
 mg:=X.mg
 base:=X.base
 A:=X.A
 N:=X.N
 s₀:=X.s₀
 H₀:=X.H₀
 env:=X.env
 outer:=X.outer
 stack:=X.stack
 ex:=X.ex
 fn:=X.fn
 calm:=X.calm
 pn:=X.pn++pins
 xe:=xe
section
variable{X:Cx}
theorem Inv.tryIn(I:Inv X pins σ H s)(b:϶):Inv (Ud X pins b) [] σ H s:=
 ⟨⟨I.ok.mod,I.ok.kind,I.ok.glob,I.ok.blt,I.ok.above,I.ok.inj,I.ok.has,I.ok.cab,I.ok.hd,I.ok.frames,I.ok.stk,I.ok.exf,I.ok.bs,I.ok.bsz,I.ok.noex,I.ok.exfs,I.ok.funs,I.ok.frf⟩,
  I.os,I.bare,I.base,I.loc,I.cell,I.free,I.freeC,λp a=>I.pin p (by simpa using a),I.hok,I.len⟩
theorem Inv.tryOut(I:Inv (Ud X pins xe) pins' σ H s):Inv X pins σ H s:=
 ⟨⟨I.ok.mod,I.ok.kind,I.ok.glob,I.ok.blt,I.ok.above,I.ok.inj,I.ok.has,I.ok.cab,I.ok.hd,I.ok.frames,I.ok.stk,I.ok.exf,I.ok.bs,I.ok.bsz,I.ok.noex,I.ok.exfs,I.ok.funs,I.ok.frf⟩,
  I.os,I.bare,I.base,I.loc,I.cell,I.free,I.freeC,λp a=>I.pin p (á _ a),I.hok,I.len⟩
end
section
variable{X:Cx}{i:Nat}
abbrev behind(i:Nat)(D:Ends):Ends where
 nx:=λσ H=>D.nx (σ.set i none) H
 rt:=D.rt
 bk:=λσ H=>D.bk (σ.set i none) H
 ct:=λσ H=>D.ct (σ.set i none) H
end
end L2
end
section
namespace L2
open PySem PySem.Spec PySem.Calls PyProof.Rows PySem.W PySem.Builtin PySem.Builtin.ObjectAttr PySem.Builtin.Getset_descriptor
structure ExcK(K:Ϗ)(C:ό):Prop where
 ex:PySem.W.excIn K C [.type "ValueError",.type "Exception",.type "BaseException",.type "object"] "ValueError.__new__"=true
 ga:findIn K (.ref C) "__getattribute__"=!(!(.builtin "BaseException.__getattribute__"))
 gt:findIn K (.ref C) "__getattr__"=!none
 cl:findIn K (.ref C) "__class__"=!(!(.builtin "object.__class__"))
 ge:specialIn K (.builtin "object.__class__") "__get__"=!(!(.builtin "getset_descriptor.__get__"))
 tk:takesIn K (.builtin "object.__class__")=!true
 mo:mroIn K C (.type "object")=!true
 mb:subIn K (.ref C) (.type "BaseException")=!true
end L2
end
section
namespace L2
open PySem PySem.Spec PyProof.Rows
variable{k:Nat}
theorem kO:∀{ys:ϊ ϐ}{us:ϊ ϋ},Vals (ys.map V.str) us->StrsAre us ys
 |[],_,r=>by cases r;show .nil
 |y::ys,_,r=>by
  cases r with
  |cons r rr=>
   let#[t,rfl]:=r;show .cons y t (kO rr)
def rJoin(K:Ϗ):V->ϊ V->Hp->VK->Prop:=λx vs H Q=>∃(s:ϐ)(a:ό)(ys:ϊ ϐ),x=.str s/\vs=[.ref a]/\SqL K H a (ys.map V.str)/\(ys.map (·.length)).sum+↑ys*↑s<=16777216/\Q (.str (Txt.join s ys)) H
def Ue:V->ύ Int->ύ Int->Hp->VK->Prop:=λx lo hi H Q=>∃s:ϐ,x=.str s/\↑s<=sizeLine/\Q (.str (Txt.slice s lo hi)) H
section
variable{X:Cx}
theorem Pj:Tv X "str.join" (rJoin X.K):=by
 intro c s w H x o v n Q I j i h;let#[z,a,p,rfl,rfl,e,b,q]:=h;let#[t,rfl]:=j;let#[u,rfl,g]:=i.one
 cases(show u=Value.ref a from g);let#[f,r,d,m]:=I.list e;show join_list d.isList (kO r) b λl k=>#[.str _,H,I.tok k,#[l,rfl],q]
def vV(K:Ϗ)(a:X.K=K):Tv X "str.join" (rJoin K):=a▸Pj
theorem Ug:Tt X Ue:=by
 intro a s w H x v y A lo m d Q I p b o c h;let#[z,rfl,n,q]:=h;let#[t,rfl]:=p;have fin:∀(l u:ύ (Int×Tok)),l.map (·.1)=lo->u.map (·.1)=m->s.heap.IsSlice d l u none->wpAny (model X.prog X.w) X.A (getItem (.str z t) (.ref d)) (EP X a w Q) X.xe s:=by
  intro l u e f g;show wpAny_getItem_str_slice (l:=l) (u:=u) (st:=none) g rfl ?_;subst e f;show post_val_or_str #[Nat.le_trans (Txt.slice_le z _ _) n,λr k=>#[.str _,H,I.tok k,#[r,rfl],q]]
 show#["str",_,F.slot_str_getitem.lookup,typeIs_str _ _ _,?_]
 cases o with
 |none=>
  cases c with
  |none=>show fin none none rfl rfl b
  |int j u=>show fin none (!(j,u)) rfl rfl b
 |int i u=>
  cases c with
  |none=>show fin (!(i,u)) none rfl rfl b
  |int j u'=>show fin (!(i,u)) (!(j,u')) rfl rfl b
end
def Ite(K:Ϗ)(a:ό):It:=
 ⟨λi H=>∃xs x,SqL K H a xs/\xs[i]?=!x,
  λi H v H'=>∃p x,H p=none/\v=.ref p/\H'=upd H p (.tup [.int (i:Int),x])/\∀xs,SqL K H a xs->xs[i]?=!x,
  λi H=>∃xs,SqL K H a xs/\↑xs<=i⟩
structure EnSt(e it a:ό)(i:Nat)(h:ϒ):Prop where
 he:∃old,IsEnum h e it (i:Int) old
 h1:h.IsListIter it a i
theorem Dc{P:ϓ}{K:Ϗ}{e y:ό}(a:ό)(D:e≠y):
  Turn P w K (.Tuple elts k tpos) (Ite K a) [e,y] e (EnSt e y a)where
 mem:=by simp
 obj:=λi h j c r=>by
  let#[#[f,d],#[Y,C,c1,d1]]:=j;simp only[Ç,Þ,ć]at r;rcases r with rfl|rfl
  .show #[_,d,λv z=>by cases z]
  .show #[Y,C,λv z=>by rw[d1]at z;cases z]
 keep:=λi h S j m=>by
  let#[#[f,d],l]:=j;show#[#[f,m e (by simp) _ d],l.at λo e=>m y (by simp) o e]
 item:=by
  intro X G N F r i A s σ H E I B j J;subst G N F;let#[xs,x,g,U]:=J;let#[Q,R,p,O]:=I.list g;let#[u,hu,ru]:=R.get U;let#[#[f,d],l]:=id j;show wpAny_pyNext_enum_item (x:=u) d l p.isList (by simpa using hu) D λS a1 a2 a3 a4 a5=>?_
  show#[_,rfl,wpAny_letOwnedTupleGo_enum a1 λn b1 M=>?_];have hT:s.heap.objs.size≠e:=ę (Ê d);have m:∀c o,c∉[e,y]->s.heap.get? c=!o->n.get? c=!o:=λc o b q=>by
   simp only[Ç,Þ,ć,not_or]at b;show M.extBut _ _ b.1 (a5 c o b.1 b.2 q)
  have e5:n.get? s.heap.objs.size=!{cls:=.type "tuple",data:=.seq ([.int i s.toks,u].toArray)}:=M.extBut _ _ hT a3;let#[t,Z]:=I.yields (t':=s.toks+1) m B (x:=.int (i:Int)) #[_,rfl] ru e5;show#[.ref s.heap.objs.size,_,Z,rfl,#[_,x,t,rfl,rfl,λac h=>by rw[I.list_inj h g];show U],#[#[u,by have:=b1;rwa[show((i:Int)+1)=((i+1:Nat):Int)by rfl']at this],a2.extBut M.extBut (Ne.symm D)],λc b=>?_];have L:c<s.heap.objs.size:=by
   let#[Y,C,_]:=l;simp only[Ç,Þ,ć]at b;rcases b with rfl|rfl
   .show Ê d
   .show Ê C
  rw[ao (ã L)];show(B c b).1
 done:=by
  intro X G N F r i A s σ H E I B j J;subst G N F;let#[xs,g,T]:=J;let#[Q,R,p,O]:=I.list g;let#[#[f,d],l]:=id j;have ab:=↑R;show wpAny_pyNext_enum_end (I.ok.hd r) d l p.isList (by simp;rfl') λS m=>?_
  show#[rfl,I.turnedAll (t':=s.toks) (λc o b q=>?_) B];simp only[Ç,Þ,ć,not_or]at b;show m c o b.2 q
 self:=λ_ _ _ _ _ j h=>by
  let#[f,d]:=j.he;show wpAny_pyIter_enum d h
abbrev Am(K:Ϗ)(ta:TA):TI:=λσ H R=>ta σ H λvs H1=>∃a xs,vs=[.ref a]/\SqL K H1 a xs/\R (Ite K a) H1
theorem Pk{X:Cx}(o:Gl X "enumerate")(F:X.calm=true)(t:X.mg "enumerate"=none)(n:PA X [a] ta)(u:starEach [a] X.env=[(false,eval a X.env)]:=by rfl):
  PI X (.Tuple elts k tpos) (.Call (.Name "enumerate" p) [a] [] pos) (Am X.K ta):=by
 intro f s D H R I h;show Call_ (gO I o t (show bootBuiltins "enumerate"=!(.type "enumerate")by ac_nf) (Ą (bA (n pos f s D H _ I h) λJ g ⟨K,m,i,B,A⟩=>?_) (by rw[u];rfl) (by rfl)));let#[y,L,e,j,q]:=A;subst e
 cases B with
 |cons r rr=>
  cases rr
  cases r;let#[w,G,z,v]:=i.list j;show call_enumerate_list z.isList λE l C M x=>?_
  show wpAny_pyIter_enum l ?_;show#[g.heap.objs.size+1,[g.heap.objs.size+1,g.heap.objs.size],_,_,m,rfl,i.kept (t':=g.toks) x,Dc y (by change(_:Nat)≠_;rfl'),#[#[_,l],C],λc b=>?_,q];have d:g.heap.objs.size<=c:=by
   simp only[Ç,Þ,ć]at b;rcases b with rfl|rfl<;>(change(_:Nat)<=_;rfl')
  show i.fpOk d (i.hok.fresh d)
theorem vW{X:Cx}(K:Ϗ)(b:X.K=K)(e:Gl X "enumerate")(d:X.calm=true)(f:X.mg "enumerate"=none)(c:PA X [a] ta)(g:starEach [a] X.env=[(false,eval a X.env)]:=by rfl):
  PI X (.Tuple elts k tpos) (.Call (.Name "enumerate" p) [a] [] pos) (Am K ta):=by subst b;show Pk e d f c g
section
variable{i ep:Nat}
theorem Gi{c:Type}{P:c->ώ->Prop}{h:ϒ}(f:A.handled=none)(g:Heap.SameBut it h s.heap)(d:∀h',Heap.ExtBut it h h'->Q none {s with heap:=h'}):
  wpAny (model prog w) A.in1 (newExc (.type "StopIteration") []>>=λe=>(raiseNew e:Sem c)) P (λv s'=>wpAny (model prog w) A (do if <-isInstance v (.type "StopIteration")then pure none else throw v:Sem (ύ ϋ)) Q E s') s:=by
 show Zp ?_;simp-iota only[newExc,newTuple];show Zp (ù ?_ (by size_fits));show Zp (m:=firstArgMember _ _) (wpAny_of_eq (a:=Value.none) (by first|rfl|(simp-iota only[firstArgMember];rfl)) ?_);show ù ?_ (by size_fits);simp-iota only[raiseNew];show Zp (wpAny_handled ?_);rw[show A.in1.handled=none from f];show Zp (Á (wpAny_throw ?_));show Zp (ŧ (T:="StopIteration") (b:=true) #[_,Ë _ rfl,rfl] isSubtype_stop (Á (d _ ((g.extBut.push _).push _))))
theorem lX(x:A.handled=none)(g:s.heap.IsKeyIter it d i es.size ep)(h:s.heap.get? d=!od)(f:od.data=.dict es ep)
  (u:∀(hi:i<es.size) h',h'.IsKeyIter it d (i+1) es.size ep->Heap.SameBut it s.heap h'->Q (!es[i].key) {s with heap:=h'})
  (t:es.size<=i->∀h',Heap.ExtBut it s.heap h'->Q none {s with heap:=h'}):wpAny (model prog w) A (pyNext (.ref it)) Q E s:=by
 let#[o,j,v,e]:=id g;have T:=g.typeIs (s:=s);unfold pyNext;show Zp (wpAny_attempt (wpAny_callSpecial?_slot (name:=Str.ofString "__next__") T F.slot_dict_keyiterator_next (ò F.slot_dict_keyiterator_next T F.entry_dict_keyiterator_next ?_ (F.args_dict_keyiterator_next_1 _))));have q:Builtin.Dict_items.ownsTuple "dict_keyiterator"=false:=by decide
 have r:¬(Value.ref d==Value.none)=true:=Ò;have y:¬((i:Int)<0):=()
 have l:∀{k:ώ}{m:ϖ}{n:϶}{R:String->ώ->Prop},k.TypeIs (.ref it) "dict_keyiterator"->R "dict_keyiterator" k->wpAny (model prog w) m (typeNameOfWhole (.ref it)) R n k:=λa b=>wpAny_typeNameOfWhole_keyiter a b
 repeat(first
  |(show l T ?_)
  |(show wpAny_fieldsOf j e ?_)
  |(show ĭ h f ?_)
  |(show wpAny_dictEpoch h f ?_)
  |(show χ T ?_)
  |(show Á ?_)
  |(show Zp ?_)
  |(simp only[q,ä,Ć])
  |(rw[if_neg r])
  |(rw[if_neg (by simp)]))
 rw[Ð];rcases Ġ i es.size with hi|hi
 .rw [ā hi];have c:(s.heap.update it (Obj.mapFields (·.setIfInBounds 1 (rawInt ((i:Int)+1))))).IsKeyIter it d (i+1) es.size ep:=#[_,ĝ _ j (Obj.isFreed_of_fields (Μ e _)),(Obj.cls_mapFields ..).trans v,by rw[Μ e];simp[rawInt]];have p:=c.typeIs (s:={s with heap:=s.heap.update it (Obj.mapFields (·.setIfInBounds 1 (rawInt ((i:Int)+1))))});dsimp only;show Zp (Zp (l T (Á (Zp (χ T ?_)))));change wpAny (model prog w) A.in1 (do setField (.ref it) 1 (rawInt ((i:Int)+1));_) _ _ s;show Zp (η j e (by simp) (Zp (ÿ (Zp (χ p (Á ?_))))));show Á #[_,rfl,Á (u hi _ c (ą ..))]
 .rw [Array.getElem?_eq_none hi];dsimp only;show Zp (Zp (l T (Á ?_)));change wpAny (model prog w) A.in1 (do setField (.ref it) 0 .none;_) _ _ s;show Zp (η j e (by simp) (Gi x (ą ..) (t hi)))
def vX(f:A.handled=none)(b:s.heap.IsKeyIter it d i es.size ep)(c:s.heap.get? d=!od)(a:od.data=.dict es ep)(g:i<es.size)
  (e:∀h',h'.IsKeyIter it d (i+1) es.size ep->Heap.SameBut it s.heap h'->Q (!es[i].key) {s with heap:=h'}):wpAny (model prog w) A (pyNext (.ref it)) Q E s:=
 lX f b c a (λ_=>e) λn=>absurd g (Nat.not_lt.mpr n)
def An(f:A.handled=none)(b:s.heap.IsKeyIter it d i es.size ep)(c:s.heap.get? d=!od)(a:od.data=.dict es ep)(g:es.size<=i)
  (e:∀h',Heap.ExtBut it s.heap h'->Q none {s with heap:=h'}):wpAny (model prog w) A (pyNext (.ref it)) Q E s:=
 lX f b c a (λn=>absurd n (Nat.not_lt.mpr g)) λ_=>e
theorem pX(c:(d==sysModules)=false)(T:s.TypeIs (.ref d) "dict")(b:s.heap.get? d=!od)(a:od.data=.dict es ep)
  (e:R (.ref s.heap.objs.size) {s with heap:=s.heap.push {cls:=.type "dict_keyiterator",data:=.fields ([.ref d,.int 0 0,.int es.size 0,.int ep 0].toArray)}}):wpAny (model prog w) A (pyIter (.ref d)) R E s:=by
 show wpAny_pyIter_slot T F.slot_dict_iter (ò F.slot_dict_iter T F.entry_dict_iter ?_ (F.args_dict_iter_1 _));unfold Builtin.«dict.__iter__» Builtin.Dict.dictSlotNone Builtin.Dict.showsAll;have f:¬((d==sysModules)=true):=by rw[c];show Ò
 show Zp (Zp (Ĵ T ?_));change wpAny _ _ (pure (Value.ref d)) _ _ s;show Á ?_;change wpAny _ _ ((if(d==sysModules)=true then _ else _)>>=_) _ _ s;rw[if_neg f];show Zp (Á (Zp (ĭ b a (Zp (wpAny_dictEpoch b a ?_)))));show Zp (ù (Á #[_,rfl,"dict_keyiterator",_,#[_,Ë _ rfl,rfl],F.slot_dict_keyiterator_next.lookup,by simpa[rawInt]using e]))
end
def Fz:HO->Prop
 |.dK _=>True
 |.dT _=>True
 |.ext _=>True
 |_=>False
theorem HOk.freeze{a:ό}(x:HOk P w H h)(f:H a=!u)(i:h.get? a=!d)(j:Fz u):HOk P w (upd H a (.frz d u)) h:=by
 have n:∀c v,H c=!v->¬Fz v->upd H a (.frz d u) c=!v:=λc v q n=>by rw[ao (fZ q f λz=>n (z▸j))];show q
 intro b v e;by_cases g:b=a
 .subst g;rw[aa]at e
  cases e;show#[i,(x b _ f).stay (λc v _ q=>q) (λc q=>n c _ q id) λc k q=>n c _ q id]
 .rw [ao g]at e;show(x b v e).stay (λc v _ q=>q) (λc q=>n c _ q id) λc k q=>n c _ q id
theorem Inv.freeze{X:Cx}{a:ό}(I:Inv X pins g H s)(d:H a=!u)(h:s.heap.get? a=!e)(f:Fz u):Inv X pins g (upd H a (.frz e u)) s:=
 have n:∀c v,H c=!v->¬Fz v->upd H a (.frz e u) c=!v:=λc v q n=>by rw[ao (fZ q d λz=>n (z▸f))];show q
 I.call' (ch:=[]) rfl ⟨λb o q _ _ _=>q,λb o q _ _ _=>⟨o.slots,q⟩,λb o q n _=>by rw[ao (λz=>by rw[z,d]at n;cases n)];show n,λb o q _=>⟨o,q⟩,
  λb k q=>n b _ q id,λb o u q=>n b _ q id,λb j q=>⟨([].toArray),by rw[n b _ q id];simp⟩⟩ (I.hok.freeze d h f) I.bare λb i=>nomatch i
theorem fX{c d:Type}{F:c->d->Prop}:∀{l₁:ϊ c}{l₂:ϊ d}(i:Nat),Paired F l₁ l₂->i<↑l₁->∃a b,l₁[i]?=!a/\l₂[i]?=!b/\F a b
 |_,_,_,.nil,h=>by simp at h
 |_,_,0,.cons r _,_=>#[_,_,rfl,rfl,r]
 |_,_,i+1,.cons _ t,h=>by
  let#[a,b,e,f,g]:=fX i t (by simpa using h);show#[a,b,by simpa using e,by simpa using f,g]
def Itd(od:Obj)(a:ό):It:=
 ⟨λi H=>∃kvs,H a=!(.frz od (.dT kvs))/\i<↑kvs,
  λi H v H'=>H'=H/\∀kvs,H a=!(.frz od (.dT kvs))->∃k x b,kvs[i]?=!(k,x)/\v=.ref b/\H b=!(.tup (k.map kV)),
  λi H=>∃kvs,H a=!(.frz od (.dT kvs))/\↑kvs<=i⟩
theorem De{P:ϓ}{K:Ϗ}(t a:ό){M:Obj}{n:ϔ DictEntry}{ep:Nat}(j:M.data=.dict n ep):Turn P w K tg (Itd M a) [t] t (λi h=>h.IsKeyIter t a i n.size ep)where
 mem:=by simp
 obj:=λi h m b g=>by
  have e:b=t:=by simpa using g
  subst e;let#[o,e,c,d]:=m;show#[o,e,λv z=>by rw[d]at z;cases z]
 keep:=λi h J m k=>by
  let#[o,e,r]:=m;show#[o,k t (by simp) o e,r]
 item:=by
  intro X Z hw Y hc i p s σ H E I L m hg;subst Z hw Y;let#[f,G,hi]:=hg;let#[B,_,_,D,l,o,O,N,u,_,A,F,_]:=(show ObjOk X.prog X.w H s.heap a (.frz M (.dT f))from I.hok a _ G);rw[B]at u
  cases u;rw[j]at A
  cases A;have ad:n.size=↑D:=by rw[<-ø,F,Qb]
  have hl:↑f=↑D:=Ď l;let#[Q,R,f2,S,T,U]:=L t (by simp);show vX (I.ok.hd hc) m B j () λJ C hs=>?_
  have I1:Inv X p σ H {s with heap:=J,toks:=s.toks}:=I.turned (λb o g e=>hs.extBut b o g e) Q R S T U;let#[o,e,ab,d]:=id C;let#[#[k,x],#[k',b,y],hk,hx,r1,g,_]:=fX i l hi;have ac:(n[i]'(by rfl')).key=.ref b:=by
   have z:n.toList[i]?=!(PySem.entryOfKey (tupleKind (bf X.prog X.w)) (k',b,y)):=by rw[F,Jn,hx];rfl
   have z2:n.toList[i]?=!(n[i]'(by rfl')):=by rw[û,ā]
   rw[z2]at z;rw[ß z];rfl
  show#[_,rfl,nA (s:={s with heap:=J}) e ab d (by decide) ⟨.ref b,H,I1,by rw[ac];rfl,#[rfl,λae q=>?_],C,λb g=>(L b g).1⟩];rw[G]at q
  cases q;show#[k,x,b,hk,rfl,g]
 done:=by
  intro X Z hw Y hc i p s σ H E I L m hg;subst Z hw Y;let#[f,G,hi]:=hg;let#[B,_,_,D,l,o,O,N,u,_,A,F,_]:=(show ObjOk X.prog X.w H s.heap a (.frz M (.dT f))from I.hok a _ G);rw[B]at u
  cases u;rw[j]at A
  cases A;have ad:n.size=↑D:=by rw[<-ø,F,Qb]
  have hl:↑f=↑D:=Ď l;let#[Q,R,f2,S,T,U]:=L t (by simp);show An (I.ok.hd hc) m B j () λJ kk=>#[rfl,I.turned (t':=s.toks) (λb o g e=>kk b o g e) Q R S T U]
 self:=λ_ _ _ _ _ m h=>wpAny_pyIter_keyiter m h
abbrev Rh(tl:TE):TI:=λσ H R=>tl σ H λx H1=>∃a kvs,x=.ref a/\H1 a=!(.dT kvs)/\∀od,R (Itd od a) (upd H1 a (.frz od (.dT kvs)))
theorem Pn{X:Cx}(u:PE X l n):PI X tg l (Rh n):=by
 intro d s A H R I h;show bA (u d s A H _ I h) λv i ob=>?_
 let#[x,p,f,y,w]:=ob;let#[a,k,rfl,g,q]:=w
 cases y;let#[_,j,E,z,o,D,C,c,r,m,B,_]:=(show ObjOk X.prog X.w p i.heap a (.dT k)from f.hok a _ g);show pX j #[o,c,r.1] c m ?_;show#[i.heap.objs.size,[i.heap.objs.size],_,_,_,rfl,(f.freeze g c trivial).kept (t':=i.toks) λb o e=>Ã _ e,De _ a m,#[_,Ë _ rfl,rfl,rfl],λb t=>?_,q o];have e:=Zs.mp t;subst e;show(f.freeze g c trivial).fpOk (Ä _) ((f.freeze g c trivial).hok.fresh (Ä _))
theorem sG{a:ϊ ϐ}(h:StrsAre b a):Vals (a.map V.str) b:=by
 induction h with
 |nil=>show .nil
 |cons n t _ ih=>show .cons #[t,rfl] ih
def Uh(K:Ϗ):ϊ V->Hp->VK->Prop:=λxs H Q=>∃(a:ό)(ns:ϊ ϐ),xs=[.ref a]/\SqL K H a (ns.map V.str)/\↑ns<64/\∀r (ns':ϊ ϐ),ns'.Perm ns->sortedS ns'=true->H r=none->Q (.ref r) (upd H r (.lst (ns'.map V.str)))
theorem yo{X:Cx}:bU X (.builtin "sorted") (Uh X.K):=by
 intro j s E H D C Q I z h;let#[a,B,rfl,x,g,q]:=h;let#[u,rfl,y]:=z.one
 cases(show u=Value.ref a from y);let#[c,r,w,A]:=I.list x;have n:=kO r;have p:=↑r;rw[Qb]at p;show sorted_strs (vs:=c) w.isList n () λf d k i v=>?_
 let#[e,m]:=sortedAll_at s.heap c f;have t:H (s.heap.objs.size+1)=none:=I.hok.fresh (Nat.le_succ _);show#[.ref _,_,I.laid (t':=s.toks) (a:=s.heap.objs.size+1) (o:=.lst (d.map V.str)) (λb o l=>sortedAll_old l) (Nat.le_succ _) (show ObjOk X.prog X.w _ _ _ (.lst _)from#[?_,f.toList,e,sG k,?_]),rfl,q _ d i v t]
 .rw [Qb,i.length_eq];show ï (Ŭ g (by decide))
 .rw [m]
end L2
end
section
namespace Sx
open PySem PyProof.Rows
structure Wk(B:Keyed->Keyed->ϑ):Prop where
 rf:∀p,B p p=false
 tr:∀{p q r},B q p=false->B r q=false->B r p=false
 an:∀{p q},B p q=true->B q p=false
def gt(xs:ϔ Keyed)(i:Nat):Keyed:=xs[i]?.getD (.none,.none)
def Up(B:Keyed->Keyed->ϑ)(xs:ϔ Keyed)(k:Nat):Prop:=∀i j,i<=j->j<k->B (gt xs j) (gt xs i)=false
def Dn(B:Keyed->Keyed->ϑ)(xs:ϔ Keyed)(k:Nat):Prop:=∀i j,i<=j->j<k->B (gt xs i) (gt xs j)=false
def Eb(B:Keyed->Keyed->ϑ)(xs:ϔ Keyed)(l k:Nat):Prop:=∀i j,l<=i->i<k->l<=j->j<k->B (gt xs i) (gt xs j)=false
structure Bs(kd:SortKind)(a0:ϔ Keyed)(st:SortSt):Prop where
 pm:(arrOf st).Perm a0
 kn:kindOf st=kd
 fl:failedOf st=none
 pe:pendingOf st=([].toArray)
section
variable{kd:SortKind}{st:SortSt}{k l m:Nat}
def Bs.sz(b:Bs kd a0 st):(arrOf st).size=a0.size:=b.pm.size_eq
def Bs.put(b:Bs kd a0 st)(a:xs.Perm (arrOf st)):Bs kd a0 (setArr st xs):=#[a.trans b.pm,b.kn,b.fl,b.pe]
theorem Gj{a d:Nat}(c:a<xs.size)(b:d<=a):gt (bubble xs a d) k=if k=a-d then gt xs a else if a-d<k/\k<=a then gt xs (k-1)else gt xs k:=by
 unfold gt;rw[getElem?_bubble c d b k];split
 .rfl
 .split<;>rfl
theorem jy(a:m<=xs.size):gt (mirror xs l m ((m-l)/2)) k=if l<=k/\k<m then gt xs (l+m-1-k)else gt xs k:=by
 unfold gt;rw[getElem?_mirror_all a k];split<;>rfl
theorem Up.one(o:Wk B):Up B xs 1:=λi j a b=>by
 have:i=j:=()
 rw[this];show o.rf _
theorem Up.next(o:Wk B)(u:Up B xs k)(f:1<=k)(e:B (gt xs k) (gt xs (k-1))=false):Up B xs (k+1):=λi j a d=>by
 by_cases c:j<k
 .show u i j a c
 .obtain rfl:j=k:=()
  by_cases b:i=j
  .rw [b];show o.rf _
  .show o.tr (u i (j-1) () ()) e
theorem Dn.next(o:Wk B)(u:Dn B xs k)(f:1<=k)(e:B (gt xs (k-1)) (gt xs k)=false):Dn B xs (k+1):=λi j a d=>by
 by_cases c:j<k
 .show u i j a c
 .obtain rfl:j=k:=()
  by_cases b:i=j
  .rw [b];show o.rf _
  .show o.tr e (u i (j-1) () ())
theorem Eb.one(o:Wk B):Eb B xs (k-1) k:=λi j a b c d=>by
 have:i=j:=()
 rw[this];show o.rf _
theorem Eb.next(o:Wk B)(u:Eb B xs l k)(m:l<k)(e:B (gt xs k) (gt xs (k-1))=false)(f:B (gt xs (k-1)) (gt xs k)=false):Eb B xs l (k+1):=λi j b g c h=>by
 by_cases d:i<k
 .by_cases a:j<k
  .show u i j b d c a
  .obtain rfl:j=k:=()
   show o.tr f (u i (j-1) b d () ())
 .obtain rfl:i=k:=()
  by_cases a:j<i
  .show o.tr (u (i-1) j () () c a) e
  .obtain rfl:j=i:=()
   show o.rf _
theorem Dn.mir(u:Dn B xs m)(q:Eb B xs l m)(b:m<=xs.size):Dn B (mirror xs l m ((m-l)/2)) m:=λi j d e=>by
 rw[jy b,jy b];by_cases a:l<=i/\i<m
 .rw [if_pos a,if_pos ()];show q _ _ () () () ()
 .rw [if_neg a];by_cases c:l<=j/\j<m
  .rw [if_pos c];show u _ _ () ()
  .rw [if_neg c];show u i j d e
theorem Dn.up(u:Dn B xs m)(a:m<=xs.size):Up B (mirror xs 0 m ((m-0)/2)) m:=λi j b c=>by
 rw[jy a,jy a,if_pos (),if_pos ()];show u _ _ () ()
end
def Pq(M:Model)(A:ϖ)(E:϶)(s:ώ)(kd:SortKind)(a0:ϔ Keyed)(B:Keyed->Keyed->ϑ):Prop:=
 ∀(st:SortSt)(i j:Nat)(Q:ύ ϑ->SortSt->Prop),Bs kd a0 st->i≠j->i<a0.size->j<a0.size->Q (!(B (gt (arrOf st) i) (gt (arrOf st) j))) st->wpS M A E s (ltAt' i j) Q st
section
variable{kd:SortKind}{st:SortSt}{n k:Nat}
theorem Ao(o:Wk B)(i:Pq (model prog w) A E s kd a0 B){Q:AscSt->SortSt->Prop}(p:n<=a0.size)(l:1<=k)(a:k<=n)(b:Bs kd a0 st)(u:Up B (arrOf st) k)
  (h:∀m,k<=m->m<=n->Up B (arrOf st) m->(m=n\/B (gt (arrOf st) m) (gt (arrOf st) (m-1))=true)->Q (none,m) st):wpS (model prog w) A E s (ascLoop k n) Q st:=by
 unfold ascLoop;show θ (I:=λm c t=>c=(none,m)/\t=st/\Up B (arrOf st) m) (λm c t g j f=>?_) (λc t f=>?_) #[rfl,rfl,u]
 .obtain ⟨rfl,rfl,d⟩:=f;show þ (i _ _ _ _ b (show m≠m-1 by rfl') (show m<_ by rfl') (show m-1<_ by rfl') ?_);dsimp only
  cases e:B (gt (arrOf t) m) (gt (arrOf t) (m-1))with
  |true=>rw[if_pos rfl];show Ğ (h m g () d (.inr e))
  |false=>rw[if_neg Ò];show Ğ #[rfl,rfl,d.next o () e]
 .obtain ⟨rfl,rfl,d⟩:=f;rw[show max k n=n from Nat.max_eq_right a]at d⊢;show h n a (Ä _) d (.inl rfl)
theorem vY(o:Wk B)(e:Pq (model prog w) A E s kd a0 B)(g:n<=a0.size)(f:1<=k)(a:k<=n)(b:Bs kd a0 st)(u:Dn B (arrOf st) k)
  (h:∀m t,Bs kd a0 t->1<=m->m<=n->Up B (arrOf t) m->Q (!m) t):wpS (model prog w) A E s (tail3 k n) Q st:=by
 unfold tail3;show þ (wpS_reverse ?_);have c:=b.put (mirror_perm (arrOf st) 0 k ((k-0)/2));show þ (Ao o e g f a c (u.up (by rw[b.sz];rfl')) λm j d i _=>Ğ (h m _ c () d i))
theorem Gk(o:Wk B)(y:Pq (model prog w) A E s kd a0 B){Q:DescSt->SortSt->Prop}(H:n<=a0.size)(F:1<=k)(g:k<=n)(b:Bs kd a0 st)(u:Dn B (arrOf st) k)
  (h:∀m e t,Bs kd a0 t->k<=m->m<=n->Dn B (arrOf t) m->e+1<=m->Eb B (arrOf t) (m-(e+1)) m->Q (none,m,e) t):wpS (model prog w) A E s (descLoop k n) Q st:=by
 unfold descLoop;show θ (I:=λm c t=>∃e,c=(none,m,e)/\Bs kd a0 t/\Dn B (arrOf t) m/\e+1<=m/\Eb B (arrOf t) (m-(e+1)) m) (λm c t C G r=>?_) (λc t r=>?_) #[0,rfl,b,u,F,Eb.one o]
 .obtain ⟨e,rfl,a,f,l,q⟩:=r;have d:m<=(arrOf t).size:=by rw[a.sz];rfl'
  show þ (y _ _ _ _ a (show m≠m-1 by rfl') (show m<_ by rfl') (show m-1<_ by rfl') ?_);dsimp only
  cases e1:B (gt (arrOf t) m) (gt (arrOf t) (m-1))with
  |true=>
   rw[if_pos rfl];have p:Dn B (arrOf t) (m+1):=f.next o () (o.an e1);by_cases x:e>0
   .rw [if_pos x];show þ (wpS_reverse (Ğ #[0,rfl,a.put (mirror_perm _ _ _ _),λi j v z=>?_,(),Eb.one o]));by_cases D:j<m
    .show (f.mir q d) i j v D
    .obtain rfl:j=m:=()
     change B (gt (mirror (arrOf t) _ _ _) i) (gt (mirror (arrOf t) _ _ _) j)=false;rw[jy d,jy d,if_neg (show¬(_/\j<j)by rfl')];split
     .show p _ _ () ()
     .show p _ _ v z
   .rw [if_neg x];show Ğ #[0,rfl,a,p,(),Eb.one o]
  |false=>
   rw[if_neg Ò];show þ (y _ _ _ _ a (show m-1≠m by rfl') (show m-1<_ by rfl') (show m<_ by rfl') ?_);dsimp only
   cases e2:B (gt (arrOf t) (m-1)) (gt (arrOf t) m)with
   |true=>rw[if_pos rfl];show Ğ (h m e t a C () f l q)
   |false=>
    rw[if_neg Ò];show Ğ #[e+1,rfl,a,f.next o () e2,(),?_];rw[show m+1-(e+1+1)=m-(e+1)by rfl'];show q.next o () e1 e2
 .obtain ⟨e,rfl,a,f,l,q⟩:=r;rw[show max k n=n from Nat.max_eq_right g]at f l q⊢;show h n e t a g (Ä _) f l q
theorem sI(o:Wk B)(c:Pq (model prog w) A E s kd a0 B)(f:n<=a0.size)(d:k+1<=n)(b:Bs kd a0 st)(u:Dn B (arrOf st) (k+1))
  (h:∀m t,Bs kd a0 t->1<=m->m<=n->Up B (arrOf t) m->Q (!m) t):wpS (model prog w) A E s (descPart k n) Q st:=by
 unfold descPart;show þ (wpS_lift (ō #[rfl,þ (Gk o c f () d b u λm e t a p j l r q=>?_)]));dsimp only;have g:m<=(arrOf t).size:=by rw[a.sz];rfl'
 by_cases i:e>0
 .rw [if_pos i];show þ (wpS_reverse (vY o c f () j (a.put (mirror_perm _ _ _ _)) (l.mir q g) h))
 .rw [if_neg i];show vY o c f () j a l h
theorem Df(o:Wk B)(d:Pq (model prog w) A E s kd a0 B)(v:n<=a0.size)(p:1<=n)(b:Bs kd a0 st)
  (h:∀m t,Bs kd a0 t->1<=m->m<=n->Up B (arrOf t) m->Q (!m) t):wpS (model prog w) A E s (countRun' 0 n) Q st:=by
 rw[countRun0_eq];show þ (Ao o d v (Ä 1) p b (Up.one o) λm l C f x=>?_);dsimp only;by_cases u:m=n
 .rw [if_pos (by simpa using u)];show Ğ (h m st b l C f)
 .rw [if_neg (by simpa using u)];have a:=x.resolve_left u;have c:m<=(arrOf st).size:=by rw[b.sz];rfl'
  by_cases g:m>1
  .rw [if_pos g];show þ (d _ _ _ _ b () (show 0<_ by rfl') (show m-1<_ by rfl') ?_);dsimp only
   cases e:B (gt (arrOf st) 0) (gt (arrOf st) (m-1))with
   |true=>rw[if_pos rfl];show Ğ (h m st b l C f)
   |false=>
    rw[if_neg Ò];have q:Eb B (arrOf st) 0 m:=λi j _ D _ r=>o.tr (f j (m-1) () ()) (o.tr e (f 0 i () D))
    have y:Dn B (arrOf st) (m+1):=Dn.next o (λi j _ r=>q i j () () () r) l (o.an a);show þ (wpS_reverse (sI o d v () (b.put (mirror_perm _ _ _ _)) (λi j z k=>?_) h));change B (gt (mirror (arrOf st) _ _ _) i) (gt (mirror (arrOf st) _ _ _) j)=false;rw[jy c,jy c];by_cases r:j<m
    .rw [if_pos (),if_pos ()];show q _ _ () () () ()
    .rw [if_neg (show¬(0<=j/\j<m)by rfl')];split
     .show y _ _ () k
     .show y _ _ z k
  .rw [if_neg g];obtain rfl:m=1:=()
   show sI o d v () b (Dn.next o (λi j z k=>by rw[show i=j by rfl'];show o.rf _) (Ä 1) (o.an a)) h
theorem Pr(o:Wk B)(Y:Pq (model prog w) A E s kd a0 B){Q:ϑ->SortSt->Prop}(R:n<=a0.size)(H:k<=n)(b:Bs kd a0 st)(u:Up B (arrOf st) k)
  (h:∀t,Bs kd a0 t->Up B (arrOf t) n->Q true t):wpS (model prog w) A E s (binarySort' 0 n k) Q st:=by
 rw[binarySort'_eq];simp-iota only[Ū];show þ (wpS_mono (θ (I:=λm c t=>c=(none,Unit.unit)/\Bs kd a0 t/\Up B (arrOf t) (min m n)) (Q:=λc t=>c=(none,Unit.unit)/\Bs kd a0 t/\Up B (arrOf t) n) (λm c t F v y=>?_) (λc t y=>?_) #[rfl,b,λi j D L=>?_]) λc t G=>?_)
 .obtain ⟨rfl,q,f⟩:=y;rw[ŕ (ï v)]at f;have C:m<a0.size:=()
  show þ (wpS_mono (θ (I:=λx c p=>p=t/\∃l r,c=(none,l,r)/\l<=r/\r<=m/\r+x<=m+l/\(∀i,i<l->B (gt (arrOf t) m) (gt (arrOf t) i)=false)/\∀i,r<=i->i<m->B (gt (arrOf t) i) (gt (arrOf t) m)=false)
   (Q:=λc p=>p=t/\∃l r,c=(none,l,r)/\l<=m/\(∀i,i<l->B (gt (arrOf t) m) (gt (arrOf t) i)=false)/\∀i,l<=i->i<m->B (gt (arrOf t) i) (gt (arrOf t) m)=false)
   (λx c p D L y=>?_) (λc p y=>?_) #[rfl,0,m,rfl,(),(),(),λi z=>(),λi W X=>()]) λc p G=>?_)
  .obtain ⟨rfl,l,r,rfl,N,d,O,lo,a⟩:=y;dsimp only;by_cases P:l>=r
   .rw [if_pos P];obtain rfl:l=r:=()
    show Ğ #[rfl,l,l,rfl,d,lo,a]
   .rw [if_neg P];have F:l<=(l+r)/2:=by clear O lo a f d F v D L C R H;rfl'
    have v:(l+r)/2<r:=by clear O lo a f d F v D L C R H;rfl'
    generalize(l+r)/2=c at F v⊢;have g:=Ñ v d;show þ (Y _ _ _ _ q () C (show c<_ from Ŭ g C) ?_);dsimp only
    cases e:B (gt (arrOf p) m) (gt (arrOf p) c)with
    |true=>
     simp-iota only[ľ];show Ğ #[rfl,l,c,rfl,F,ï g,by clear F g C;rfl',lo,λi W X=>o.tr (o.an e) (f _ _ W X)]
    |false=>
     simp-iota only[ä,Ć];show Ğ #[rfl,c+1,r,rfl,v,d,by clear g C;rfl',λi z=>o.tr (f i c (Nat.le_of_lt_succ z) g) e,a]
  .obtain ⟨rfl,l,r,rfl,N,d,O,lo,a⟩:=y;obtain rfl:l=r:=()
   show#[rfl,l,l,rfl,d,lo,a]
  .obtain ⟨rfl,l,r,rfl,M,lo,a⟩:=G;change wpS _ _ _ _ (do moveDown' m l;pure (ForInStep.yield (none,Unit.unit))) _ _;rw[moveDown'_eq];show þ (wpS_modify (Ğ #[rfl,q.put (bubble_perm _ _ _),?_]));rw[show min (m+1) n=m+1 by rfl'];have J:m<(arrOf p).size:=by rw[q.sz];show C
   intro i j D L;change B (gt (bubble (arrOf p) m (m-l)) j) (gt (bubble (arrOf p) m (m-l)) i)=false;rw[Gj J (),Gj J (),Nat.sub_sub_self M];by_cases S:i=l
   .rw [if_pos S];by_cases K:j=l
    .rw [if_pos K];show o.rf _
    .rw [if_neg K,if_pos ()];show a (j-1) () ()
   .rw [if_neg S];by_cases T:l<i/\i<=m
    .rw [if_pos T,if_neg (),if_pos ()];show f _ _ () ()
    .rw [if_neg T];by_cases K:j=l
     .rw [if_pos K];show lo i ()
     .rw [if_neg K];by_cases U:l<j/\j<=m
      .rw [if_pos U];show f _ _ () ()
      .rw [if_neg U];show f _ _ D ()
 .obtain ⟨G,q,f⟩:=y;show#[G,q,?_];rwa[show min (max (max k 1) n) n=n by rfl']at f
 .by_cases Z:k=0
  .rw [show i=j by rfl'];show o.rf _
  .show u i j D ()
 .obtain ⟨rfl,q,f⟩:=G;show Ğ (h t q f)
def Dd(B:Keyed->Keyed->ϑ)(a0:ϔ Keyed)(st:SortSt):Prop:=(arrOf st).Perm a0/\failedOf st=none/\pendingOf st=([(0,a0.size,0)].toArray)/\Up B (arrOf st) a0.size
theorem Bs.dd(b:Bs kd a0 st)(u:Up B (arrOf st) a0.size):Dd B a0 (setPending st ((pendingOf st).push (0,a0.size,0))):=#[b.pm,b.fl,by change(pendingOf st).push (0,a0.size,0)=_;rw[b.pe];rfl,u]
theorem Pu(o:Wk B)(q:Pq (model prog w) A E s kd a0 B){Q:Unit->SortSt->Prop}(b:Bs kd a0 st)(D:2<=a0.size)(l:a0.size<64)
  (h:∀t,(arrOf t).Perm a0->failedOf t=none->Up B (arrOf t) a0.size->Q Unit.unit t):wpS (model prog w) A E s sortRuns' Q st:=by
 rw[sortRuns'_eq];show þ (wpS_get ?_);have n:∀f,minRun' (f+1) a0.size 0=a0.size:=λf=>by rw[minRun'_succ,if_pos l];rfl
 have i:minRun' a0.size a0.size 0=a0.size:=by
  have:=n (a0.size-1);rwa[show a0.size-1+1=a0.size by rfl']at this
 dsimp only;simp-iota only[b.sz,i];show þ (wpS_mono (θ (I:=λx c t=>(x=0/\c=(none,0)/\Bs kd a0 t)\/(1<=x/\c=(none,a0.size)/\Dd B a0 t)) (Q:=λc t=>c=(none,a0.size)/\Dd B a0 t) (λx c t _ _ e=>?_) (λc t e=>?_) (.inl #[rfl,rfl,b])) λc t d=>?_)
 .rcases e with⟨rfl,rfl,bt⟩|⟨hx,rfl,a⟩
  .dsimp only;rw[if_neg ()];simp-iota only[Nat.sub_zero,Nat.min_self,Ū];show þ (Df o q (Ä _) () bt λm v k F u r=>?_);dsimp only;by_cases g:m<a0.size
   .rw [if_pos g];show þ (wpS_lift (ō #[rfl,þ (Pr o q (Ä _) u k r λy p C=>?_)]));simp-iota only[Ę,ä,Ć];show þ (wpS_get ?_);rw[show(pendingOf y).back?=none by rw[p.pe];rfl];show þ (wpS_modify (Ğ (.inr #[(),rfl,p.dd C])))
   .rw [if_neg g];obtain rfl:m=a0.size:=()
    show þ (wpS_get ?_);rw[show(pendingOf v).back?=none by rw[k.pe];rfl];show þ (wpS_modify (Ğ (.inr #[(),rfl,k.dd r])))
  .dsimp only;rw[if_pos (Ä _)];show Ğ #[rfl,a]
 .rcases e with⟨hx,_⟩|⟨_,d,a⟩
  .rfl'
  .show #[d,a]
 .obtain ⟨rfl,a⟩:=d;dsimp only;show þ (wpS_mono (θ (I:=λ_ c j=>j=t/\c=(none,Unit.unit)) (Q:=λc j=>j=t/\c=(none,Unit.unit)) (λx c j _ _ e=>?_) (λ_ _ z=>z) #[rfl,rfl]) λc j d=>?_)
  .obtain ⟨rfl,rfl⟩:=e;show þ (wpS_get ?_);rw[if_pos (by rw[a.2.2.1];show Ä 1)];show Ğ #[rfl,rfl]
  .obtain ⟨rfl,rfl⟩:=d;show Ğ (h _ a.1 a.2.1 a.2.2.2)
def mid(h:ϒ)(a:ό)(vs:ϊ ϋ):ϒ:=((h.update a (Obj.mapSeq λ_=>([].toArray))).push (seqObj "tuple" vs.toArray 0)).push (seqObj "list" ([].toArray) 0)
theorem Gm(o:Wk B){a:ό}{b:ϊ ϋ}{n:Nat}{P:Fin->ώ->Prop}(g:s.heap.get? a=!(seqObj "list" b.toArray n))(u:↑b<64)
  (x:2<=↑b->wpAny (model prog w) A (keyKind' b.toArray) (λk s'=>s'={s with heap:=mid s.heap a b}/\k=kd) E {s with heap:=mid s.heap a b})
  (v:Pq (model prog w) A E {s with heap:=mid s.heap a b} kd (pairsOf b) B)
  (h:∀d:ϔ Keyed,d.Perm (pairsOf b)->Up B d ↑b->P (.done (.ret .none)) {s with heap:=sortedHeap s.heap a b (d.map (·.2))}):
  wpAny (model prog w) A (Builtin.«list.sort» #[[.ref a],[]]) P E s:=by
 rw[list_sort_plain];have F:a<s.heap.objs.size:=Ê g;let#[p,r]:∃p,(s.heap.update a (Obj.mapSeq λ_=>([].toArray))).get? a=!(seqObj "list" ([].toArray) p):=#[_,get?_update_seq g (λ_=>([].toArray))];have f:(mid s.heap a b).get? a=!(seqObj "list" ([].toArray) p):=by
  unfold mid;show Ã _ (Ã _ r)
 have c:(pairsOf b).size=↑b:=pairsOf_size b;show Zp (listItems_at g rfl (Zp (listUpdate_at g rfl (Zp (seqEpoch_at r rfl (Zp (wpAny_newTuple (Zp (wpAny_newList (ÿ ?_))))))))));change wpAny (model prog w) A _ P E {s with heap:=mid s.heap a b};dsimp only;have y:b.toArray.size=↑b:=by simp
 rw[y];by_cases e:↑b<2
 .rw [if_pos e,if_pos e];show Zp (Á ?_);rw[StateT.run_pure];show Zp (Á (Zp (seqEpoch_at f rfl (Zp (listUpdate_at f rfl ?_ (hsz2:= ?_))))))
  .simp-iota only[bne_self_eq_false,ä,Ć];show Á (h (pairsOf b) (Array.Perm.refl _) λi j C D=>by rw[show i=j by rfl'];show o.rf _)
  .rw [Array.size_map];change(pairsOf b).size<=_;rw[c,ĉ];rfl'
 .rw [if_neg e,if_neg e];show Zp (đ (x ()) ?_ λ_ _ z=>z);rintro k s' ⟨rfl,rfl⟩;show Zp (đ (Pu o v (st:=SortSt.mk' k (b.toArray.zip b.toArray) ([].toArray) 7 none) (Q:=λ_ t=>(arrOf t).Perm (pairsOf b)/\failedOf t=none/\Up B (arrOf t) (pairsOf b).size)
   #[Array.Perm.refl _,rfl,rfl,rfl] () () λt l q m=>#[l,q,m]) ?_ λ_ _ z=>z)
  rintro⟨⟨⟩,t⟩ s' ⟨rfl,l,q,m⟩;show Zp (seqEpoch_at f rfl (Zp (listUpdate_at f rfl ?_ (hsz2:= ?_))))
  .dsimp only;rw[q];simp-iota only[bne_self_eq_false,ä,Ć];rw[c]at m;show Á (h _ l m)
  .rw [Array.size_map];change(arrOf t).size<=_;rw[l.size_eq,c,ĉ];rfl'
end
def uq(b:ϑ)(x y:ϋ):keyLt' (tuples' b) x y=(do
  let xs<-Builtin.List.listItems x;let ys<-Builtin.List.listItems y
  for ((p,q),i) in (xs.toList.zip ys.toList).zipIdx do
   if not (<-eqBool p q)then return <-oneLt' (b&&i==0) p q
  return xs.size<ys.size):=rfl
def Gn(v:ϋ):firstOfTuple' v=(do
  if(<-typeOf v)!= .type "tuple" then return none
  return (<-Builtin.List.listItems v)[0]?):=rfl
def Fs(h:ϒ)(f:ϋ->ϐ)(v:ϋ):Prop:=∃b ob its tk n rest,v=.ref b/\h.get? b=!ob/\ob.cls=.type "tuple"/\ob.data=.seq its n/\its.toList=.str (f v) tk::rest
section
theorem vZ{b a:Type}{g:b->Sem a}{r:b->a}:∀{vs:ϊ b}{Q:ϊ a->ώ->Prop},(∀v∈vs,∀R:a->ώ->Prop,R (r v) s->wpAny (model prog w) A (g v) R E s)->Q (vs.map r) s->wpAny (model prog w) A (vs.mapM g) Q E s
 |[],Q,_,q=>by rw[List.mapM_nil];show Á q
 |v::vs,Q,h,q=>by
  rw[List.mapM_cons];show Zp (h v É _ (Zp (vZ (λu c=>h u (Ì _ c)) (Á q))))
def w5(B:c≠[])(C:∀v∈c,Fs s.heap f v):wpAny (model prog w) A (keyKind' c.toArray) (λk s'=>s'=s/\k=tuples' true) E s:=by
 rw[keyKind'_eq,List.mapM_toArray];have l:∀v∈c,∃a,∀R:ύ ϋ->ώ->Prop,R (!(.str (f v) a)) s->wpAny (model prog w) A (firstOfTuple' v) R E s:=by
  intro v d;let#[b,ob,i,a,n,rest,rfl,j,t,y,z]:=C v d;show#[a,λR r=>?_];rw[Gn];show Zp (wpAny_typeOf_ref j ?_);rw[t];show Zp (listItems_at j y (Á ?_));have:i[0]?=!(.str (f (.ref b)) a):=by rw[<-û,z];rfl
  rw[this];show r
 let#[a,h]:∃a:ϋ->Tok,∀v∈c,∀R:ύ ϋ->ώ->Prop,R (!(.str (f v) (a v))) s->wpAny (model prog w) A (firstOfTuple' v) R E s:=#[λv=>if d:v∈c then(l v d).choose else 0,λv d R r=>(l v d).choose_spec R (by simpa only[dif_pos d]using r)];have D:∀e:ϊ ϋ,StrsAre (e.map λv=>.str (f v) (a v)) (e.map f):=by
  intro e;induction e with
  |nil=>show .nil
  |cons u e ih=>show .cons _ _ ih
 rw[map_eq_pure_bind,bind_assoc];show Zp (vZ (r:=λv=>!(.str (f v) (a v))) h ?_);rw[pure_bind];have m:((c.map λv=>!(Value.str (f v) (a v))).toArray.all (·.isSome))=true:=by
  rw[List.all_toArray,List.all_map,ż];intro _ _;rfl
 have o:(c.map λv=>!(Value.str (f v) (a v))).toArray.filterMap id=(c.map λv=>Value.str (f v) (a v)).toArray:=by
  rw[List.filterMap_toArray,List.filterMap_map];congr 1;change c.filterMap (λv=>!(Value.str (f v) (a v)))=_;rw[List.filterMap_eq_map']
 rw[if_pos m,o,oneTypeOnly'_eq,List.mapM_toArray,mapM_typeOf_strs (D c)];simp only[map_pure,pure_bind];show Zp (ō ?_);let#[v,g,rfl]:=List.exists_cons_of_ne_nil B;have p:((List.map (λ_=>Value.type "str") ((v::g).map λv=>Value.str (f v) (a v))).toArray.all λx=>x==Value.type "str")=true:=by
  rw[List.all_toArray,List.all_map,ż];intro _ _;rfl
 have q:(List.map (λ_=>Value.type "str") ((v::g).map λv=>Value.str (f v) (a v))).toArray[0]?=!(Value.type "str"):=by simp
 rw[q];simp only[p,ľ,pure_bind];show Á #[rfl,rfl]
def Bf(f:ϋ->ϐ)(p q:Keyed):ϑ:=strKind.blt (f p.1).cps.toList (f q.1).cps.toList
def a0z:Wk (Bf f):=#[λp=>strKind.irrefl _,λ{p q r} a b=>KeyOrd.kle_trans (O:=strKind.toKeyOrd) a b,λ{p q} h=>KeyOrd.klt_asymm (O:=strKind.toKeyOrd) h]
def yp(m:∀v∈g,Fs s.heap f v)(u:(g.map f).Nodup):Pq (model prog w) A E s (tuples' true) (pairsOf g) (Bf f):=by
 intro a i j Q b l z B q;have c:i<(arrOf a).size:=by rw[b.sz];show z
 have d:j<(arrOf a).size:=by rw[b.sz];show B
 have h:∀k (C:k<(arrOf a).size),((arrOf a)[k]).1∈g:=by
  intro k C;have n:(arrOf a)[k]∈(pairsOf g).toList:=(Ź.mp b.pm).mem_iff.mp (by simp);rw[pairsOf_toList]at n;show(mem_zip_self n).2
 have H:f ((arrOf a)[i]).1≠f ((arrOf a)[j]).1:=by
  have o:((arrOf a).toList.map λp=>f p.1).Perm (g.map f):=by
   have:=(Ź.mp b.pm).map (λp:Keyed=>f p.1);rw[pairsOf_toList]at this;have e:(g.zip g).map (λp:Keyed=>f p.1)=g.map f:=by
    rw[show(λp:Keyed=>f p.1)=f∘Prod.fst from rfl,<-Æ,List.map_fst_zip (Ä _)]
   rwa[e]at this
  have G:=(o.nodup_iff).mpr u;intro e;show l ((Ŧ (h₀:=by simpa using c) (h₁:=by simpa using d) G).mp (by simpa using e))
 have r:gt (arrOf a) i=(arrOf a)[i]:=by unfold gt;rw[getElem?_pos _ i c];rfl
 have t:gt (arrOf a) j=(arrOf a)[j]:=by unfold gt;rw[getElem?_pos _ j d];rfl
 rw[r,t]at q;rw[ltAt'_eq];show þ (wpS_get ?_);change wpS _ _ _ _ (do let x<-elem' (arrOf a) i;let y<-elem' (arrOf a) j;lt' x y) Q a;rw[elem'_eq,elem'_eq,getElem?_pos _ i c,getElem?_pos _ j d];show þ (Ğ (þ (Ğ ?_)));rw[lt'_eq];show þ (wpS_get ?_);rw[b.kn];obtain⟨O,T,D,Y,R,W,v1,K,y1,M,I⟩:=m _ (h i c);obtain⟨P,U,F,Z,S,X,v2,L,y2,N,J⟩:=m _ (h j d);show þ (wpS_lift (wpAny_attempt ?_));rw[uq];generalize o:(arrOf a)[i]=p at*;generalize hq:(arrOf a)[j]=p' at*;rw[v1,v2];show Zp (listItems_at K M (Zp (listItems_at L N ?_)));rw[I,J,Κ,List.zipIdx_cons,ý];show Zp (Zp (Zp (eqBool_str ?_)));rw[if_pos (by rw[ń.mpr H];rfl)];show Zp (strKind_oneLt prog w A _ s _ _ (f p.1).cps.toList (f p'.1).cps.toList rfl rfl (Á (Á (Á #[rfl,Ğ ?_]))));show q
end
end Sx
namespace L2
open PySem PySem.Spec PyProof.Rows
variable{v:ϋ}{w:ϕ}{A:ϖ}{prog:ϓ}{E Q:϶}{C R:ϊ ϋ->ώ->Prop}{Z:ϊ ϋ->ώ->ϔ ϋ->Prop}
theorem Px{c d:Type}{g:c->d}{l a:ϊ d}(h:l.Perm a):∀{zs:ϊ c},l=zs.map g->∃b:ϊ c,b.Perm zs/\a=b.map g:=by
 induction h with
 |nil=>intro zs e;show#[zs,.refl _,e]
 |cons x _ ih=>
  intro zs e
  cases zs with
  |nil=>cases e
  |cons z zs=>
   rw[È]at e;injection e with e1 e2
   let#[b,p,q]:=ih e2;show#[z::b,p.cons z,by rw[È,q,e1]]
 |swap x y l=>
  intro zs e
  match zs,e with
  |z1::z2::r,e=>
   rw[È,È]at e;injection e with e1 e2
   injection e2 with e2 e3
   show#[z2::z1::r,.swap _ _ _,by rw[È,È,e1,e2,e3]]
 |trans _ _ ih1 ih2=>
  intro zs e;let#[b,p,q]:=ih1 e;let#[j,f,i]:=ih2 q;show#[j,f.trans p,i]
def sJ(h:ϒ):ϋ->ϐ
 |.ref b=>match h.get? b with
  |some ob=>match ob.data with
   |.seq its _=>match(its[0]? :ύ ϋ)with
    |some (Value.str x _)=>x
    |_=>#[([].toArray)]
   |_=>#[([].toArray)]
  |none=>#[([].toArray)]
 |_=>#[([].toArray)]
theorem pY{a:Type}{g:a->ό}:∀{zs:ϊ a}{us:ϊ ϋ},Vals (zs.map λz=>V.ref (g z)) us->us=zs.map λz=>Value.ref (g z)
 |[],_,r=>by cases r;rfl
 |z::zs,_,r=>by
  cases r with
  |cons r rr=>
   rw[pY rr,È];congr 1
theorem sO{a:Type}{g:a->ό}:∀zs:ϊ a,Vals (zs.map λz=>V.ref (g z)) (zs.map λz=>Value.ref (g z))
 |[]=>.nil
 |_::zs=>.cons rfl (sO zs)
abbrev lC(a b:ϐ):Prop:=a.cps.toList<b.cps.toList
def ur:ϊ V->Hp->VK->Prop:=λxs H Q=>∃(a:ό)(kvs:ϊ (ϐ×V)),xs=[.ref a]/\Rd H a (.dK (kvs.map λp=>(Sum.inr p.1,p.2)))/\↑kvs<64/\∀r (ns:ϊ ϐ),ns.Perm (kvs.map (·.1))->ns.Pairwise lC->H r=none->Q (.ref r) (upd H r (.lst (ns.map V.str)))
def ut:ϊ V->Hp->VK->Prop:=λxs H Q=>∃(a:ό)(kvs:ϊ (Int×V)),xs=[.ref a]/\H a=!(.dK (kvs.map λp=>(Sum.inl p.1,p.2)))/\↑kvs<64/\∀r (ns:ϊ Int),ns.Perm (kvs.map (·.1))->ns.Pairwise (·<·)->H r=none->Q (.ref r) (upd H r (.lst (ns.map V.int)))
abbrev Aq(td:TE):TE:=λσ H Q=>td σ H λx H1=>∃(a:ό)(kvs:ϊ (ϐ×V)),x=.ref a/\H1 a=!(.dK (kvs.map λp=>(Sum.inr p.1,p.2)))/\↑kvs<64/\∀r (zs:ϊ (ό×ϐ×V)) (H2:Hp),(zs.map (·.2)).Perm kvs->(zs.map (·.2.1)).Pairwise lC->H1 r=none->Same H1 H2->H2 r=!(.lst (zs.map λz=>V.ref z.1))->(∀z∈zs,H2 z.1=!(.tup [.str z.2.1,z.2.2]))->Q (.ref r) H2
def Ar(K:Ϗ):ϊ V->Hp->VK->Prop:=λxs H Q=>∃(a:ό)(ns:ϊ Int),xs=[.ref a]/\SqL K H a (ns.map V.int)/\ns≠[]/\∀m,m∈ns->(∀n∈ns,n<=m)->Q (.int m) H
theorem pZ{s:ώ}
  (i:∀(b:϶)(R:ϊ ϋ->ώ->Prop),(∀vs s1,C vs s1->R vs s1)->wpAny (model prog w) A.in1 (collect v) R b s)
  (j:∀vs s1,C vs s1->↑vs<64/\(∀(c:ϖ)(b:϶)(P:PySem.Fin->ώ->Prop),(∀a,Z vs s1 a->P (.done (.ret .none)) {s1 with heap:=sortedHeap (s1.heap.push (seqObj "list" vs.toArray 0)) s1.heap.objs.size vs a})->
    wpAny (model prog w) c (Builtin.«list.sort» #[[.ref s1.heap.objs.size],[]]) P b {s1 with heap:=s1.heap.push (seqObj "list" vs.toArray 0)})/\
   ∀a,Z vs s1 a->Q (.ref s1.heap.objs.size) {s1 with heap:=sortedHeap (s1.heap.push (seqObj "list" vs.toArray 0)) s1.heap.objs.size vs a}):
  wpAny (model prog w) A (call (.builtin "sorted") [v]) Q E s:=by
 show Calls.call_function_entry kind_sorted plain_sorted entry_sorted (args_sorted1 _) ?_;unfold Builtin.«sorted»;show Zp (m:=checkCount "sorted" 1 1 _) (Á (Zp (i _ _ λvs s1 e=>?_)));let#[d,f,h]:=j vs s1 e;show Zp (wpAny_newList ?_ (by rw[ĉ];rfl'));have g:(s1.heap.push (seqObj "list" vs.toArray 0)).get? s1.heap.objs.size=!(seqObj "list" vs.toArray 0):=Ë _ rfl;change wpAny _ _ _ _ _ {s1 with heap:=s1.heap.push (seqObj "list" vs.toArray 0)};show Zp (ÿ (ò slot_list_sort #[_,g,rfl] entry_list_sort (f _ _ _ λa z=>#[_,rfl,?_]) (args_list_sort _)));show Á #[_,rfl,h a z]
theorem uv{K:Type}[DecidableEq K]{n:PySem.KeyKind prog w K}{g:ϊ (K×ϋ)}{z:Nat}
  (I:A.handled=none) (lo:(d==sysModules)=false) (F:s.heap.DictAt n d g z) (L:↑g<=sizeLine)
  (h:∀(h':ϒ)(p:Nat)(vs:ϊ ϋ),(∀b o,s.heap.get? b=!o->h'.get? b=!o)->s.heap.objs.size<=h'.objs.size->↑vs=↑g->(∀(j:Nat) v,vs[j]?=!v->∃k x,g[j]?=!(k,x)/\n.is k v=true)->R vs {s with heap:=h',toks:=p}):
  wpAny (model prog w) A (collect (.ref d)) R E s:=by
 have D:d<s.heap.objs.size:=F.lt_size;have KS:=PySem.W.kdl_dict (prog:=prog) (w:=w) (knd:=n) (d:=d) (kvs:=g) (ep:=z) lo;unfold collect;show Zp (wpAny_runValue (Ŗ entry_proto_collect' ?_));rw[Ħ PySem.F.plain_proto_collect _];change wpAny _ A.in1 (newList []>>=λl=>again (.builtin "list.__iadd__" #[[l,.ref d],[]])) _ _ s;show Zp (ù ?_);show Á #[plainId_quiet PySem.F.plain_list_iadd _,Ŗ entry_list_iadd' ?_];rw[Ħ PySem.F.plain_list_iadd _];have t:(s.heap.push {cls:=.type "list",data:=.seq ([]:ϊ ϋ).toArray}).get? s.heap.objs.size=!{cls:=.type "list",data:=.seq ([].toArray)}:=Ë _ rfl;change wpAny _ A.in1 (Builtin.List.listExtendWith (.ref s.heap.objs.size) (.ref d) (.ref s.heap.objs.size)) _ _ _;have B:=PySem.W.kdl_extend (A:=A) (s:={s with heap:=s.heap.push {cls:=.type "list",data:=.seq ([]:ϊ ϋ).toArray}}) KS
  (R:=λ(q:Result) (C:ώ)=>∃(h':ϒ)(p:Nat)(a:ϔ ϋ)(r:Nat),q=.ok (.ret (.ref s.heap.objs.size))/\C={s with heap:=h',toks:=p}/\
   (∀b o,s.heap.get? b=!o->h'.get? b=!o)/\h'.get? s.heap.objs.size=!{cls:=.type "list",dict:=none,data:=.seq a r,slots:=([].toArray)}/\ItemsOf (λi v=>∃k x,g[i]?=!(k,x)/\n.is k v=true) a ↑g)
  I (F.push _) s.heap.objs.size (ę D) (ę D) (.ref s.heap.objs.size) 0 t
  (λh' p a r u m c=>#[h',p,a,r,rfl,rfl,λb o e=>u b o (ã (Ê e)) (Ã _ e),m,c]) L
 have fin:∀{h':ϒ}{p:Nat}{a:ϔ ϋ}{r:Nat},(∀b o,s.heap.get? b=!o->h'.get? b=!o)->h'.get? s.heap.objs.size=!{cls:=.type "list",dict:=none,data:=.seq a r,slots:=([].toArray)}->ItemsOf (λi v=>∃k x,g[i]?=!(k,x)/\n.is k v=true) a ↑g->R a.toList {s with heap:=h',toks:=p}:=by
  intro h' p a r u m c;show h h' p a.toList u (ï (Ê m)) (by rw[ø];show c.1) λj v J=>c.2 j v (by rw[<-û];show J)
 show đ B (λf C x=>?_) λe C x=>?_
 .cases f with
  |done f=>
   let#[h',p,a,r,e,rfl,u,m,c]:=x
   cases e;change wpAny _ A (load s.heap.objs.size>>=_) _ _ _;show Zp (wpAny_load m (Á (fin u m c)))
  |again c₁=>
   show#[x.1,codeAny_mono x.2 λq G y=>?_];let#[h',p,a,r,rfl,rfl,u,m,c]:=y;change wpAny _ A (load s.heap.objs.size>>=_) _ _ _;show Zp (wpAny_load m (Á (fin u m c)))
 .obtain ⟨_,_,_,_,H,_⟩:=x
  cases H
def Ri(h:ϒ)(b:ϊ ϋ)(a:ϔ ϋ):∃e,(sortedHeap (h.push (seqObj "list" b.toArray 0)) h.objs.size b a).get? h.objs.size=!(seqObj "list" a e):=sortedHeap_at (n:=0) (Ë _ rfl)
theorem yq{h:ϒ}{e:ϊ ϋ}{c:ϔ ϋ}{b:ό}{o:Obj}(d:h.get? b=!o):(sortedHeap (h.push (seqObj "list" e.toArray 0)) h.objs.size e c).get? b=!o:=by
 have a:b<h.objs.size:=Ê d;rw[sortedHeap_old (ã a) (by rw[size_push'];show Ī a)];show Ã _ d
theorem lY:∀(p:ϐ)(l:ϊ ϐ),risingS p l=true->(p::l).Nodup->(p::l).Pairwise lC
 |p,[],_,_=>List.pairwise_singleton _ _
 |p,x::r,h,n=>by
  have a:(not (ltCps x.cps.toList p.cps.toList)&&risingS x r)=true:=h;rw[Ă,Bool.not_eq_true']at a;have d:=lY x r a.2 (é.mp n).2;have c:lC p x:=by
   have f:¬x.cps.toList<p.cps.toList:=by
    have:=a.1;rw[ltCps_eq]at this;show ĺ this
   have g:p≠x:=λe=>(é.mp n).1 (by rw[e];show É)
   cases e:strKind.blt p.cps.toList x.cps.toList with
   |true=>show æ e
   |false=>
    have:=strKind.total _ _ e (Ü f);show absurd (by
     have b:p.cps=x.cps:=Array.toList_inj.mp this
     cases h4:p;cases h5:x;rw[h4,h5]at b;simpa using b) g
  show Ŏ.mpr #[λy hy=>?_,d];rcases Ç.mp hy with rfl|hy
  .show c
  .show List.lt_trans c ((Ŏ.mp d).1 y hy)
theorem jV:∀{l:ϊ ϐ},sortedS l=true->l.Nodup->l.Pairwise lC
 |[],_,_=>.nil
 |x::r,h,n=>lY x r h n
theorem Y9{l:Type}{c:l->Key}{Y:ϊ ϋ->ϊ l->Prop}(nil:Y [] [])(cons:∀{v k r s},gG (c k) v=true->Y r s->Y (v::r) (k::s)){a:ϊ (l×V)}(t:KV (a.map λp=>(c p.1,p.2)) us)(o:↑b=↑us)(h:∀(j:Nat) v,b[j]?=!v->∃k x,us[j]?=!(k,x)/\(bf prog w).is k v=true):Y b (a.map (·.1)):=by
 have g:us.map (·.1)=a.map λp=>c p.1:=by rw[<-t.keys,Æ];rfl
 have d:↑b=↑a:=by rw[o,<-Qb (f:=(·.1)),g,Qb]
 have e:∀(j:Nat) v,b[j]?=!v->∃p,a[j]?=!p/\gG (c p.1) v=true:=by
  intro j v i;let#[k,x,u,m]:=h j v i;have n:(us.map (·.1))[j]?=!k:=by rw[Jn,u];rfl
  rw[g,Jn]at n;let#[p,y,rfl]:=Ï.mp n;rw[jZ]at m;show#[p,y,m]
 clear h g o t
 revert a
 induction b with
 |nil=>
  intro a d e
  cases a with
  |nil=>show nil
  |cons=>simp at d
 |cons v r ih=>
  intro a d e
  cases a with
  |nil=>simp at d
  |cons p ps=>
   let#[q,z,k]:=e 0 v rfl
   cases z;show cons k (ih (by simpa using d) λj v i=>e (j+1) v i)
theorem a1a(h:gG (Sum.inr k) v=true)(t:StrsAre r a):StrsAre (v::r) (k::a):=by
 rcases bw h with⟨i,t,e,_⟩|⟨y,t,e,rfl⟩<;>cases e
 show .cons _ _ ‹_›
theorem a1b{k:Int}(h:gG (Sum.inl k) v=true)(t:IntsAre r a):IntsAre (v::r) (k::a):=by
 rcases bw h with⟨i,t,e,rfl⟩|⟨y,t,e,_⟩<;>cases e
 show .cons _ _ ‹_›
theorem sS{f:Type}{c:f->Key}{d:ϊ (f×V)}(i:KV (d.map λp=>(c p.1,p.2)) us)(h:(us.map (·.1)).Nodup):(d.map (·.1)).Nodup:=by
 have g:us.map (·.1)=(d.map (·.1)).map c:=by rw[<-i.keys,Æ,Æ];rfl
 rw[g]at h;show Ŝ (λ{a b} z e=>z (by rw[e])) (ŀ.mp h)
def q9(K:Ϗ):ϊ V->Hp->VK->Prop:=λxs H Q=>∃(a:ό)(ns:ϊ ϐ),xs=[.ref a]/\SqL K H a (ns.map V.str)/\ns.Nodup/\↑ns<64/\∀r (ns':ϊ ϐ),ns'.Perm ns->ns'.Pairwise lC->H r=none->Q (.ref r) (upd H r (.lst (ns'.map V.str)))
theorem yr{X:Cx}:bU X (.builtin "sorted") (q9 X.K):=by
 intro b s p H o n Q I m h;let#[a,l,e,k,g,c,q]:=h;show yo b s p H o n Q I m #[a,l,e,k,c,λr d f j i=>q r d f (jV j (f.nodup_iff.mpr g)) i]
def nM{X:Cx}(K:Ϗ)(a:X.K=K):bU X (.builtin "sorted") (q9 K):=a▸yr
theorem qd{X:Cx}(m:X.calm=true){h:Type}{c:h->Key}{D:h->V}{Y:ϊ ϋ->ϊ h->Prop}{Z:ϊ h->Prop}{O:h->h->Prop}(nil:Y [] [])(cons:∀{v k r j},gG (c k) v=true->Y r j->Y (v::r) (k::j))(l:∀{us j},Y us j->Vals (j.map D) us)
  (K:∀{M:ϖ}{B:϶}{P:PySem.Fin->ώ->Prop}{s1:ώ}{vs j},Y vs j->↑vs<64->(∀d ns,Y d.toList ns->ns.Perm j->Z ns->P (.done (.ret .none)) {s1 with heap:=sortedHeap (s1.heap.push (seqObj "list" vs.toArray 0)) s1.heap.objs.size vs d})->
    wpAny (model X.prog X.w) M (Builtin.«list.sort» #[[.ref s1.heap.objs.size],[]]) P B {s1 with heap:=s1.heap.push (seqObj "list" vs.toArray 0)})
  (L:∀{ns:ϊ h},Z ns->ns.Nodup->ns.Pairwise O) {s:ώ} {S:St} {H:Hp} {us:ϊ ϋ} {Q:VK} {a:ό} {f:ϊ (h×V)} (I:Inv X pins S H s) (rv:Vals [.ref a] us) (e:Rd H a (.dK (f.map λp=>(c p.1,p.2)))) (ab:↑f<64) (q:∀r (ns:ϊ h),ns.Perm (f.map (·.1))->ns.Pairwise O->H r=none->Q (.ref r) (upd H r (.lst (ns.map D)))):
  wpAny (model X.prog X.w) X.A (call (.builtin "sorted") us) (λv s'=>∃x H',Inv X pins S H' s'/\RelV x v/\Q x H') E s:=by
 let#[u,rfl,ru]:=rv.one
 cases(show u=Value.ref a from ru);let#[hz,y,ws,J,hD]:=lR I.hok e;let#[ep,n]:=hD.dictAt;have t:↑f=↑ws:=by have:=↑J;rw[Qb]at this;show this
 show pZ (C:=λvs s1=>∃i z,s1={s with heap:=i,toks:=z}/\(∀b o,s.heap.get? b=!o->i.get? b=!o)/\s.heap.objs.size<=i.objs.size/\Y vs (f.map (·.1)))
  (Z:=λvs _ d=>∃ns,Y d.toList ns/\ns.Perm (f.map (·.1))/\Z ns) (λB R hR=>?_) λvs s1 hC=>?_
 .show uv (A:=X.A.in1) (I.ok.hd m) y n (by rw[<-t,ĉ];rfl') λi z vs G g hl hv=>hR _ _ #[i,z,rfl,G,g,Y9 nil cons J hl hv]
 .obtain ⟨i,z,rfl,G,g,N⟩:=hC;have ac:↑vs=↑f:=by have:=↑(l N);rw[Qb,Qb]at this;show this.symm
  show#[(),λM B P hP=>K N () λd ns a b c=>hP _ #[ns,a,b,c],λd w=>?_];let#[ns,U,F,W]:=w;let#[T,he]:=Ri i vs d;show#[.ref _,_,I.laid (t':=z) (a:=i.objs.size) (o:=.lst (ns.map D)) (λb o hb=>yq (G b o hb)) g (show ObjOk X.prog X.w _ _ _ (.lst _)from#[?_,d.toList,T,l U,by rw[he]]),rfl,q _ ns F (L W (F.nodup_iff.mpr (sS J n.nodup))) (I.hok.fresh g)];rw[Qb,F.length_eq,Qb,ĉ];rfl'
theorem wg{X:Cx}(b:X.calm=true):bU X (.builtin "sorted") ur:=by
 intro g s y H x w Q I u h;let#[a,t,rfl,e,c,q]:=h;show qd b .nil a1a sG (λd o n=>list_sort_treeK strKind_oneLt (Ë _ rfl) d.keysOf (λi j rest e=>keyKind_strs (by rw[<-e];show d)) o λv p r=>by
  let#[f,k,l,m]:=sorted_out_str d p r;show n _ f k l m) jV I u e c q
theorem wj{X:Cx}(c:X.calm=true):bU X (.builtin "sorted") ut:=by
 intro g s r H p o Q I n h;let#[a,m,rfl,e,d,q]:=h;show qd c .nil a1b rR (λk l j=>list_sort_tree (Ë _ rfl) k l j) (λi f=>Ŝ (R:=λa b=>a<=b/\a≠b) (λ{a b} z=>()) (List.Pairwise.and i f)) I n (.inl e) d q
theorem Dg{X:Cx}(p:X.calm=true):bU X (.builtin "max") (Ar X.K):=by
 intro n s K H c J Q I C h;let#[a,m,rfl,z,d,q]:=h;let#[u,rfl,B]:=C.one
 cases(show u=Value.ref a from B);let#[A,r,l,F]:=I.list z;have k:=intsAre_of r;let#[c,e]:=k.allInts.items;have b:m=c.toList.map (·.1):=by
  rw[<-k.numsOf,<-nums_intItems,<-e]
 have f:0<c.size:=by
  have g:0<↑m:=ņ.mpr d;rw[b,Qb,ø]at g;show g
 rw[e]at l;show max_intList (I.ok.hd p) l.isList f λv D G y x=>?_
 let#[t,rfl]:=intItems_at y;let#[E,o]:=argBest_gt (numAt c) (c.size-1);show#[.int _,H,I.kept x,#[_,rfl],q _ ?_ λa i=>?_]
 .rw [b,numAt_eq];show getD_mem (by rw[Qb,ø];rfl')
 .rw [b]at i;let#[j,w,rfl]:=mem_getD i;rw[Qb,ø]at w;rw[<-numAt_eq];show o j ()
def yt{X:Cx}(K:Ϗ)(a:X.K=K)(b:X.calm=true):bU X (.builtin "max") (Ar K):=a▸Dg b
end L2
namespace Sx
open PySem PyProof.Rows
section
def mQ{a:ό}{d:ϊ ϋ}{n:Nat}{P:PySem.Fin->ώ->Prop}(M:s.heap.get? a=!(seqObj "list" d.toArray n))(m:↑d<64)(D:∀v∈d,Fs (mid s.heap a d) f v)(F:(d.map f).Nodup)
  (h:∀c:ϊ ϋ,c.Perm d->(c.map f).Pairwise (λa b=>a.cps.toList<b.cps.toList)->P (.done (.ret .none)) {s with heap:=sortedHeap s.heap a d c.toArray}):
  wpAny (model prog w) A (Builtin.«list.sort» #[[.ref a],[]]) P E s:=by
 show Gm (kd:=tuples' true) (a0z (f:=f)) M m (λB=>w5 (s:={s with heap:=mid s.heap a d}) (by intro e;rw[e]at B;simp at B) D) (yp (s:={s with heap:=mid s.heap a d}) D F) λc I u=>?_
 have l:c.toList.Perm (d.zip d):=by
  have:=Ź.mp I;rwa[pairsOf_toList]at this
 have g:∀p∈c.toList,p.1=p.2:=λp L=>(mem_zip_self (l.mem_iff.mp L)).1
 have k:(c.toList.map (·.2)).Perm d:=by
  have:=l.map (·.2);rwa[List.map_snd_zip (Ä _)]at this
 have N:c.size=↑d:=by rw[I.size_eq,pairsOf_size]
 have:=h (c.toList.map (·.2)) k ?_
 .rwa [show(c.toList.map (·.2)).toArray=c.map (·.2)by rw[<-Array.toList_map]]at this
 have t:((c.toList.map (·.2)).map f).Nodup:=((k.map f).nodup_iff).mpr F;rw[ı];intro i j G H q;have o:i<c.size:=by simpa using G
 have r:j<c.size:=by simpa using H
 have x:=u i j (ï q) ();have J:gt c i=c[i]:=by unfold gt;rw[getElem?_pos _ i o];rfl
 have K:gt c j=c[j]:=by unfold gt;rw[getElem?_pos _ j r];rfl
 rw[J,K]at x;have y:((c.toList.map (·.2)).map f)[i]=f (c[i]).1:=by
  rw[g _ (by simp)];simp
 have z:((c.toList.map (·.2)).map f)[j]=f (c[j]).1:=by
  rw[g _ (by simp)];simp
 rw[y,z];have O:f (c[i]).1≠f (c[j]).1:=by
  intro e;have:=(Ŧ (h₀:=G) (h₁:=H) t).mp (by rw[y,z,e]);rfl'
 unfold Bf at x
 cases e:strKind.blt (f (c[i]).1).cps.toList (f (c[j]).1).cps.toList with
 |true=>show æ e
 |false=>
  have:=strKind.total _ _ e x;show absurd (by
   have C:(f (c[i]).1).cps=(f (c[j]).1).cps:=Array.toList_inj.mp this
   cases h4:f (c[i]).1;cases h5:f (c[j]).1;rw[h4,h5]at C;simpa using C) O
end
end Sx
namespace L2
open PySem PySem.Spec PyProof.Rows
def Inv.laidN{X:Cx}{t':Nat}(I:Inv X pins j H s)(k:∀b u,s.heap.get? b=!u->g.get? b=!u)(a:∀b,b<s.heap.objs.size->d b=H b)
  (h:∀b o,s.heap.objs.size<=b->d b=!o->ObjOk X.prog X.w d g b o):Inv X pins j d {s with heap:=g,toks:=t'}:=by
 have f:∀b o,H b=!o->d b=!o:=λb o e=>by rw[a b (I.hok.lt e)];show e
 show I.un #[λb u q _ _ _=>k b u q,λb u q _ _ _=>#[u.slots,k b u q],λb u q n _=>by rw[a b (Ê q)];show n,λb u q _=>#[u,k b u q],λb i q=>f _ _ q,λb u i q=>f _ _ q,λb l q=>#[([].toArray),by rw[f _ _ q];simp]] λb u e=>?_
 rcases Ġ b s.heap.objs.size with lt|ge
 .rw [a b lt]at e;show(I.hok b u e).stay (λc v _ q=>k c v q) (λc q=>f _ _ q) λc i q=>f _ _ q
 .show h b u ge e
def rC(H:Hp)(r:ό)(zs:ϊ (ό×ϐ×V)):Hp:=λb=>if b=r then !(.lst (zs.map λz=>V.ref z.1))else match zs.find? (λz=>decide (z.1=b))with
 |some z=>!(.tup [.str z.2.1,z.2.2])
 |none=>H b
def Gp(a:(zs.map (·.1)).Nodup)(c:∀z∈zs,z.1≠r)(b:z∈zs):rC H r zs z.1=!(.tup [.str z.2.1,z.2.2]):=by
 unfold rC;rw[if_neg (c z b)];have:zs.find? (λy=>decide (y.1=z.1))=!z:=by
  clear c;induction zs with
  |nil=>cases b
  |cons y r ih=>
   rw[È,é]at a;rw[ė];rcases Ç.mp b with e|m
   .subst e;simp
   .have d:y.1≠z.1:=λe=>a.1 (by rw[e];show Zl.mpr #[z,m,rfl])
    rw[Ü d];show ih a.2 m
 rw[this]
def Gq(a:b≠r)(c:∀z∈zs,z.1≠b):rC H r zs b=H b:=by
 unfold rC;rw[if_neg a];have:zs.find? (λy=>decide (y.1=b))=none:=Ļ.mpr λz d=>by simpa using c z d
 rw[this]
def Gr(a:b≠r)(c:H b=none)(e:rC H r zs b=!o):∃z∈zs,z.1=b/\o=.tup [.str z.2.1,z.2.2]:=by
 unfold rC at e;rw[if_neg a]at e
 cases q:zs.find? (λz=>decide (z.1=b))with
 |none=>rw[q]at e;rw[c]at e;cases e
 |some z=>
  rw[q]at e
  cases e;have d:decide (z.1=b)=true:=by have:=ų q;simpa using this
  show#[z,Ċ q,æ d,rfl]
def yu{c d:Type}{F:c->d->Prop}{a:ϊ c}{b:ϊ d}(r:Paired F a b):∀{i:Nat}{p:c}{q:d},a[i]?=!p->b[i]?=!q->F p q:=by
 induction r with
 |nil=>intro i p q h;simp at h
 |cons h t ih=>
  intro i p q e f
  cases i with
  |zero=>cases e;cases f;show h
  |succ i=>show ih e f
def Dh{X:Cx}(U:X.calm=true)(hg:Gl X "sorted")(hm:X.mg "sorted"=none)(ho:PE X o td)
  (T:attributeBase o "items" X.env (eval o X.env)=eval o X.env:=by rfl) (W:(d.endLine==l.line)=true:=by rfl)
  (he:starEach [.Call (.Attribute o "items" d) [] [] l] X.env=(false,eval (.Call (.Attribute o "items" d) [] [] l) X.env)::starEach [] X.env:=by rfl)
  (ax:backTo al (starEach [.Call (.Attribute o "items" d) [] [] l] X.env)=[(false,eval (.Call (.Attribute o "items" d) [] [] l) X.env)]:=by rfl):
  PE X (.Call (.Name "sorted" p) [.Call (.Attribute o "items" d) [] [] l] [] al) (Aq td):=by
 intro N s σ H Q I h;show ū (gO I hg hm (by ac_nf:bootBuiltins "sorted"=!(.builtin "sorted")) ?_ (by decide) (by decide));show PyProof.Rows.callWith_builtin1 ?_ he rfl;rw[ax];show Ģ (Ο T W (bA (ho N s σ H _ I h) λv w ob=>?_));let#[x,H1,J,r1,q1]:=ob;let#[a,c,rfl,e,am,q]:=q1
 cases(show v=Value.ref a from r1);let#[M,af,us,kv,hD]:=lR J.hok (.inl e);let#[t1,t2,_]:=uc J (.inl #[_,.inl e]);show#["dict","dict.items",Ĥ,Ρ,PySem.F.type_dict_items,t1,t2,ċ rfl (PySem.evalArgs_none ?_)];show call_meetsIn Ρ hD.typeIs PySem.F.entry_dict_items (PySem.F.args_dict_items_1 _) (meets_dict_items (bf X.prog X.w) a af) #[#[us,hD],?_];show ř ?_;let#[ep,ab]:=hD.dictAt;have ad:↑c=↑us:=by have:=↑kv;rw[Qb]at this;show this
 have ar:us.map (·.1)=c.map λp=>(Sum.inr p.1:Key):=by rw[<-kv.keys,Æ];rfl
 have I2:Inv X N σ H1 {w with heap:=w.heap.push {cls:=.type "dict_items",data:=.fields ([.ref a].toArray)}}:=J.kept (t':=w.toks) λb ob q=>Ã _ q
 show pZ (C:=λvs s3=>∃m tk u,s3={w with heap:=m,toks:=tk}/\(∀b o,w.heap.get? b=!o->m.get? b=!o)/\w.heap.objs.size<=m.objs.size/\↑u=↑us/\PySem.W.KdxG (bf X.prog X.w) us w.heap.objs.size m u/\vs=u.map Value.ref)
  (Z:=λvs s3 ai=>∃n:ϊ ϋ,ai=n.toArray/\n.Perm vs/\(n.map (sJ s3.heap)).Pairwise (λa b=>a.cps.toList<b.cps.toList)) (λE' R hR=>?_) λvs s3 hC=>?_
 .show PySem.W.kdx_collect (A:=X.A.in1) (knd:=bf X.prog X.w) (kvs:=us) (ep:=ep) (J.ok.hd U) #[_,Ë _ rfl,rfl,rfl] (ab.push _) (by rw[<-ad,ĉ];rfl') λm tk u hk hl hG=>hR _ _ #[m,tk,u,rfl,λb o q=>hk b o (Ã _ q),?_,hl,hG.low ?_,rfl]
  .show ï (Ê (hk w.heap.objs.size _ (Ë _ rfl)))
  .show w.heap.objs.size<=(w.heap.push _).objs.size;rw[size_push'];rfl'
 .obtain ⟨m,tk,u,rfl,hk,ag,a5,hG,rfl⟩:=hC;have a4:∀(j:Nat)(b:ό) p,u[j]?=!b->c[j]?=!p->∃t B,m.get? b=!{cls:=.type "tuple",data:=.seq ([.str p.1 t,B].toArray)}/\RelV p.2 B:=by
   intro j b p K hp;let#[a7,k,x,O,S,e3]:=hG.pairs j b K;have e4:(us.map (·.1))[j]?=!k:=by rw[Jn,O];rfl
   rw[ar,Jn,hp]at e4
   cases e4;rw[jZ]at S;rcases bw S with⟨i,t,e,_⟩|⟨y,t,e,ev⟩
   .show nomatch e
   .cases e;have hv:RelV p.2 x:=by
     have:=yu kv (i:=j) (p:=(Sum.inr p.1,p.2)) (q:=(Sum.inr p.1,x)) (by rw[Jn,hp];rfl) O;show this.2
    show#[t,x,by rw[<-ev];show e3,hv]
  have a6:↑c=↑u:=()
  have O:((u.zip c).map λq=>(q.1,q.2.1,q.2.2):ϊ (ό×ϐ×V)).map (·.1)=u:=by rw[Æ];show List.map_fst_zip ()
  have S:((u.zip c).map λq=>(q.1,q.2.1,q.2.2):ϊ (ό×ϐ×V)).map (·.2)=c:=by rw[Æ];show List.map_snd_zip ()
  have G:∀z∈((u.zip c).map λq=>(q.1,q.2.1,q.2.2):ϊ (ό×ϐ×V)),∃t B,m.get? z.1=!{cls:=.type "tuple",data:=.seq ([.str z.2.1 t,B].toArray)}/\RelV z.2.2 B:=by
   intro z M;let#[q,mq,rfl]:=Zl.mp M;let#[j,hj,ej]:=ă.mp mq;have hl:j<↑u/\j<↑c:=by rw[List.length_zip]at hj;rfl'
   rw[List.getElem_zip]at ej;have:=a4 j u[j] c[j] (Qr hl.1) (Qr hl.2);rw[<-ej];show this
  generalize((u.zip c).map λq=>(q.1,q.2.1,q.2.2):ϊ (ό×ϐ×V))=zs0 at O S G;have ay:u.map Value.ref=zs0.map λz=>Value.ref z.1:=by rw[<-O,Æ];rfl
  have ah:↑zs0<64:=by rw[<-Qb (f:=(·.2)),S];show am
  have D:∀z∈zs0,sJ m (.ref z.1)=z.2.1:=λz M=>by
   let#[t,B,g,_]:=G z M;unfold sJ;dsimp only;rw[g];rfl
  have ef:(zs0.map λz=>Value.ref z.1).map (sJ m)=zs0.map (·.2.1):=by
   rw[Æ];show Ā λz M=>D z M
  have av:(zs0.map (·.2.1)).Nodup:=by
   have:zs0.map (·.2.1)=c.map (·.1):=by rw[<-S,Æ];rfl
   rw[this];show sS kv ab.nodup
  have r:∀z∈zs0,w.heap.objs.size<z.1/\z.1<m.objs.size:=λz M=>by
   have:z.1∈u:=by rw[<-O];show Zl.mpr #[z,M,rfl]
   show#[hG.above _ this,hG.there this]
  have aw:(zs0.map (·.1)).Nodup:=by
   rw[O];show Ŝ (λ{a b} h e=>by rw[e]at h;show Ĉ _ h) hG.rise
  rw[ay];show#[by rw[Qb];show ah,λA' E' P hP=>?_,λai ae=>?_]
  .show Sx.mQ (f:=sJ m) (Ë _ rfl) (by rw[Qb];show ah) (λv hv=>?_) (by rw[ef];show av) λn hp hs=>hP _ #[n,rfl,hp,hs]
   let#[z,E,rfl]:=Zl.mp hv;let#[t,B,g,_]:=G z E;show#[z.1,{cls:=.type "tuple",data:=.seq ([.str z.2.1 t,B].toArray)},([.str z.2.1 t,B].toArray),t,_,[B],rfl,?_,rfl,rfl,by rw[D z E]];unfold Sx.mid;show Ã _ (Ã _ ?_);rw[Heap.get?_update_ne _ _ _ _ (ã (r z E).2)];show Ã _ g
  .obtain ⟨n,rfl,hp,hs⟩:=ae;let#[F,Y,rfl]:=Px hp.symm rfl;have es:(F.map λz=>Value.ref z.1).map (sJ m)=F.map (·.2.1):=by
    rw[Æ];show Ā λz a3=>D z (Y.mem_iff.mp a3)
   rw[es]at hs;let#[ee,ap]:=Ri m (zs0.map λz=>Value.ref z.1) (F.map λz=>Value.ref z.1).toArray;have hr:H1 m.objs.size=none:=J.hok.fresh ag;have a2:∀z∈F,z.1≠m.objs.size:=λz E=>ã (r z (Y.mem_iff.mp E)).2
   have a1:(F.map (·.1)).Nodup:=((Y.map _).nodup_iff).mpr aw;have L:∀b,b<w.heap.objs.size->rC H1 m.objs.size F b=H1 b:=λb K=>Gq (ã (Ñ K ag)) λz E=>ę (Ŭ K (r z (Y.mem_iff.mp E)).1)
   show#[.ref _,rC H1 m.objs.size F,J.laidN (t':=tk) (λb o K=>yq (hk b o K)) L λb o K eo=>?_,rfl,q _ F _ (by rw[<-S];show Y.map _) hs hr (λb o eb=>by rw[L b (J.hok.lt eb)];show eb) (by unfold rC;rw[if_pos rfl]) λz E=>Gp a1 a2 E];by_cases ac:b=m.objs.size
   .subst ac;have:o=.lst (F.map λz=>V.ref z.1):=by unfold rC at eo;rw[if_pos rfl]at eo;cases eo;rfl
    subst this;show#[by rw[Qb,Y.length_eq,ĉ];rfl',_,ee,sO (g:=λz=>z.1) F,ap]
   .obtain ⟨z,E,ez,rfl⟩:=Gr ac (J.hok.fresh K) eo;let#[t,B,g,rv]:=G z (Y.mem_iff.mp E);rw[<-ez];show#[by change 2<=_;rw[ĉ];decide,[.str z.2.1 t,B],.cons #[t,rfl] (.cons rv .nil),_,yq g,rfl,_,rfl]
end L2
end
section
namespace Sy
open PySem PyProof.Rows
variable{n:Nat}{a:ό}{h₀:ϒ}{v:ϋ}{T:String}{R:Result->ώ->Prop}{Q:ύ ϋ->ώ->Prop}
theorem sU:entryFor table "dict.update.loop"=some Builtin.«dict.update.loop»:=entryFor_of_tree (by kernel_rfl)
theorem jL:plainId "dict.update.loop"=true:=by ac_nf
theorem Gs:typeLookup (.type "tuple") "keys"=pure none:=am_miss_of_fast (by ac_nf)
theorem Ui:typeLookup (.type "tuple") "__getattr__"=pure none:=by rw[typeLookup_type,builtinLookup_eq_fast];kernel_rfl
theorem Gu:typeLookup (.type "list") "keys"=pure none:=am_miss_of_fast (by ac_nf)
theorem Uj:typeLookup (.type "list") "__getattr__"=pure none:=by rw[typeLookup_type,builtinLookup_eq_fast];kernel_rfl
theorem stored_new{K:Type}[DecidableEq K]{a:ϊ (K×ϋ)}{k:K}(h:k∉a.map (·.1)):stored a k v=a++[(k,v)]:=by
 unfold stored;rw[if_neg];intro z;let#[p,m,e]:=List.any_eq_true.mp z;show h (Zl.mpr #[p,m,æ e])
section
variable{prog:ϓ}{w:ϕ}{A:ϖ}{E:϶}{s:ώ}
theorem Py(q:T="tuple"\/T="list")(a:ό)(o:Obj)(f:ϔ ϋ)(n:Nat)(k:o.cls=.type T)(l:o.dict=none)(b:o.data=.seq f n)(u:Tok):Meets (Builtin.«object.__getattribute__» #[[.ref a,.str "keys" u],[]]) (λA R s=>s.heap.get? a=!o/\raisesAttr (.ref a) "keys" A R s):=
 Meets.of_wp λm w A R s c=>by
  let#[t,g,d,x,v]:=s;let#[e,c]:=c;dsimp only at e;let#[p,j,i,h]:=o;simp only at k l b;subst k l b;have r:(⟨t,g,d,x,v⟩:ώ).TypeIs (.ref a) T:=#[_,e,rfl];have y:=Gs;have z:=Gu;unfold Builtin.«object.__getattribute__»;rcases q with rfl|rfl<;>repeat(any_goals(first|assumption|wp_step|(show PySem.AutoSeq1.wpAny_loadPart' e ?_)))
  all_goals show wpAny_raiseAttrError c.1 c.2 (attrMsg_fits (by ac_nf) (by rw[ĉ];decide+kernel))
theorem Av(t:A.handled=none)(r:T="tuple"\/T="list")(c:s.heap.get? a=!o)(j:o.cls=.type T)(k:o.dict=none)(h:o.data=.seq its n)
  (x:∀h' i,(∀b ob,s.heap.get? b=!ob->h'.get? b=!ob)->Q none {s with heap:=h',toks:=i}):wpAny (model prog w) A (getAttr? (.ref a) "keys") Q E s:=by
 let#[y,g,d,i,z]:=s;dsimp only at c;have M:=λu=>Py r a o its n j k h u
 let#[v,q,p,l]:=o;simp only at j k h;subst j k h;have f:∀i,(⟨y,g,d,i,z⟩:ώ).TypeIs (.ref a) T:=λ_=>#[_,c,rfl]
 have B:=sub_AttributeError;have C:=F.slot_tuple_getattribute.lookup;have D:=F.slot_tuple_getattribute.bind (.ref a);have G:=Ui;have H:=F.slot_list_getattribute.lookup;have I:=F.slot_list_getattribute.bind (.ref a);have J:=Uj;unfold getAttr? getAttrBy? getAttrBy;rcases r with rfl|rfl<;>repeat(any_goals(first|assumption|show f _|((with_reducible change wpAny _ _ (call (Value.builtin "list.__getattribute__") _ _) _ _ _);show Λ F.slot_list_getattribute (f _) F.entry_list_ga (F.args_list_getattribute_2 _ _) (M _) ⟨c,t,λh' m e c=>?_⟩)|((with_reducible change wpAny _ _ (call (Value.builtin "tuple.__getattribute__") _ _) _ _ _);show Λ F.slot_tuple_getattribute (f _) F.entry_tuple_ga (F.args_tuple_getattribute_2 _ _) (M _) ⟨c,t,λh' m e c=>?_⟩)|wp_step))
 all_goals
  let#[L,N,K]:=c.there;change wpAny _ _ (getattributeRaised _ _ _ _ _ _ _) _ _ _;unfold getattributeRaised;repeat(any_goals(first|assumption|wp_step))
  show x _ _ c.keeps
theorem Gv{K:Type}[DecidableEq K]{knd:PySem.KeyKind prog w K}{I D:ό}{fp B:ϊ ό}{c:ϊ (ό×ϋ×K×ϋ)}{St:Nat->ϒ->Prop}
  (W:Walks prog w A.in1 I fp B ↑c (λi v=>∃z,c[i]?=!z/\v=.ref z.1) St) (E:D∉fp)
  (hz:∀z∈c,z.1∉D::B/\knd.is z.2.2.1 z.2.1=true/\∃o n,h₀.get? z.1=!o/\o.cls=.type "tuple"/\o.data=.seq ([z.2.1,z.2.2.2].toArray) n) (X:(c.map (·.2.2.1)).Nodup) (ab:↑c<=sizeLine) (L:ϋ)
  (hR:∀h' f,h'.DictOf knd D (c.map λz=>(z.2.2.1,z.2.2.2))->(∀b o,b∉D::B->h₀.get? b=!o->h'.get? b=!o)->R (.ok (.ret L)) {s with heap:=h',toks:=f}):
  ∀(k i:Nat)(h:ϒ)(M:Nat)(j:Int),↑c-i=k->i<=↑c->St i h->h.DictOf knd D ((c.take i).map λz=>(z.2.2.1,z.2.2.2))->(∀b o,b∉D::B->h₀.get? b=!o->h.get? b=!o)->
   codeAny (model prog w) A (.builtin "dict.update.loop" #[[.ref D,.ref I,.int j 0,L],[]]) R {s with heap:=h,toks:=M}:=by
 have F:D∉B:=λm=>E (W.sub _ m)
 have x:∀{b},b∉D::B->b∉B:=λ{b} n m=>n (Ì _ m)
 intro k;induction k with
 |zero=>
  intro i h M j hk hi u N a;have U:i=↑c:=()
  subst U;rw[Ö]at N;show Ŗ sU ?_;rw[Ħ jL _];change wpAny _ A.in1 (pyNext (.ref I)>>=_) _ _ _;show Zp (W.done {s with heap:=h,toks:=M} _ _ u λh' f d=>?_);change wpAny _ A.in1 (Builtin.Dict.addKeywords D []>>=_) _ _ _;show Zp (Á (Á (hR h' f ?_ λb o g e=>d b o (x g) (a b o g e))));let#[o,P,O,Y,r]:=N;show#[o,P,O,d D o F Y,r]
 |succ k ih=>
  intro i h M j hk hi u N a;have G:i<↑c:=()
  show Ŗ sU ?_;rw[Ħ jL _];change wpAny _ A.in1 (pyNext (.ref I)>>=_) _ _ _;show Zp (W.item i {s with heap:=h,toks:=M} _ _ G u λv h' f hP J d=>?_);let#[z,ez,rfl]:=hP;have hm:=Yf ez;let#[n1,n2,o,n,g1,g2,g3]:=hz z hm;have C:h'.get? z.1=!o:=d _ _ (x n1) (a _ _ n1 g1);have S:h'.DictOf knd D ((c.take i).map λz=>(z.2.2.1,z.2.2.2)):=by
   let#[o,P,O,Y,r]:=N;show#[o,P,O,d D o F Y,r]
  show Zp (ÿ ?_);show Zp (ι ?_);unfold Builtin.Dict.pairItems;show Zp (wpAny_typeOf (T:="tuple") #[o,C,g2] ?_);rw[if_pos (by decide)];show Zp ?_;unfold seqItems?;show Zp (wpAny_load C ?_);rw[g3];show Á (Á ?_);change wpAny _ _ (holding [z.2.1,z.2.2.2] (dictSet D z.2.1 z.2.2.2)) _ _ _;show ÿ (wpAny_dictSet_pairs n2 S (λQ l t=>?_) (by rw[Qb,Ô];rfl'));have Z:c.take (i+1)=c.take i++[z]:=by rw[Í,ez];rfl
  have H:z.2.2.1∉((c.take i).map λz=>(z.2.2.1,z.2.2.2)).map (·.1):=by
   intro m;rw[Æ]at m;let#[y,my,ey]:=Zl.mp m;have p:((c.take (i+1)).map (·.2.2.1)).Nodup:=Č ((ī _ _).map _) X;rw[Z,Wp,â]at p;show p.2.2 _ (Zl.mpr #[y,my,rfl]) z.2.2.1 (by simp) ey
  rw[stored_new H]at l;show Á #[plainId_quiet jL _,ih (i+1) Q _ (j+1) () G (W.frame _ _ _ J λb g o e=>?_) (by rw[Z,Wp];show l) λb o g e=>?_]
  .rw [t.2 b (λq=>E (by rw[<-q];show g))];show e
  .rw [t.2 b (λq=>g (by rw[q];show É))];show d b o (x g) (a b o g e)
theorem nW{K:Type}[DecidableEq K]{knd:PySem.KeyKind prog w K}(O:T="tuple"\/T="list"){d:ϊ (ό×ϋ×K×ϋ)}{Q:϶}(G:A.handled=none)(hx:s.heap.get? a=!o)(p:o.cls=.type T)(hd:o.dict=none)(f:o.data=.seq (d.map λz=>Value.ref z.1).toArray n)
  (hz:∀z∈d,knd.is z.2.2.1 z.2.1=true/\∃o n,s.heap.get? z.1=!o/\o.cls=.type "tuple"/\o.data=.seq ([z.2.1,z.2.2.2].toArray) n) (P:(d.map (·.2.2.1)).Nodup) (R:↑d<=sizeLine)
  (B:∀h' M,h'.DictOf knd s.heap.objs.size (d.map λz=>(z.2.2.1,z.2.2.2))->(∀b o,s.heap.get? b=!o->h'.get? b=!o)->Q (.ref s.heap.objs.size) { s with heap:=h',toks:=M}):
  wpAny (model prog w) A (call (.type "dict") [.ref a]) Q E s:=by
 show callType_codes (Q₁:=λL l=>L=.ref s.heap.objs.size/\l={ s with heap:=s.heap.push { cls:=.type "dict",data:=.dict ([].toArray)}}) F.kt_called_dict (F.kt_typeCall_dict_1 _) F.entry_dict_init (kt_code_dict_new _ ⟨rfl,rfl⟩) ?_;rintro L l ⟨rfl,rfl⟩;have C:a<s.heap.objs.size:=Ê hx;have h:(s.heap.push { cls:=.type "dict",data:=.dict ([].toArray)}).DictOf knd s.heap.objs.size []:=Heap.DictOf.new s.heap;have u:(s.heap.push { cls:=.type "dict",data:=.dict ([].toArray)}).get? a=!o:=Ã _ hx;show#[h.typeIs,F.args_dict_init_2 _ _,?_];unfold Builtin.«dict.__init__»;show Zp ?_;unfold Builtin.Dict.selfAndRest;show Zp (Ĵ h.typeIs ?_);change wpAny _ _ (pure (s.heap.objs.size,[Value.ref a])) _ _ _;show Á ?_;change wpAny _ _ (Builtin.Dict.updateFrom "dict.__init__" s.heap.objs.size (.ref a) [] .none) _ _ _;unfold Builtin.Dict.updateFrom;show Zp (wpAny_typeOf (T:=T) #[o,u,p] ?_);rw[if_pos (by rcases O with rfl|rfl<;>decide)];have nk:∀{A:ϖ}{E:϶}{s:ώ}{Q:ύ ϋ->ώ->Prop},A.handled=none->s.heap.get? a=!o->(∀h' M,(∀b ob,s.heap.get? b=!ob->h'.get? b=!ob)->Q none { s with heap:=h',toks:=M})->wpAny (model prog w) A (getAttr? (.ref a) "keys") Q E s:=by
  rcases O with rfl|rfl
  .show λc N=>Av c (.inl rfl) N p hd f
  .show λc N=>Av c (.inr rfl) N p hd f
 show Zp (nk G u λc ab j=>?_);rw[if_pos (show(none:ύ ϋ).isNone=true from rfl)];show Zp (ō ?_);have q:s.heap.objs.size<c.objs.size:=Ê (j s.heap.objs.size _ (Ë _ rfl));have I:a≠c.objs.size:=ã (Ŭ C q);have y:(d.map λz=>Value.ref z.1).toArray.size=↑d:=by simp
 have it:∀{Z:ϖ}{E:϶}{s:ώ}{Q:϶},s.heap=c->A.handled=none->(∀(ob:Obj) St,Walks prog w A.in1.in1 c.objs.size [c.objs.size,a] [c.objs.size] (d.map λz=>Value.ref z.1).toArray.size (λi v=>(d.map λz=>Value.ref z.1).toArray[i]?=!v) St->St 0 (c.push ob)->Q (.ref c.objs.size) { s with heap:=c.push ob})->wpAny (model prog w) Z (pyIter (.ref a)) Q E s:=by
  have g:=j _ _ u;rintro Z E s Q rfl G k;rcases O with rfl|rfl
  .have t:s.heap.IsTuple a (d.map λz=>Value.ref z.1).toArray:=#[o,g,p,n,f];show ĵ t (k _ _ (Walks.tuple (A:=A.in1.in1) G _ a I _) #[#[_,Ë _ rfl,rfl,rfl],#[o,Ã _ g,p,n,f]])
  .have t:s.heap.IsList a (d.map λz=>Value.ref z.1).toArray:=#[o,g,p,n,f];show Ψ t (k _ _ (Walks.list (A:=A.in1.in1) G _ a I _) #[#[_,Ë _ rfl,rfl,rfl],#[o,Ã _ g,p,n,f]])
 show Zp (it rfl G λio St x X=>?_);have W:Walks prog w A.in1.in1 c.objs.size [c.objs.size,a] [c.objs.size] ↑d (λi v=>∃z,d[i]?=!z /\ v=.ref z.1) St:=
  { sub:=x.sub,frame:=x.frame,self:=x.self
    item:=λi s Q E hi U B=>x.item i s Q E (by rw[y];show hi) U λv h' M hP=>B v h' M (by
      rw[ψ,Jn]at hP;let#[z,e1,e2]:=Ï.mp hP;show#[z,e1,e2.symm])
    done:=λs Q E U B=>x.done s Q E (by rw[y];show U) B}
 have H:∀b ob,s.heap.get? b=!ob->(c.push io).get? b=!ob:=λb ob e=>Ã _ (j b ob (Ã _ e))
 have J:∀b ob,s.heap.get? b=!ob->b∉[s.heap.objs.size,c.objs.size]:=λb ob e m=>by
  have:=Ê e;simp only[Ç,Þ,ć]at m;rcases m with rfl|rfl
  .show Ĉ _ this
  .show Ĉ _ (Ŭ this q)
 show Á #[plainId_quiet jL _,Gv (s:=s) (A:=A.in1) (knd:=knd) (D:=s.heap.objs.size) (h₀:=c.push io) W ?_ (λz m=>?_) P R .none (λh' Y hD hk=>#[rfl,B h' Y hD λb ob e=>hk b ob (J b ob e) (H b ob e)]) ↑d 0 _ _ 0 rfl (à _) X ?_ λ_ _ _ e=>e]
 .simp only[Ç,Þ,ć,not_or];show#[Nat.ne_of_lt q,ę C]
 .obtain ⟨n1,S,n',g1,g2,g3⟩:=hz z m;show#[J _ _ g1,n1,S,n',H _ _ g1,g2,g3]
 .obtain ⟨S,es,ep,ho,r⟩:=h;show#[S,es,ep,Ã _ (j _ _ ho),r]
end
end Sy
namespace L2
open PySem PySem.Spec PyProof.Rows
variable{σ:St}{v:ϋ}{w:ϕ}{a i:ό}{s1:ώ}{prog:ϓ}{R:Obj->Hp->Prop}{pins:ϸ}{E:϶}{Q:ύ ϋ->ώ->Prop}
def sV(K:Ϗ):ϊ V->Hp->VK->Prop:=λxs H Q=>∃p ys,xs=[.ref p]/\SqL K H p ys/\∀l (ob:Obj),ob.dict=none->H l=none->Q (.ref l) (upd H l (.frz ob (.tup ys)))
theorem Di{X:Cx}:bU X (.type "tuple") (sV X.K):=by
 intro a s k H y x Q I r h;let#[p,j,rfl,m,q]:=h;let#[u,rfl,w]:=vals1 r
 cases w;let#[c,i,v,n]:=I.list m;have g:=↑i;show call_tuple_list v.isList (λd t=>?_) (by simp only[Ø]<;>rfl');have f:Inv X a k H {s with heap:=d}:=I.kept (t':=s.toks) t;have l:Inv X a k (upd H d.objs.size (.frz {cls:=.type "tuple",data:=.seq c.toArray} (.tup j))) {s with heap:=d.push {cls:=.type "tuple",data:=.seq c.toArray}}:=
  f.laid (t':=s.toks) (λb o e=>Ã _ e) (Ä _) (show ObjOk X.prog X.w _ _ _ (.frz _ (.tup j))from#[Heap.get?_push_size _ rfl,n,c,i,IsTup.new _ _])
 show#[.ref d.objs.size,_,l,rfl,q _ _ rfl (f.hok.fresh (Ä _))]
def kW{X:Cx}(K:Ϗ)(a:X.K=K):bU X (.type "tuple") (sV K):=a▸Di
def jM(K:Ϗ):ϊ V->Hp->VK->Prop:=λxs H Q=>∃(a:ό)(zs:ϊ (ό×ϐ×V)),xs=[.ref a]/\((∃ob:Obj,ob.dict=none/\H a=!(.frz ob (.tup (zs.map λz=>V.ref z.1))))\/H a=!(.lst (zs.map λz=>V.ref z.1)))/\(∀z∈zs,SqT K H z.1 [.str z.2.1,z.2.2])/\(zs.map (·.2.1)).Nodup/\↑zs<=1000/\∀r,H r=none->Q (.ref r) (upd H r (.dK (zs.map λz=>(Sum.inr z.2.1,z.2.2))))
theorem wk{X:Cx}(C:X.calm=true):bU X (.type "dict") (jM X.K):=by
 intro M s σ H xs us Q I r h;let#[a,d,rfl,ha,L,k,Y,q]:=h;let#[u,rfl,rx]:=vals1 r
 cases rx;let#[T,S,o,n,i,g,j,c]:∃T,(T="tuple"\/T="list")/\∃(o:Obj)(n:Nat),s.heap.get? a=!o/\o.cls=.type T/\o.dict=none/\o.data=.seq (d.map λz=>Value.ref z.1).toArray n:=by
  rcases ha with⟨ob,j,ha⟩|ha
  .obtain ⟨i,_,F,J,o',l,g,n,c⟩:=I.hok a _ ha;rw[i]at l
   cases l;rw[pY J]at c;show#[_,.inl rfl,_,n,i,g,j,c]
  .obtain ⟨_,F,n,J,i⟩:=(show ObjOk X.prog X.w H s.heap a (.lst (d.map λz=>V.ref z.1))from I.hok a _ ha);rw[pY J]at i;show#[_,.inr rfl,_,n,i,rfl,rfl,rfl]
 have K:∀z∈d,∃t v,RelV z.2.2 v/\∃o n,s.heap.get? z.1=!o/\o.cls=.type "tuple"/\o.data=.seq ([.str z.2.1 t,v].toArray) n:=λz m=>by
  let#[is,G,p1,_]:=I.tuple (L z m);let#[o,Z,C,n,U]:=p1
  cases G with
  |cons r2 rr=>
   let#[t,rfl]:=r2
   cases rr with
   |cons r3 r4=>
    cases r4;show#[t,_,r3,o,n,Z,C,U]
 have D:∃f:ϊ (ό×ϋ×Key×ϋ),f.map (λw=>Value.ref w.1)=d.map (λz=>Value.ref z.1)/\f.map (·.2.2.1)=d.map (λz=>(Sum.inr z.2.1:Key))/\KV (d.map λz=>((Sum.inr z.2.1:Key),z.2.2)) (f.map λw=>(w.2.2.1,w.2.2.2))/\∀w∈f,gG w.2.2.1 w.2.1=true/\∃o n,s.heap.get? w.1=!o/\o.cls=.type "tuple"/\o.data=.seq ([w.2.1,w.2.2.2].toArray) n:=by
  clear ha k Y q c L;induction d with
  |nil=>show#[[],rfl,rfl,.nil,by simp]
  |cons z d ih=>
   let#[f,p,x,A,B]:=ih λy my=>K y (Ì _ my)
   let#[t,v,G,o,n,N,O,P]:=K z É;show#[(z.1,.str z.2.1 t,Sum.inr z.2.1,v)::f,by rw[È,È,p],by rw[È,È,x],.cons #[rfl,G] A,λw mw=>?_];rcases Ç.mp mw with rfl|mw
   .show #[rH _ _,o,n,N,O,P]
   .show B w mw
 let#[f,p,x,A,B]:=D;rw[<-p]at c;have E:↑f=↑d:=by have:=Ý List.length p;rw[Qb,Qb]at this;show this
 show Sy.nW (knd:=bf X.prog X.w) S (I.ok.hd C) i g j c B (by rw[x,show(d.map λz=>(Sum.inr z.2.1:Key))=(d.map (·.2.1)).map Sum.inr by rw[Æ];rfl];show ŀ.mpr (Ŝ (λ{a b} h e=>h (ě e)) k)) (by rw[E,ĉ];rfl') λh' tk R W=>?_
 show#[.ref _,_,I.laid (t':=tk) (o:=.dK (d.map λz=>((Sum.inr z.2.1:Key),z.2.2))) W (Ä _) (show ObjOk X.prog X.w _ _ _ (.dK _)from#[by rw[Qb,ĉ];rfl',?_,_,A,R]),rfl,q _ (I.hok.fresh (Ä _))];show ń.mpr (ę I.big)
def iU{X:Cx}(K:Ϗ)(a:X.K=K)(b:X.calm=true):bU X (.type "dict") (jM K):=a▸wk b
structure Drw(prog:ϓ)(w:ϕ)(i l:ό)(xs:ϔ ϋ)(St:Nat->ϒ->Prop):Prop where
 keep:∀k h h',St k h->(∀c,c=i\/c=l->∀o,h.get? c=!o->h'.get? c=!o)->St k h'
 item:∀(A:ϖ)(s:ώ) k x (Q:϶) (E:϶),St k s.heap->xs[k]?=!x->(∀h',St (k+1) h'->Heap.SameBut i s.heap h'->Q x {s with heap:=h'})->
  wpAny (model prog w) A (Builtin.SmallTypes.nextOf (.ref i)) Q E s
 stop:∀(A:ϖ)(s:ώ) k (Q:϶) (E:϶),A.handled=none->St k s.heap->xs[k]?=none->(∀h' e,Heap.ExtBut i s.heap h'->(∃o,h'.get? e=!o/\o.cls=.type "StopIteration")->E (.ref e) {s with heap:=h'})->
  wpAny (model prog w) A (Builtin.SmallTypes.nextOf (.ref i)) Q E s
theorem Drw.but{l b:ό}{m:ϔ ϋ}{St:Nat->ϒ->Prop}(D:Drw prog w i l m St){k:Nat}{h a:ϒ}(j:St k h)(e:Heap.ExtBut b h a)(f:i≠b)(g:l≠b):St k a:=
 D.keep k h a j λc d o q=>e c o (by rcases d with rfl|rfl;show f;show g) q
theorem Gx(d:l≠i):Drw prog w i l m λk h=>h.IsListIter i l k/\h.IsList l m where
 keep:=λk h g c j=>#[c.1.at λo e=>j i (.inl rfl) o e,c.2.at λo e=>j l (.inr rfl) o e]
 item:=λA s k x Q E c f p=>wpAny_nextOf_list_item c.1 c.2 f λg a b=>p g #[a,c.2.extBut b.extBut d] b
 stop:=λA s k Q E q c f n=>wpAny_nextOf_list_end q c.1 c.2 f n
theorem PB(p:l≠i):Drw prog w i l y λk h=>h.IsTupleIter i l k/\h.IsTuple l y where
 keep:=λk h H j v=>#[j.1.at λo e=>v i (.inl rfl) o e,by let#[o,e,q]:=j.2;show#[o,v l (.inr rfl) o e,q]]
 item:=λA s k x Q E j r C=>by
  let#[b,n]:=j;let#[o,d,t,c]:=id b;let#[G,g,_,D,f]:=id n;unfold Builtin.SmallTypes.nextOf;show Zp (wpAny_callSpecial?_slot (name:=Str.ofString "__next__") b.typeIs ŏ (ò ŏ b.typeIs F.entry_tuple_iterator_next ?_ (F.args_tuple_iterator_next_1 _)));show Zp (m:=field (.ref i) 0) (Ĝ d c (x:=.ref l) rfl ?_);change wpAny _ _ (if(Value.ref l==Value.none)=true then _ else _) _ _ s;rw[if_neg (by intro z;cases z)];show Zp (m:=field (.ref i) 1) (Ĝ d c (x:=.int k 0) rfl ?_);show Zp (m:=seqItems? (.ref l)) (ğ g f ?_);simp only[Ð,r];show Zp (η d c (by simp) (Á #[x,rfl,Á (C _ #[?_,n.extBut (ą ..).extBut p] (ą ..))]));show#[_,ĝ _ d (Obj.isFreed_of_fields (Μ c _)),(Obj.cls_mapFields ..).trans t,by rw[Μ c];simp[rawInt]]
 stop:=λA s k Q E u j r B=>by
  let#[b,n]:=j;let#[o,d,t,c]:=id b;let#[G,g,_,D,f]:=id n;unfold Builtin.SmallTypes.nextOf;show Zp (wpAny_callSpecial?_slot (name:=Str.ofString "__next__") b.typeIs ŏ (ò ŏ b.typeIs F.entry_tuple_iterator_next ?_ (F.args_tuple_iterator_next_1 _)));show Zp (m:=field (.ref i) 0) (Ĝ d c (x:=.ref l) rfl ?_);change wpAny _ _ (if(Value.ref l==Value.none)=true then _ else _) _ _ s;rw[if_neg (by intro z;cases z)];show Zp (m:=field (.ref i) 1) (Ĝ d c (x:=.int k 0) rfl ?_);show Zp (m:=seqItems? (.ref l)) (ğ g f ?_);simp only[Ð,r];show Zp (ō (Zp (η d c (by simp) ?_)));show Zp (m:=newExc (.type "StopIteration") []) ?_;simp only[newExc,newTuple];show Zp (ù ?_ (by size_fits));show Zp (m:=firstArgMember _ _) (wpAny_of_eq (a:=Value.none) (by first|rfl|(simp only[firstArgMember];rfl)) ?_);show ù ?_ (by size_fits);simp only[raiseNew];show Zp (wpAny_handled ?_)
  first| rw[show A.in1.handled=none from u]| rw[u]
  show Zp (Á (wpAny_throw (B _ _ (((ą ..).extBut.push _).push _) #[_,Ë _ rfl,rfl])))
section
variable{prog:ϓ}{w:ϕ}{A:ϖ}{E:϶}{s:ώ}{z TI TO i1 i2 l1 l2:ό}{k:Nat}{xs ys:ϔ ϋ}{S1 S2:Nat->ϒ->Prop}
theorem sW{a b:ϋ}(hh:A.handled=none)(D:ZipApart z TI TO i1 i2 l1 l2)(t:Drw prog w i1 l1 xs S1)(l:Drw prog w i2 l2 ys S2)
  (C:IsZip s.heap z TI TO .none) (W:IsPair s.heap TI (.ref i1) (.ref i2)) (X:IsPair s.heap TO a b) (h1:S1 k s.heap) (h2:S2 k s.heap)
  (hQ:∀x y,xs[k]?=!x->ys[k]?=!y->∀h',IsZip h' z TI TO (rawInt s.heap.objs.size)->IsPair h' TO x y->S1 (k+1) h'->S2 (k+1) h'->IsPair h' s.heap.objs.size x y->
   (∀c o,c≠z->c≠TO->c≠i1->c≠i2->s.heap.get? c=!o->h'.get? c=!o)->Q (!(.ref s.heap.objs.size)) {s with heap:=h'})
  (h0:xs[k]?=none\/ys[k]?=none->∀h',(∀c o,c≠z->c≠TO->c≠i1->c≠i2->s.heap.get? c=!o->h'.get? c=!o)->Q none {s with heap:=h'}):
  wpAny (model prog w) A (pyNext (.ref z)) Q E s:=by
 have hT:s.TypeIs (.ref z) "zip":=#[_,C,rfl];have fin:∀h' e,(∀c o,c≠z->c≠TO->c≠i1->c≠i2->s.heap.get? c=!o->h'.get? c=!o)->(xs[k]?=none\/ys[k]?=none)->(∃o,h'.get? e=!o/\o.cls=.type "StopIteration")->
   wpAny (model prog w) A (do if <-isInstance (.ref e) (.type "StopIteration")then pure none else throw (.ref e):Sem (ύ ϋ)) Q E {s with heap:=h'}:=λh' e kk hn I=>by
  let#[o,ho,H]:=I;show Zp (ŧ (T:="StopIteration") (b:=true) #[o,ho,H] isSubtype_stop (Á (h0 hn _ kk)))
 unfold pyNext;show Zp (wpAny_attempt (wpAny_callSpecial?_slot (name:=Str.ofString "__next__") hT F.slot_zip_next (ò F.slot_zip_next hT F.entry_zip_next ?_ (F.args_zip_next_1 _))));show Zp (m:=field (.ref z) 2) (Ĝ C rfl (x:=.bool false) rfl ?_);show Zp (m:=field (.ref z) 3) (Ĝ C rfl (x:=.ref TI) rfl ?_);show Zp (ğ W rfl ?_);show Zp (m:=Builtin.SmallTypes.ownedTupleIsFree (.ref z)) ?_;unfold Builtin.SmallTypes.ownedTupleIsFree;show Zp (Ĝ C rfl (x:=.none) rfl (Á ?_));simp-iota only[ľ];show Zp (ō ?_);show Zp (Ĝ C rfl (x:=.ref TO) rfl ?_);show Zp (č C (by simp) λg1 L B=>?_);show Zp ?_;simp-iota only[List.zipIdx_cons,List.zipIdx_nil,ý,Ũ];show Zp (Zp (wpAny_onRaise ?_));replace L:IsZip g1 z TI TO .ellipsis:=L;have r1:S1 k g1:=t.but h1 B.extBut D.i1z D.l1z
 cases hx:xs[k]?with
 |none=>
  show Zp (m:=Builtin.SmallTypes.nextOf (.ref i1)) (t.stop _ _ k _ _ hh r1 hx λM e j I=>?_);let#[Z,f,g]:=I;have y2:IsZip M z TI TO .ellipsis:=j _ _ D.i1z.symm L;have u:e≠z:=λq=>by subst q;rw[y2]at f;cases f;simp at g
  show č y2 (by simp) λS _ h=>fin S e (λc o i _ v _ q=>h.extBut _ _ i (j _ _ v (B.extBut _ _ i q))) (.inl hx) #[Z,h.extBut _ _ u f,g]
 |some x=>
  show Zp (m:=Builtin.SmallTypes.nextOf (.ref i1)) (t.item _ _ k x _ _ r1 hx λM r2 j=>Á ?_);have o2:IsPair M TO a b:=j.extBut _ _ D.TOi1 (B.extBut _ _ D.TOz X);have q2:S2 k M:=l.but (l.but h2 B.extBut D.i2z D.l2z) j.extBut D.i12.symm D.l2i1;show Zp (ğ o2 rfl ?_);show Zp (wpAny_updateSeq_pair o2 λS Y h=>?_);replace Y:IsPair S TO x b:=Y;show Zp (ũ (Á ?_));show Zp (Zp (wpAny_onRaise ?_))
  cases hy:ys[k]?with
  |none=>
   show Zp (m:=Builtin.SmallTypes.nextOf (.ref i2)) (l.stop _ _ k _ _ hh (l.but q2 h.extBut D.TOi2.symm D.l2TO) hy λU e p I=>?_);let#[Z,f,g]:=I;have y4:IsZip U z TI TO .ellipsis:=p _ _ D.i2z.symm (h.extBut _ _ D.TOz.symm (j.extBut _ _ D.i1z.symm L));have u:e≠z:=λq=>by subst q;rw[y4]at f;cases f;simp at g
   show č y4 (by simp) λd _ r=>fin d e (λc o i G v K q=>r.extBut _ _ i (p _ _ K (h.extBut _ _ G (j.extBut _ _ v (B.extBut _ _ i q))))) (.inr hy) #[Z,r.extBut _ _ u f,g]
  |some y=>
   show Zp (m:=Builtin.SmallTypes.nextOf (.ref i2)) (l.item _ _ k y _ _ (l.but q2 h.extBut D.TOi2.symm D.l2TO) hy λU r4 p=>Á ?_);have o4:IsPair U TO x b:=p.extBut _ _ D.TOi2 Y;show Zp (ğ o4 rfl ?_);show Zp (wpAny_updateSeq_pair o4 λd O r=>?_);replace O:IsPair d TO x y:=O;show Zp (ũ (Á (Á ?_)));show Zp (ğ O rfl ?_);show Zp (wpAny_newTuple ?_);have sz:d.objs.size=s.heap.objs.size:=by rw[r.1,p.1,h.1,j.1,B.1]
   have y5:IsZip d z TI TO .ellipsis:=r.extBut _ _ D.TOz.symm (p.extBut _ _ D.i2z.symm (h.extBut _ _ D.TOz.symm (j.extBut _ _ D.i1z.symm L)));have c5:∀c o,c≠z->c≠TO->c≠i1->c≠i2->s.heap.get? c=!o->d.get? c=!o:=λc o i G v K e=>
    r.extBut _ _ G (p.extBut _ _ K (h.extBut _ _ G (j.extBut _ _ v (B.extBut _ _ i e))))
   have r5:S1 (k+1) d:=t.but (t.but (t.but r2 h.extBut D.TOi1.symm D.l1TO) p.extBut D.i12 D.l1i2) r.extBut D.TOi1.symm D.l1TO;have p5:S2 (k+1) d:=l.but r4 r.extBut D.TOi2.symm D.l2TO;have J:z<d.objs.size:=Ê y5;show Zp (m:=Builtin.SmallTypes.ownedTupleHandOut (.ref z) (.ref d.objs.size)) ?_;unfold Builtin.SmallTypes.ownedTupleHandOut;show Zp (č (show IsZip (d.push {cls:=.type "tuple",data:=.seq ([x,y].toArray)}) z TI TO .ellipsis from Ã _ y5) (by simp) λg7 y7 t7=>?_);replace y7:IsZip g7 z TI TO (rawInt d.objs.size):=y7;show č y7 (by simp) λN R t8=>?_
   replace R:IsZip N z TI TO (rawInt d.objs.size):=R;have P:∀c o,c≠z->d.get? c=!o->N.get? c=!o:=λc o n e=>t8.extBut _ _ n (t7.extBut _ _ n (Ã _ e))
   have w8:IsPair N d.objs.size x y:=t8.extBut _ _ (ę J) (t7.extBut _ _ (ę J) (Ë _ rfl));rw[sz]at R w8;show Á #[_,rfl,Á ?_];change Q (!(.ref d.objs.size)) _;rw[sz];show hQ x y hx hy N R (P _ _ D.TOz O) (t.keep _ _ _ r5 λc H o e=>P c o (by rcases H with rfl|rfl;show D.i1z;show D.l1z) e) (l.keep _ _ _ p5 λc H o e=>P c o (by rcases H with rfl|rfl;show D.i2z;show D.l2z) e) w8 λc o i G v K e=>P c o i (c5 c o i G v K e)
end
abbrev zo1(h:ϒ)(j1:Obj):ϒ:=h.push j1
abbrev zo2(h:ϒ)(j1 j2:Obj):ϒ:=(zo1 h j1).push j2
abbrev zo3(h:ϒ)(j1 j2:Obj):ϒ:=(zo2 h j1 j2).push {cls:=.type "tuple",data:=.seq ([.ref h.objs.size,.ref (zo1 h j1).objs.size].toArray)}
abbrev zo4(h:ϒ)(j1 j2:Obj):ϒ:=(zo3 h j1 j2).push {cls:=.type "tuple",data:=.seq ([.none,.none].toArray)}
abbrev Xl(h:ϒ)(j1 j2:Obj):ϒ:=(zo4 h j1 j2).push {cls:=.type "zip",data:=.fields ([.none,.bool false,.bool false,.ref (zo2 h j1 j2).objs.size,.ref (zo3 h j1 j2).objs.size].toArray)}
abbrev wu(l:ό):Obj:={cls:=.type "tuple_iterator",data:=.fields ([.ref l,.int 0 0].toArray)}
theorem mU{h:ϒ}{c:ό}{o d:Obj}(e:h.get? a=!o)(b:h.get? c=!d)(n:o.cls≠d.cls):a≠c:=λq=>by
 subst q;rw[e]at b;cases b;show n rfl
def PJ(lo:Int)(n:Nat):It:=#[λi _=>i<n,λi H x H'=>H'=H/\x=.int (lo-i),λi _=>n<=i]
theorem ww{P:ϓ}{K:Ϗ}(c:ό)(lo:Int)(n:Nat):Turn P w K tg (PJ lo n) [c] c (λi h=>IsRangeIter h c (lo+(i:Nat)*(-1)) ((n:Int)-(i:Nat)) (-1))where
 mem:=by simp
 obj:=λi h a b f=>by
  have e:b=c:=by simpa using f
  subst e;show⟨_,a,λv z=>by
   have O:Data.fields _=Data.cell v:=z
   cases O⟩
 keep:=λi h j a k=>k c (by simp) _ a
 item:=by
  intro X y C x A i d s F H E I l a B;subst y C x;let#[m,p,L,q,r,u]:=l c (by simp);have W:=Walks.range (prog:=X.prog) (w:=X.w) (I.ok.hd A) c lo (-1) n;show W.item i s _ _ B a λv j D M g N=>?_
  let#[t,rfl]:=M;have G:Inv X d F H {s with heap:=j,toks:=D}:=I.turned (λb o f e=>N b o (by simpa using f) e) m p q r u;show⟨_,rfl,nA (s:={s with heap:=j,toks:=D}) (n:="range_iterator") g rfl rfl (by decide) ⟨.int (lo-i),H,G,⟨t,?_⟩,⟨rfl,rfl⟩,g,λb f=>(l b f).1⟩⟩;rw[show lo+(i:Int)*(-1)=lo-(i:Int)by rfl']
 done:=by
  intro X y C x A i d s F H E I l a B;subst y C x;let#[m,p,L,q,r,u]:=l c (by simp);show Φ (I.ok.hd A) a (by have:n<=i:=B;rfl') λj J=>#[rfl,I.turned (t':=s.toks) (λb o f e=>J b o f e) m p q r u]
 self:=λ_ _ _ _ _ a h=>Χ a h
theorem lZ(a b:Int):Builtin.Range.rangeSize a b (-1)=if a>b then a-b else 0:=by
 unfold Builtin.Range.rangeSize;simp-iota only[show¬((-1:Int)>0)by decide,Ć,Int.neg_neg,Int.ediv_one];split<;>rfl'
theorem Gy{a b:Int}(e:-(2^62)<=a)(c:a<2^62)(f:-(2^62)<=b)(d:b<2^62):Builtin.Range.small a b (-1)=true:=by
 unfold Builtin.Range.small;rw[lZ];simp-iota only[Builtin.Range.rangeFitsLong,Ă,Bool.or_eq_true,decide_eq_true_eq,beq_iff_eq,show¬((-1:Int)>0)by decide,Ć];split<;>rfl'
abbrev Rj(ta:TA):TI:=λσ H R=>ta σ H λvs H1=>∃i j:Int,vs=[.int i,.int j,.int (-1)]/\(-(2^62)<=i/\i<2^62/\-(2^62)<=j/\j<2^62)/\R (PJ i (i-j).toNat) H1
theorem Dk{X:Cx}{R:It->Hp->Prop}{lo a:Int}{v:Tok}{d:Nat}(I:Inv X pins σ H s)(h:-(2^62)<=lo)(i:lo<2^62)(j:-(2^62)<=a)(k:a<2^62)
  (q:R (PJ lo (lo-a).toNat) H):wpAny (model X.prog X.w) X.A (pyIter (.ref s.heap.objs.size)) (PIE X pins σ tg R) E {s with heap:=s.heap.push {cls:=.type "range",data:=.fields ([.int lo t,.int a u,.int (-1) v].toArray)},toks:=d}:=by
 show wpAny_pyIter_range (IsRange.new ..) (Gy h i j k) ?_;have c:Inv X pins σ H {s with heap:=s.heap.push {cls:=.type "range",data:=.fields ([.int lo t,.int a u,.int (-1) v].toArray)},toks:=d}:=I.kept λb o e=>Ã _ e
 show⟨(s.heap.push {cls:=.type "range",data:=.fields ([.int lo t,.int a u,.int (-1) v].toArray)}).objs.size,[(s.heap.push {cls:=.type "range",data:=.fields ([.int lo t,.int a u,.int (-1) v].toArray)}).objs.size],_,_,H,rfl,
  c.kept (t':=d) λb o e=>Ã _ e,ww _ lo (lo-a).toNat,?_,λb l=>?_,q⟩
 .have f:lo+((0:Nat):Int)*(-1)=lo:=by simp
  have g:(((lo-a).toNat:Nat):Int)-((0:Nat):Int)=Builtin.Range.rangeSize lo a (-1):=by rw[lZ];split<;>rfl'
  change IsRangeIter _ _ (lo+((0:Nat):Int)*(-1)) ((((lo-a).toNat:Nat):Int)-((0:Nat):Int)) (-1);rw[f,g];show Ë _ rfl
 .have e:b=(s.heap.push {cls:=.type "range",data:=.fields ([.int lo t,.int a u,.int (-1) v].toArray)}).objs.size:=by simpa using l
  subst e;show c.fpOk (Ä _) (c.hok.fresh (Ä _))
theorem Dm{X:Cx}{a b c:Expr}(o:Gl X "range")(u:X.mg "range"=none)(n:PA X [a,b,c] l)(v:starEach [a,b,c] X.env=[(false,eval a X.env),(false,eval b X.env),(false,eval c X.env)]:=by rfl)(d:starEach [b,c] X.env=[(false,eval b X.env),(false,eval c X.env)]:=by rfl):
  PI X tg (.Call (.Name "range" p) [a,b,c] [] g) (Rj l):=by
 intro f s B H R I h;show Call_ (gO I o u boot_range (Ą (bA (n g f s B H _ I h) λF D ⟨G,C,m,z,k⟩=>?_) (by rw[v,d]) (by rw[d];rfl)));let#[i,j,e,#[k,w,x,y],q]:=k;subst e
 cases z with
 |cons r rr=>
  cases rr with
  |cons r' rr=>
   cases rr with
   |cons r'' rr=>
    cases rr;let#[t,rfl]:=r;let#[E,rfl]:=r';let#[A,rfl]:=r'';show call_range_3 (by decide) (Dk m k w x y q) (.inl (PyProof.noPylong_small (by decide)))
section
theorem pairs_at{a:PySem.KeyKind P w Key}(i:Nat)(e:DictEntry)(p:Pairs a b us)(h:b[i]?=!e):∃u,us[i]?=!u/\a.is u.1 e.key=true:=by
 induction p generalizing i with
 |nil=>cases h
 |cons r _ _ ih=>
  cases i with
  |zero=>cases h;show#[_,rfl,r]
  |succ i=>show ih i h
theorem pairs_len{a:PySem.KeyKind P w Key}(p:Pairs a b us):↑b=↑us:=by
 induction p with
 |nil=>rfl
 |cons _ _ _ ih=>show Ý (· +1) ih
end
theorem PK(h:gG k v=true):RelV (kV k) v:=by
 rcases bw h with⟨i,t,rfl,rfl⟩|⟨x,t,rfl,rfl⟩
 .show #[t,rfl]
 .show #[t,rfl]
def yw{α:Type}(c:α->V)(od:Obj)(D:HO)(a:ό)(zs:ϊ α):It where
 go:=λi H=>H a=!(.frz od D)/\i<↑zs
 yld:=λi H v H'=>H'=H/\∃p,zs[i]?=!p/\v=c p
 stop:=λi H=>H a=!(.frz od D)/\↑zs<=i
abbrev iKG{α:Type}(c:α->V)(O:ό->ϊ α->HO)(tl:TE):TI:=λσ H R=>tl σ H λx H1=>∃a zs,x=.ref a/\((H1 a=!(O a zs)/\∀od,R (yw c od (O a zs) a zs) (upd H1 a (.frz od (O a zs))))\/∃od,H1 a=!(.frz od (O a zs))/\R (yw c od (O a zs) a zs) H1)
def Yb(P:ϓ)(w:ϕ){α:Type}(c:α->V)(O:ό->ϊ α->HO):Prop:=∀H h a zs,ObjOk P w H h a (O a zs)->Fz (O a zs)/\∃o es ep,h.get? a=!o/\o.ExactDict/\(a==sysModules)=false/\o.data=.dict es ep/\es.size=↑zs/\∀(i:Nat) p,zs[i]?=!p->∃e,es[i]?=!e/\RelV (c p) e.key
theorem yx{P:ϓ}{K:Ϗ}{α:Type}{c:α->V}{O:ό->ϊ α->HO}(ky:Yb P w c O)(m a:ό){B:Obj}{C:ϊ α}{es:ϔ DictEntry}{ep:Nat}(f:B.data=.dict es ep):Turn P w K tg (yw c B (O a C) a C) [m] m (λi h=>h.IsKeyIter m a i es.size ep)where
 mem:=by simp
 obj:=λi h l b j=>by
  let#[o,e,c,d]:=l;rw[Zs.mp j];show#[o,e,λv z=>by rw[d]at z;cases z]
 keep:=λi h x ⟨o,e,r⟩ k=>#[o,k m (by simp) o e,r]
 item:=by
  intro X S hw R T i g s σ H E I y l Y;subst S hw R;let#[D,A]:=Y;let#[t,ok]:=(show ObjOk X.prog X.w H s.heap a (.frz B (O a C))from I.hok a _ D);let#[_,o,G,F,p,_,_,q,Z,hv]:=ky _ _ _ _ ok;rw[t]at p
  cases p;rw[f]at q
  cases q;let#[J,L,f2,M,N,Q]:=y m (by simp);show lX (I.ok.hd T) l t f (λhs x u hs=>?_) λn=>absurd A ()
  have I1:Inv X g σ H {s with heap:=x,toks:=s.toks}:=I.turned (λb o j e=>hs.extBut b o j e) J L M N Q;let#[o,e,U,d]:=id u;let#[e',h1,h2]:=hv i _ (Qr A);rw[ā ()]at h1
  cases h1;show⟨_,rfl,nA (s:={s with heap:=x}) e U d (by decide) ⟨_,H,I1,h2,⟨rfl,_,Qr A,rfl⟩,u,λb j=>(y b j).1⟩⟩
 done:=by
  intro X S hw R T i g s σ H E I y l Y;subst S hw R;let#[D,A]:=Y;let#[t,ok]:=(show ObjOk X.prog X.w H s.heap a (.frz B (O a C))from I.hok a _ D);let#[_,o,G,F,p,_,_,q,Z,hv]:=ky _ _ _ _ ok;rw[t]at p
  cases p;rw[f]at q
  cases q;let#[J,L,f2,M,N,Q]:=y m (by simp);show lX (I.ok.hd T) l t f (λn=>absurd n ()) λ_ x kk=>#[rfl,I.turned (t':=s.toks) (λb o j e=>kk b o j e) J L M N Q]
 self:=λ_ _ _ _ _ l h=>wpAny_pyIter_keyiter l h
theorem GC{X:Cx}{b:Hp}{j:Type}{c:j->V}{O:ό->ϊ j->HO}{e:ϊ j}(l:Yb X.prog X.w c O)(f:Inv X pins σ b s1)
  (q:(b a=!(O a e)/\∀od,R od (upd b a (.frz od (O a e))))\/∃od,b a=!(.frz od (O a e))/\R od b):
  ∃od H2 es ep,Inv X pins σ H2 s1/\H2 a=!(.frz od (O a e))/\R od H2/\s1.heap.get? a=!od/\od.ExactDict/\(a==sysModules)=false/\od.data=.dict es ep:=by
 rcases q with⟨ea,q⟩|⟨od,ea,q⟩
 .obtain ⟨m,o,es,ep,d,h,i,g,_⟩:=l _ _ _ _ (f.hok a _ ea);show#[o,_,es,ep,f.freeze ea d m,aa,q o,d,h,i,g]
 .obtain ⟨k,n⟩:=(show ObjOk X.prog X.w b s1.heap a (.frz od (O a e))from f.hok a _ ea);let#[_,o,es,ep,d,h,i,g,_]:=l _ _ _ _ n;rw[k]at d
  cases d;show#[_,_,es,ep,f,ea,q,k,h,i,g]
theorem wy{X:Cx}{t:Type}{c:t->V}{O:ό->ϊ t->HO}(p:Yb X.prog X.w c O)(z:PE X l tl):PI X tg l (iKG c O tl):=by
 intro d s C H R I h;show bA (z d s C H _ I h) λv j ob=>?_
 let#[x,D,u,B,A]:=ob;let#[a,r,rfl,q]:=A
 cases B;let#[i,k,G,F,f,E,q,n,w,g,m]:=GC (R:=λi k=>R (yw c i (O a r) a r) k) p u q;show pX g #[i,n,w.1] n m ?_;show#[j.heap.objs.size,[j.heap.objs.size],_,_,_,rfl,f.kept (t':=j.toks) λb o e=>Ã _ e,yx p _ a m,#[_,Ë _ rfl,rfl,rfl],λb y=>?_,q];rw[Zs.mp y];show f.fpOk (Ä _) (f.hok.fresh (Ä _))
abbrev yz:=iKG (λp:Key×V=>kV p.1) λ_ kvs=>.dK kvs
theorem Uk:Yb P w (λp:Key×V=>kV p.1) λ_ kvs=>.dK kvs:=by
 rintro H h a kvs ⟨_,e,l,b,o,c,q,m,r,n,_,f,_⟩;have v:c.size=↑l:=by rw[<-ø];show pairs_len f
 have C:↑kvs=↑l:=Ď b;show#[trivial,o,c,q,m,r,e,n,(),λi p d=>?_];have s:i<↑kvs:=(À.mp d).1;let#[#[k,x],#[A,y],t,z,B,_]:=fX i b s;rw[t]at d
 cases d;let#[u,g,j]:=pairs_at i (c[i]'(by rfl')) f (by rw[û,ā]);rw[z]at g
 cases g;rw[jZ]at j;show#[_,ā (),by rw[show k=A from B];show PK j]
def wA{X:Cx}(a:PE X l tl):PI X tg l (yz tl):=wy Uk a
end L2
end
section
namespace HT
open PySem PySem.Spec PyProof.Rows
def jT{s:ώ}{t e:ό}{g i:ϋ}{lo:ύ Int}(a:IsTup s.heap t items)(f:s.heap.IsSliceOf e g i .none)(o:IsPart g lo)(p:IsPart i hi)
  (j:dX items.size 0 lo=0) (k:dX items.size items.size hi=items.size) (h:Q (.ref t) s):wpAny (model prog w) A (getItem (.ref t) (.ref e)) Q E s:=by
 let#[n,d,c,m]:=id f;have b:s.TypeIs (.ref e) "slice":=#[n,d,c];unfold getItem;try with_reducible show ÿ ?_
 first|show Zp (Á ?_)|skip
 show Zp (wpAny_sequenceKey a.typeIs (by decide) ?_);show Zp (wpAny_callSpecial?_slot (name:=Str.ofString "__getitem__") a.typeIs İ (ò İ a.typeIs entry_tuple_getitem ?_ (args_tuple_getitem _ _)));change wpAny _ _ (Builtin.Tuple.tupleItemsOf (.ref t)>>=_) _ _ s;show Zp (tupleItemsOf_ a (Zp (wpAny_typeOf b ?_)));rw[if_pos (by decide)];show Zp (gZ f o p ?_);change wpAny _ _ (if(((dX items.size 0 lo:Nat):Int)==0&&(1:Int)==1&&(dX items.size items.size hi-dX items.size 0 lo)==items.size)=true then _ else _) _ _ s;rw[if_pos (by rw[j,k];simp)];have l:s.TypeIs (.ref t) "tuple":=a.typeIs;show Zp ?_;unfold Builtin.Tuple.tupleIsExact;show Zp (wpAny_typeOf l (Á ?_));rw[if_pos (by decide)];show Zp (ō (Á #[_,rfl,Á h]))
end HT
namespace L2
open PySem PySem.Spec PyProof.Rows
def wB(K:Ϗ):V->ύ Int->ύ Int->Hp->VK->Prop:=λx lo hi H Q=>∃a xs,x=.ref a/\SqT K H a xs/\∀p H',(p=a/\H'=H/\gR xs lo hi=xs\/H p=none/\H'=upd H p (.tup (gR xs lo hi)))->SqT K H' p (gR xs lo hi)->Q (.ref p) H'
def PL{X:Cx}:Tt X (wB X.K):=by
 intro f s z H x v w y lo g u Q I o k m n h;let#[a,d,rfl,i,q]:=h;by_cases c:HT.dX ↑d 0 lo=0/\HT.dX ↑d ↑d g=↑d
 .cases o;let#[j,r,l,A]:=I.tuple i;have b:j.toArray.size=↑d:=by rw[Ø];show r.length.symm
  show#["tuple",_,PyProof.Rows.slot_tuple_getitem.lookup,l.typeIs,?_];have e:gR d lo g=d:=by
   unfold gR;rw[c.1,c.2,ź,Nat.sub_zero,Ö]
  show HT.jT l k m n (by rw[b];show c.1) (by rw[b];show c.2) #[.ref a,H,I,rfl,q a H (.inl #[rfl,rfl,e]) ?_];rw[e];show i
 .show Tu f s z H (.ref a) v w y lo g u Q I o k m n #[a,d,rfl,i,c,λp t=>q p _ (.inr #[t,rfl]) (SqT.of aa)]
def m5{X:Cx}(K:Ϗ)(a:X.K=K):Tt X (wB K):=a▸PL
def uw:V->ϊ V->Hp->VK->Prop:=λx vs H Q=>∃s y:ϐ,x=.str s/\vs=[.str y]/\↑s<=sizeLine/\Q (.str (Txt.rstripChars s y)) H
section
variable{X:Cx}
theorem Do:Tv X "str.rstrip" uw:=by
 intro a s j H x i v g Q I e d h;let#[z,y,rfl,rfl,b,q]:=h;let#[t,rfl]:=e;let#[u,rfl,c]:=d.one;let#[f,rfl]:=c;show SC.rstripChars (λf k=>#[.str _,H,I.tok _,#[_,rfl],q]) b
end
abbrev GD(tk tv:TE):TE:=λσ H Q=>∀p,H p=none->tk σ (upd H p (.dT [])) λx H1=>tv σ H1 λv H2=>H2 p=!(.dT [])/\∃k b,x=.ref b/\H2 b=!(.tup (k.map kV))/\Q (.ref p) (upd H2 p (.dT [(k,v)]))
def GF{X:Cx}(Z:X.A.units+1<cLine)(P:PE X w A)(T:PE X C B):PE X (.Dict [!w] [C] f) (GD A B):=by
 intro i s W H Q I q;have R:=I.hok.fresh (Ä s.heap.objs.size);have D:=I.laid (a:=s.heap.objs.size) (o:=.dT []) (h':=s.heap.push {cls:=.type "dict",data:=.dict ([].toArray)}) (t':=s.toks) (λ_ _ q=>Ã _ q) (Ä _) (vM s.heap I.big);show wpAny_Dict_any rfl rfl (by simp) (by simp) (bA (vN (pos:=f) P T Ag i _ W _ (λy g=>match y with|[(x,v)]=>g s.heap.objs.size=!(.dT [])/\∃k b,x=.ref b/\g b=!(.tup (k.map kV))/\Q (.ref s.heap.objs.size) (upd g s.heap.objs.size (.dT [(k,v)]))|_=>False) D (q _ R)) λws s2 ⟨y,g,j,d,m⟩=>?_)
 cases d with
 |nil=>show m.elim
 |@cons a c as cs h t=>
  cases t with
  |cons=>show m.elim
  |nil=>
  let#[x,v]:=a;let#[E,Y]:=c;let#[e,k,b,r,n,U]:=m;dsimp only at h r;subst r
  cases(show E=Value.ref b from h.1);let#[z,O,xs,d,F]:=rZ j.hok e;unfold storeAll;rw[ý];show Zp (Zp (wpAny_dictSet_heap (hsz:=by rw[<-Ď d];show z) (by change X.A.units<cLine;rfl') (iJ j.hok n) F λh' l S=>Á ?_));change wpAny _ _ (forIn [] PUnit.unit _) _ _ _;rw[Ũ];let#[q,J,G,u,K,L,M,_,N]:=l;show Á #[.ref s.heap.objs.size,upd g s.heap.objs.size (.dT [(k,v)]),iK j (by rw[e];show True.intro) S ⟨q,u⟩ ⟨(by change(1:Nat)<=sizeLine;rw[ĉ];rfl'),O,_,(d.put k n h.2).keeps λc ys p=>?_,q,J,G,u,K,L,M,N⟩,rfl,U];rw[ao (fZ p e (λz=>nomatch z))];show p
end L2
end
section
namespace Nk
open PySem PySem.Spec PyProof.Rows
variable{a b:ό}{Q:ϑ->ώ->Prop}
abbrev qe:=Int×Int×ϊ Int
variable{k x y:qe}
section
variable{prog:ϓ}{w:ϕ}{s:ώ}
def IsSt(prog:ϓ)(w:ϕ)(h:ϒ)(k:qe)(a:ό):Prop:=∃o n v1 v2 b,h.get? a=!o/\o.cls=.type "tuple"/\o.data=.seq ([v1,v2,.ref b].toArray) n/\(intKind prog w).is k.1 v1=true/\(intKind prog w).is k.2.1 v2=true/\IsTupleKey (intKind prog w) h k.2.2 b
theorem IsSt.typeIs(x:IsSt prog w s.heap k a):s.TypeIs (.ref a) "tuple":=by
 let#[o,_,_,_,_,c,b,_]:=x;show#[o,c,b]
theorem IsSt.inj(r:IsSt prog w h x a)(s:IsSt prog w h y a):x=y:=by
 let#[o,n,v1,v2,b,q,_,p,f,g,i]:=r;let#[t,B,C,D,A,d,_,c,j,k,l]:=s;obtain rfl:o=t:=ß (q.symm.trans d);rw[p]at c;injection c with e1 _
 have e:=Ý Array.toList e1;simp-iota only[List.cons.injEq,and_true]at e;let#[rfl,rfl,m]:=e
 cases m;have z:=i.inj l;have u:=(intKind prog w).inj _ _ _ f j;have v:=(intKind prog w).inj _ _ _ g k;show Prod.ext u (Prod.ext v z)
theorem IsSt.keeps{es ep}(x:IsSt prog w h k a)(j:h.get? d=!o)(i:o.data=.dict es ep)(l:Heap.SameBut d h g):IsSt prog w g k a:=by
 let#[m,n,v1,v2,b,e,s,c,p,q,r]:=x;have f:a≠d:=by
  rintro rfl;obtain rfl:m=o:=ß (e.symm.trans j);rw[i]at c;show nomatch c
 show#[m,n,v1,v2,b,(l.2 a f).trans e,s,c,p,q,r.keeps j i l]
def sX(cs:ϊ Int):Int:=reduceHash (Builtin.Tuple.tupleHashOf (cs.map hashInt))
def wC(k:qe):Int:=reduceHash (Builtin.Tuple.tupleHashOf [hashInt k.1,hashInt k.2.1,sX k.2.2])
theorem PN{Q:Int->ώ->Prop}(r:A.units+1<cLine)(i:IsSt prog w s.heap k a)(h:Q (wC k) {s with toks:=s.toks+(↑k.2.2+4)}):wpAny (model prog w) A (pyHash (.ref a)) Q E s:=by
 have d:=i.typeIs;let#[o,n,v1,v2,b,q,_,p,j,l,m]:=i;unfold pyHash
 first| unfold pyHashByItsType|skip
 first|show Zp (wpAny_cRoomFor_or (.inr ()) ?_)|skip
 show Zp (Θ d F.slot_tuple_hash.lookup ?_);change wpAny _ _ (if(some (Value.builtin "tuple.__hash__")==!Value.none)=true then _ else _) Q E s;rw[if_neg (by rw[beq_builtin_none];show Ò)];show Zp (Θ d F.slot_tuple_hash.lookup ?_);change wpAny _ _ (callSpecialIfBoundUnlessNone? (.ref a) "__hash__" _>>=_) Q E s;show Zp (wpAny_callSpecialIfBoundUnlessNone?_slot d F.slot_tuple_hash (ò F.slot_tuple_hash d F.entry_tuple_hash ?_ (F.args_tuple_hash_1 _)));change wpAny _ _ (Builtin.Tuple.tupleItemsOf (.ref a)>>=_) _ _ s;show Zp (ŭ q p ?_);show Zp ?_;rw[<-Array.forIn_toList];change wpAny _ _ (forIn [v1,v2,Value.ref b] _ _) _ _ s;have g:A.in1.units<cLine:=by change A.units+1<cLine;show r
 rw[ý];show Zp (Zp ((intKind prog w).pyHash j (Á ?_)));change wpAny _ _ (forIn [v2,Value.ref b] _ _) _ _ _;rw[ý];show Zp (Zp ((intKind prog w).pyHash l (Á ?_)));change wpAny _ _ (forIn [Value.ref b] _ _) _ _ _;rw[ý];show Zp (Zp (wpAny_pyHash_tuple (knd:=intKind prog w) g m (Á ?_)));change wpAny _ _ (forIn [] _ _) _ _ _;rw[Ũ];show Á ?_;change wpAny _ _ (retInt (Builtin.Tuple.tupleHashOf [hashInt k.1,hashInt k.2.1,sX k.2.2])) _ _ _;show wpAny_ret_mkInt ?_;change wpAny _ _ (if(decide (-(2:Int)^63<=Builtin.Tuple.tupleHashOf [hashInt k.1,hashInt k.2.1,sX k.2.2])&&decide (Builtin.Tuple.tupleHashOf [hashInt k.1,hashInt k.2.1,sX k.2.2]<2^63))=true then _ else _) Q E _;have c:∀x:Nat,x=s.toks+(↑k.2.2+4)->Q (wC k) {s with toks:=x}:=λx e=>by rw[e];show h
 unfold wC at c;unfold reduceHash at c;by_cases f:(decide (-(2:Int)^63<=Builtin.Tuple.tupleHashOf [hashInt k.1,hashInt k.2.1,sX k.2.2])&&decide (Builtin.Tuple.tupleHashOf [hashInt k.1,hashInt k.2.1,sX k.2.2]<2^63))=true
 .rw [if_pos f];rw[if_pos f]at c;show Á (c _ (by dsimp only;rfl'))
 .rw [if_neg f];rw[if_neg f]at c;show Zp (ō (Á (c _ (by dsimp only;rfl'))))
theorem yC(J:A.units<cLine)(K:IsSt prog w s.heap x a)(C:IsSt prog w s.heap y b)(h:P (.done (.ret (.bool (decide (x=y))))) s):
  wpAny (model prog w) A (Builtin.«tuple.__eq__» #[[.ref a,.ref b],[]]) P E s:=by
 have j:=C.typeIs;let#[R,O,v1,v2,c,m,_,k,p,r,t]:=K;let#[ob,Q,L,D,d,n,_,l,u,v,B]:=C;change wpAny _ _ (isInstance (.ref b) (.type "tuple")>>=_) _ _ s;show Zp (ŧ j Ŷ ?_);simp-iota only[Ę,ä,Ć];show Zp (ŭ m k ?_);show Zp (ŭ n l ?_);show Zp ?_;change wpAny _ _ (forIn [(v1,L),(v2,D),(Value.ref c,Value.ref d)] _ _) _ _ s;let#[F,G,M]:=x;let#[H,I,N]:=y;dsimp only at p r t u v B;have o:∀{q:ϑ},q=false->P (.done (.ret (.bool q))) s->P (.done (.ret (.bool false))) s:=λe h=>e▸h
 rw[ý];show Zp (Zp ((intKind prog w).eqBool (a:=F) (b:=H) p u ?_));by_cases f:F=H
 .subst f;rw[Ù rfl];simp-iota only[Ę,ä,Ć];show Á ?_;change wpAny _ _ (forIn [(v2,D),(Value.ref c,Value.ref d)] _ _) _ _ s;rw[ý];show Zp (Zp ((intKind prog w).eqBool (a:=G) (b:=I) r v ?_));by_cases g:G=I
  .subst g;rw[Ù rfl];simp-iota only[Ę,ä,Ć];show Á ?_;change wpAny _ _ (forIn [(Value.ref c,Value.ref d)] _ _) _ _ s;rw[ý];show Zp (Zp (wpAny_eqBool_tuple (knd:=intKind prog w) J t B ?_));by_cases i:M=N
   .subst i;rw[Ù rfl];simp-iota only[Ę,ä,Ć];show Á ?_;change wpAny _ _ (forIn [] _ _) _ _ s;rw[Ũ];show Á ?_;rw[Ù rfl]at h;show Á h
   .rw [Ü i];simp-iota only[Bool.not_false,ľ];show Zp (Á (Á (Á (Á (o (Ü λz=>i (by cases z;rfl)) h)))))
  .rw [Ü g];simp-iota only[Bool.not_false,ľ];show Zp (Á (Á (Á (Á (o (Ü λz=>g (by cases z;rfl)) h)))))
 .rw [Ü f];simp-iota only[Bool.not_false,ľ];show Zp (Á (Á (Á (Á (o (Ü λz=>f (by cases z;rfl)) h)))))
theorem Yc(g:A.units+1<cLine)(d:IsSt prog w s.heap x a)(f:IsSt prog w s.heap y b)(h:Q (decide (x=y)) s):wpAny (model prog w) A (eqBool (.ref a) (.ref b)) Q E s:=by
 unfold eqBool;try with_reducible show ÿ ?_
 change wpAny _ _ (if(Value.ref a==Value.ref b)=true then _ else _) Q E s;by_cases c:(Value.ref a==Value.ref b)=true
 .rw [if_pos c];have e:a=b:=by have:=Ξ c;injection this
  subst e;obtain rfl:=d.inj f;show Zp (ō (Á (by simpa using h)))
 .rw [if_neg c];show Zp (wpAny_richCompare_same_room (op:=.Eq) d.typeIs f.typeIs F.slot_tuple_eq
   (ò F.slot_tuple_eq d.typeIs F.entry_tuple_eq (yC (by change A.units+1<cLine;show g) d f #[_,rfl,(λe=>nomatch e),ē h]) (F.args_tuple_eq_2 _ _)) ())
theorem yD(g:IsTupleKey (intKind prog w) s.heap l a)(h:Q true s):wpAny (model prog w) A (eqIsQuiet 7 (.ref a)) Q E s:=by
 have f:=g.typeIs;let#[o,d,n,k,_,i,j]:=g;unfold eqIsQuiet;show Zp (Θ f F.slot_tuple_eq.lookup ?_);change wpAny _ _ (isInstance (.ref a) (.type "tuple")>>=_) _ _ s;show Zp (ŧ f Ŷ ?_);simp-iota only[Ę,ä,Ć];show Zp (ğ k i ?_);show Zp ?_;change wpAny _ _ (forIn d _ _) _ _ s;rw[<-Array.forIn_toList];show wpAny_forIn_list _ (λrest r e=>r.1=none/\e=s/\∀v∈rest,carriedByValue v=true) _ ?_ ?_ _ _ #[rfl,rfl,j.byValue]
 .rintro v rest r e ⟨c,rfl,b⟩;rw[eqIsQuiet_byValue _ (b v É)];show Zp (Á ?_);simp-iota only[Ę,ä,Ć];show Á #[rfl,rfl,λu m=>b u (Ì _ m)]
 .rintro ⟨p,q⟩ e ⟨c,rfl,_⟩;simp only at c;subst c;show Á h
theorem GJ(d:IsSt prog w s.heap k a)(h:Q true s):wpAny (model prog w) A (eqIsQuiet 8 (.ref a)) Q E s:=by
 have c:=d.typeIs;let#[o,n,v1,v2,b,j,_,i,e,f,g]:=d;unfold eqIsQuiet;show Zp (Θ c F.slot_tuple_eq.lookup ?_);change wpAny _ _ (isInstance (.ref a) (.type "tuple")>>=_) _ _ s;show Zp (ŧ c Ŷ ?_);simp-iota only[Ę,ä,Ć];show Zp (ğ j i ?_);show Zp ?_;change wpAny _ _ (forIn ([v1,v2,Value.ref b].toArray) _ _) _ _ s;rw[<-Array.forIn_toList];change wpAny _ _ (forIn [v1,v2,Value.ref b] _ _) _ _ s;rw[ý,eqIsQuiet_byValue _ ((intKind prog w).byValue _ _ e)];show Zp (Zp (Á ?_));simp-iota only[Ę,ä,Ć];show Á ?_;change wpAny _ _ (forIn [v2,Value.ref b] _ _) _ _ s;rw[ý,eqIsQuiet_byValue _ ((intKind prog w).byValue _ _ f)];show Zp (Zp (Á ?_));simp-iota only[Ę,ä,Ć];show Á ?_;change wpAny _ _ (forIn [Value.ref b] _ _) _ _ s;rw[ý];show Zp (Zp (yD g ?_));simp-iota only[Ę,ä,Ć];show Á ?_;change wpAny _ _ (forIn [] _ _) _ _ s;rw[Ũ];show Á (Á h)
end
def jz(prog:ϓ)(w:ϕ):HeapKind prog w qe where
 is:=IsSt prog w
 hash:=wC
 draws:=λk=>↑k.2.2+4
 room:=λA=>A.units+1<cLine
 inj:=λhx hy=>hx.inj hy
 keeps:=λx ho hd hs=>x.keeps ho hd hs
 pyHash:=λhu hk h=>PN hu hk h
 eqBool:=λhu hx hy h=>Yc hu hx hy h
 quiet:=λhk h=>GJ hk h
end Nk
namespace L2
open PySem PySem.Spec PyProof.Rows Nk
abbrev Sk:=Int×Int×ϊ Int
def Dq(x:Sk×ό×ϋ):DictEntry:=#[wC x.1,.ref x.2.1,x.2.2]
def SdP(a:ό)(kvs:ϊ (ό×Sk×V))(h:ϒ):Prop:=↑kvs<=sizeLine/\(a==sysModules)=false/\∃xs:ϊ (Sk×ό×ϋ),Paired (λ(p:ό×Sk×V) (q:Sk×ό×ϋ)=>p.2.1=q.1/\p.1=q.2.1/\RelV p.2.2 q.2.2) kvs xs/\
 ∃o es ep,h.get? a=!o/\o.ExactDict/\o.data=.dict es ep/\es.toList=xs.map Dq/\(xs.map (·.1)).Nodup
abbrev cB(a:ό)(kvs:ϊ (ό×Sk×V)):HO:=.ext (SdP a kvs)
def vh(H:Hp)(b:ό)(k:Sk):Prop:=∃c,H b=!(.tup [.int k.1,.int k.2.1,.ref c])/\H c=!(.tup (k.2.2.map V.int))
def du(kvs:ϊ (ό×Sk×V))(k:Sk):ύ V:=(kvs.find? λp=>decide (p.2.1=k)).map (·.2.2)
def ux(kvs:ϊ (ό×Sk×V))(b:ό)(k:Sk)(v:V):ϊ (ό×Sk×V):=if(du kvs k).isSome then kvs.map λp=>if p.2.1=k then(p.1,p.2.1,v)else p else kvs++[(b,k,v)]
def SGet(H:Hp)(a:ό)(y:V)(r:ύ V):Prop:=∃kvs k b,Rd H a (cB a kvs)/\(∀p∈kvs,vh H p.1 p.2.1)/\y=.ref b/\vh H b k/\r=du kvs k
def SPut(H:Hp)(a:ό)(y v:V)(H':Hp):Prop:=∃kvs k b,H a=!(cB a kvs)/\(∀p∈kvs,vh H p.1 p.2.1)/\y=.ref b/\vh H b k/\↑kvs<sizeLine/\H'=upd H a (cB a (ux kvs b k v))
section
theorem wD{P:ϓ}{w:ϕ}:∀{a:ϊ Int}{us:ϊ ϋ},Vals (a.map V.int) us->ItemsAre (intKind P w) a us
 |[],_,r=>by rw[Ĕ]at r;cases r;show .nil
 |k::a,_,r=>by
  rw[È]at r
  cases r with
  |cons h t=>
   let#[b,rfl]:=(show∃t,_=Value.int k t from h);show .cons (intKind_is _ _ _ _) (wD t)
def sY(d:HOk P w H h)(e:vh H a k):(jz P w).is h k a:=by
 let#[c,f,g]:=e;let#[_,s,r,o,m,p,n,q]:=(show ObjOk P w H h a (.tup [.int k.1,.int k.2.1,.ref c])from d a _ f);let#[_,b,x,v,i,j,u,l]:=(show ObjOk P w H h c (.tup (k.2.2.map V.int))from d c _ g)
 cases r with
 |cons h1 t1=>
  cases t1 with
  |cons h2 t2=>
   cases t2 with
   |cons h3 t3=>
    cases t3;let#[y,rfl]:=(show∃t,_=Value.int k.1 t from h1);let#[z,rfl]:=(show∃t,_=Value.int k.2.1 t from h2)
    cases(show _=Value.ref c from h3);show#[o,n,_,_,c,m,p,q,intKind_is _ _ _ _,intKind_is _ _ _ _,#[v,b.toArray,u,i,j,l,by simpa using wD x]]
abbrev KS:ϊ (ό×Sk×V)->ϊ (Sk×ό×ϋ)->Prop:=Paired λp q=>p.2.1=q.1/\p.1=q.2.1/\RelV p.2.2 q.2.2
def KS.val(r:KS kvs c)(k:Sk):RelO (du kvs k) ((atKey c k).map (·.2)):=by
 induction r with
 |nil=>show True.intro
 |@cons p q ps qs h t ih=>
  let#[b,_,d]:=h;by_cases e:p.2.1=k
  .have a:q.1=k:=b.symm.trans e;have z:atKey (q::qs) k=!q.2:=by simp[atKey,ė,a]
   have y:du (p::ps) k=!p.2.2:=by simp[du,ė,e]
   rw[y,z];show d
  .have a:¬q.1=k:=λz=>e (b.trans z)
   have z:atKey (q::qs) k=atKey qs k:=by simp[atKey,ė,a]
   have y:du (p::ps) k=du ps k:=by simp[du,ė,e]
   rw[y,z];show ih
def KS.repl(r:KS kvs c)(k:Sk)(f:RelV y u):KS (kvs.map λp=>if p.2.1=k then(p.1,p.2.1,y)else p) (c.map (putAt k u)):=by
 induction r with
 |nil=>show .nil
 |@cons p q ps qs h t ih=>
  rw[È,È];show .cons ?_ ih;let#[a,b,d]:=h;unfold putAt;by_cases e:p.2.1=k
  .rw [if_pos e,if_pos (a.symm.trans e)];show#[a,b,f]
  .rw [if_neg e,if_neg (λz=>e (a.trans z))];show#[a,b,d]
def KS.put{a:ϊ (Sk×ό×ϋ)}(r:KS kvs a)(k:Sk){b:ό}(c:RelV y u):KS (ux kvs b k y) (storedH a k b u):=by
 have e:(du kvs k).isSome=(atKey a k).isSome:=by rw[(r.val k).isSome_eq,ś]
 unfold ux storedH;rw[e];by_cases q:(atKey a k).isSome=true
 .rw [if_pos q,if_pos q];show r.repl k c
 .rw [if_neg q,if_neg q];show Paired.snoc r #[rfl,rfl,c]
def GK(a:ϊ (ό×Sk×V))(b:ό)(k:Sk)(v:V):↑(ux a b k v)<=↑a+1:=by
 unfold ux;split
 .rw [Qb];rfl'
 .rw [Â,Ú];rfl'
def Rk(b:HOk P w H h)(e:Rd H a (cB a kvs)):ObjOk P w H h a (cB a kvs):=by
 rcases e with e|⟨o,e⟩
 .show b a _ e
 .show (show ObjOk P w H h a (.frz o (cB a kvs))from b a _ e).2
def sZ(d:HOk P w H h)(e:Rd H a (cB a kvs))(u:∀p∈kvs,vh H p.1 p.2.1):↑kvs<=sizeLine/\(a==sysModules)=false/\∃xs,KS kvs xs/\h.DictOfH (jz P w) a xs:=by
 let#[#[z,y,xs,r,o,g,f,i,j,k,n,s],_]:=Rk d e;show#[z,y,xs,r,o,g,f,i,j,k,n,λx hx=>?_,s];have b:∀{l:ϊ (ό×Sk×V)}{m:ϊ (Sk×ό×ϋ)},KS l m->(∀p∈l,vh H p.1 p.2.1)->∀x∈m,(jz P w).is h x.1 x.2.1:=by
  intro l m q;induction q with
  |nil=>intro _ x hx;show nomatch hx
  |@cons p q ps qs hq t ih=>
   intro c x hx;rcases Ç.mp hx with e|hx
   .subst e;have:=sY d (c p É);rw[<-hq.1,<-hq.2.1];show this
   .show ih (λp m=>c p (Ì _ m)) x hx
 show b r u x hx
def GP{P:ϓ}{h:ϒ}{b:ϊ (Sk×ό×ϋ)}(z:↑kvs<=sizeLine)(q:(a==sysModules)=false)(e:KS kvs b)(p:∃o es ep,h.get? a=!o/\o.ExactDict/\o.data=.dict es ep/\es.toList=b.map Dq/\(b.map (·.1)).Nodup):ObjOk P w H' h a (cB a kvs):=by
 let#[o,es,ep,g,j,l,m,n]:=p;show#[#[z,q,b,e,o,es,ep,g,j,l,m,n],#[o,g],λx y ob k=>?_];let#[v,u,f,t,i,d,c,r,s]:=ob;show#[v,u,f,t,i,d,c,k i r,s]
end
section
variable{X:Cx}
theorem yE(D:A.units+2<cLine)(I:Inv X pins σ H s)(g:SGet H a y !v)(x:RelV y u)(h:∀c s',Inv X pins σ H s'->RelV v c->Q c s'):wpAny (model X.prog X.w) A (getItem (.ref a) u) Q E s:=by
 let#[w,k,b,e,q,n,m,l]:=g;subst n
 cases(show u=Value.ref b from x);let#[z,C,B,f,j]:=sZ I.hok e q;let#[c,t,i]:=RelO.some_of (v:=v) (o:=(atKey B k).map (·.2)) (by rw[l];show f.val k);let#[p,r,d]:=Ï.mp t;show wpAny_getItem_heap (knd:=jz X.prog X.w) (show A.units+1+1<cLine by rfl') (sY I.hok m) j r ?_;rw[d];show h c _ (I.tok _) i
theorem Yd(r:A.units+2<cLine)(I:Inv X pins σ H s)(g:SGet H a y o)(p:RelV y u)(h:∀s',Inv X pins σ H s'->Q (.bool o.isSome) s'):wpAny (model X.prog X.w) A (compareOp .In u (.ref a)) Q E s:=by
 let#[n,k,b,e,m,i,f,l]:=g;subst i
 cases(show u=Value.ref b from p);let#[z,j,t,c,d]:=sZ I.hok e m;show wpAny_in_heap (knd:=jz X.prog X.w) (show A.units+1+1<cLine by rfl') (sY I.hok f) j d ?_;have q:=(c.val k).isSome_eq;rw[ś]at q;rw[<-q,<-l];show h _ (I.tok _)
theorem GQ(r:A.units+2<cLine)(I:Inv X pins σ H s)(g:SGet H a y o)(p:RelV y u)(h:∀s',Inv X pins σ H s'->Q (.bool (not o.isSome)) s'):wpAny (model X.prog X.w) A (compareOp .NotIn u (.ref a)) Q E s:=by
 let#[n,k,b,e,m,i,f,l]:=g;subst i
 cases(show u=Value.ref b from p);let#[z,j,t,c,d]:=sZ I.hok e m;show wpAny_notIn_heap (knd:=jz X.prog X.w) (show A.units+1+1<cLine by rfl') (sY I.hok f) j d ?_;have q:=(c.val k).isSome_eq;rw[ś]at q;rw[<-q,<-l];show h _ (I.tok _)
theorem yF{Q:Unit->ώ->Prop}(P:A.units+2<cLine)(I:Inv X pins σ H s)(g:SPut H a y v H')(M:RelV y u)(L:RelV v r)(h:∀s',Inv X pins σ H' s'->Q Unit.unit s'):wpAny (model X.prog X.w) A (setItem (.ref a) u r) Q E s:=by
 let#[c,k,b,e,F,t,n,l,m]:=g;subst t m
 cases(show u=Value.ref b from M);let#[z,D,N,d,j]:=sZ I.hok (.inl e) F;have K:↑N<=sizeLine:=by rw[<-Ď d];show z
 have G:↑(ux c b k v)<=sizeLine:=by have:=GK c b k v;rfl'
 show wpAny_setItem_heap (hsz:=K) (knd:=jz X.prog X.w) (show A.units+1+1<cLine by rfl') (sY I.hok n) j λO f J=>h _ ?_
 let#[q,p,o,i,w,x,B,_,C]:=f;show iK I (by rw[e];show True.intro) J ⟨q,i⟩ (GP G D (d.put k L) ⟨q,p,o,i,w,x,B,C⟩)
end
end L2
end
section
namespace Nk
open PySem PySem.Spec PyProof.Rows Sx
section
theorem uy:∀a:ϊ Int,HT.lexLt a a=false
 |[]=>rfl
 |x::a=>by rw[HT.iH,if_pos rfl];show uy a
theorem wF:∀{a b:ϊ Int},HT.lexLt a b=true->HT.lexLt b a=false
 |[],[],h=>by cases h
 |[],_::_,_=>rfl
 |_::_,[],h=>by cases h
 |x::a,y::b,h=>by
  rw[HT.iH]at h⊢;by_cases e:x=y
  .rw [if_pos e]at h;rw[if_pos e.symm];show wF h
  .rw [if_neg e]at h;rw[if_neg (Ne.symm e)];have:=æ h;show Ü ()
theorem GR:∀{a b c:ϊ Int},HT.lexLt b a=false->HT.lexLt c b=false->HT.lexLt c a=false
 |[],[],c,_,h=>h
 |[],_::_,[],_,_=>rfl
 |[],_::_,_::_,_,_=>rfl
 |_::_,[],c,h,_=>by cases h
 |_::_,_::_,[],_,h=>by cases h
 |x::a,y::b,z::c,h1,h2=>by
  rw[HT.iH]at h1 h2⊢;by_cases e:y=x
  .rw [if_pos e]at h1;by_cases d:z=y
   .rw [if_pos d]at h2;rw[if_pos (d.trans e)];show GR h1 h2
   .rw [if_neg d]at h2;have:=ĺ h2;rw[if_neg ()];show Ü ()
  .rw [if_neg e]at h1;have:=ĺ h1;by_cases d:z=y
   .rw [if_neg ()];show Ü ()
   .rw [if_neg d]at h2;have:=ĺ h2;rw[if_neg ()];show Ü ()
end
end Nk
namespace L2
open PySem PySem.Spec PyProof.Rows Sx Nk
section
variable{ep:Nat}
theorem m6:∀{ns:ϊ Int}{us:ϊ ϋ},Vals (ns.map V.int) us->IntsAre us ns
 |[],_,r=>by rw[Ĕ]at r;cases r;show .nil
 |k::ks,_,r=>by
  rw[È]at r
  cases r with
  |cons h t=>
   let#[a,rfl]:=(show∃t,_=Value.int k t from h);show .cons _ _ (m6 t)
end
end L2
namespace L2
open PySem PySem.Spec PyProof.Rows Nk
abbrev Aw:TE:=λ_ H Q=>∀p,H p=none->Q (.ref p) (upd H p (cB p []))
abbrev nO(td ty:TE):TE:=λσ H Q=>td σ H λx H1=>ty σ H1 λy H2=>∃a v,x=.ref a/\SGet H2 a y !v/\Q v H2
abbrev Ye(ty td:TE):TE:=λσ H Q=>ty σ H λy H1=>td σ H1 λx H2=>∃a o,x=.ref a/\SGet H2 a y o/\Q (.bl o.isSome) H2
abbrev uz(ty td:TE):TE:=λσ H Q=>ty σ H λy H1=>td σ H1 λx H2=>∃a o,x=.ref a/\SGet H2 a y o/\Q (.bl (not o.isSome)) H2
abbrev Ax(td ty tv:TE):TS:=λD σ H=>tv σ H λv H1=>td σ H1 λx H2=>ty σ H2 λy H3=>∃a H4,x=.ref a/\SPut H3 a y v H4/\D.nx σ H4
section
variable{X:Cx}
def uA:PE X (.Dict [] [] pos) Aw:=λb s c H Q I h=>
 wpAny_Dict_empty ⟨.ref s.heap.objs.size,_,I.laid (a:=s.heap.objs.size) (o:=cB s.heap.objs.size []) (t':=s.toks) (λ_ _ q=>Ã _ q) (Ä _)
  (GP (à _) (ń.mpr (Ne.symm (ã I.big))) .nil ⟨_,([].toArray),0,Ë _ rfl,⟨rfl,rfl,rfl⟩,rfl,rfl,Ÿ⟩),rfl,h _ (I.hok.fresh (Ä _))⟩
theorem PP(I:Inv X pins h H s)(g:SGet H a y r):s.TypeIs (.ref a) "dict":=by
 let#[f,k,b,e,d,_]:=g;let#[_,_,i,_,c]:=sZ I.hok e d;show c.typeIs
theorem iV(r:X.A.units+2<cLine)(p:PE X o td)(n:PE X i ty)(q:U0 i):PE X (.Subscript o i pos) (nO td ty):=by
 intro b s e H Q I h;show Af PySem.F.slot_dict_getitem.lookup q (bA (p b s e H _ I h) λu B ob=>?_);let#[x,f,k,z,t]:=ob;show bA (n b B e f _ k t) λC D ob=>?_
 let#[y,j,d,A,a,v,m,g,w]:=ob;subst m;obtain rfl:u=Value.ref a:=z;show#[PP d g,yE r d g A λF E l c=>#[v,j,l,c,w]]
theorem Ul(p:X.A.units+2<cLine)(m:PE X i ty)(n:PE X o td):PC X .In i o (Ye ty td):=by
 intro b s c H Q I h;show bA (m b s c H _ I h) λz w ob=>?_
 let#[y,d,f,v,q]:=ob;show bA (n b w c d _ f q) λu A ob=>?_
 let#[x,e,j,t,a,ov,l,g,r]:=ob;subst l;obtain rfl:u=Value.ref a:=t;show Yd p j g v λB k=>#[.bl ov.isSome,e,k,rfl,r]
theorem t6(p:X.A.units+2<cLine)(m:PE X i ty)(n:PE X o td):PC X .NotIn i o (uz ty td):=by
 intro b s c H Q I h;show bA (m b s c H _ I h) λz w ob=>?_
 let#[y,d,f,v,q]:=ob;show bA (n b w c d _ f q) λu A ob=>?_
 let#[x,e,j,t,a,ov,l,g,r]:=ob;subst l;obtain rfl:u=Value.ref a:=t;show GQ p j g v λB k=>#[.bl (not ov.isSome),e,k,rfl,r]
theorem uB(w:X.A.units+2<cLine)(q:PE X o td)(p:PE X i ty)(z:PE X value tv)(t:swapsWith value (!(.Subscript o i pos')) pos.line X.env=pure false):
  PS X (.Assign [.Subscript o i pos'] value pos) (Ax td ty tv):=by
 intro b s c H D I h;show wpAny_Assign_Subscript (bA (z b s c H _ I h) λr J ⟨v,d,j,E,A⟩=>bA (q b J c d _ j A) λu K ⟨x,e,k,F,B⟩=>bA (p b K c e _ k B) λM N ⟨y,L,l,G,a,f,n,g,C⟩=>?_) t;subst n;obtain rfl:u=Value.ref a:=F;show yF w l g G E λO m=>#[c,f,m,C]
theorem dO{k:Nat}(a:Room k A):A.units+2<cLine:=Õ (Nat.add_le_add_left (by decide:2<=64) _) a.units
end
end L2
end
section
namespace Nk
open PySem PySem.Spec PyProof.Rows
section
def PQ{d:ό}{b:Obj}{a:ϔ DictEntry}{i:Nat}(lo:(d==sysModules)=false)(e:b.ExactDict)(g:s.heap.get? d=!b)(c:b.data=.dict a i)(f:(a.size:Int)<2^63)
  (h:∀t k,Q (.int a.size t) {s with toks:=k}):wpAny (model prog w) A (call (.builtin "len") [.ref d]) Q E s:=by
 have T:s.TypeIs (.ref d) "dict":=#[b,g,e.1];show Calls.call_function_entry kind_len plain_len entry_len (args_len1 _) ?_;unfold Builtin.«len»;show Zp (m:=oneArg "len" _) (Á ?_);show Zp (m:=callSpecial? (.ref d) (Str.ofString "__len__")) (wpAny_callSpecial?_slot (name:=Str.ofString "__len__") T PySem.F.slot_dict_len (ò PySem.F.slot_dict_len T PySem.F.entry_dict_len ?_ (PySem.F.args_dict_len_1 _)));unfold Builtin.«dict.__len__» Builtin.Dict.dictSlotNone;show Zp (Zp (Ĵ T ?_));change wpAny _ _ (pure (Value.ref d)) _ _ _;show Á ?_;change wpAny _ _ (dictSize d>>=_) _ _ _;have j:¬((d==sysModules)=true):=by rw[lo];show Ò
 unfold dictSize;show Zp (Zp (ĭ g c (Á ?_)));change wpAny _ _ (Builtin.Dict.pendingCount d>>=_) _ _ _;unfold Builtin.Dict.pendingCount;show Zp ?_;rw[if_neg j];show Á ?_;change wpAny _ _ (retInt (((a.size:Nat):Int)+((0:Nat):Int))) _ _ _;rw[show((a.size:Nat):Int)+((0:Nat):Int)=(a.size:Int)by rfl'];show wpAny_ret_mkInt ?_;show Zp (ÿ (Á ?_));show Zp (ũ ?_);change wpAny _ _ (if((a.size:Nat):Int)<0 then _ else _) _ _ _;rw[if_neg ()];change wpAny _ _ (if((a.size:Nat):Int)>=2^63 then _ else _) _ _ _;rw[if_neg ()];show Zp (wpAny_mkInt (Á #[_,rfl,h _ _]))
end
end Nk
end
section
namespace Sy
open PySem PyProof.Rows
def tu{K:Type}[DecidableEq K]{a:ϊ (K×ό×ϋ)}{k:K}(h:k∉a.map (·.1)):atKey a k=none:=by
 unfold atKey;rw[Ů,Ļ];intro x b e;show h (Zl.mpr #[x,b,æ e])
end Sy
end
section
namespace L2
open PySem PySem.Spec PyProof.Rows
def GX:ϊ V->Hp->VK->Prop:=λxs H Q=>∃(a:ό)(kvs:ϊ (ϊ Key×V)),xs=[.ref a]/\H a=!(.dT kvs)/\Q (.int ↑kvs) H
def Dr{X:Cx}:bU X (.builtin "len") GX:=by
 intro e s x H p w Q I n h;let#[a,c,rfl,f,q]:=h;let#[u,rfl,m]:=n.one
 cases(show u=Value.ref a from m);let#[z,lo,p,d,o,g,r,i,j,k,l,_]:=rZ I.hok f;have b:g.size=↑c:=by rw[<-ø,l,Qb,Ď d]
 show Nk.PQ lo j i k (by rw[b];rw[ĉ]at z;rfl') λt v=>?_
 rw[b];show#[.int ↑c,H,I.tok _,#[t,rfl],q]
end L2
end
section
namespace L2
open PySem PySem.Spec PyProof.Rows Sx Nk
section
variable{X:Cx}
theorem PX{k:Nat}(a:Room k A):A.units+12<cLine:=Õ (Nat.add_le_add_left (by decide:12<=64) _) a.units
end
end L2
end
section
namespace L2
open PySem PySem.Spec PyProof.Rows Nk
abbrev yG:=iKG (λp:ό×Sk×V=>.ref p.1) cB
def qg(f:ObjOk P w H h a (cB a kvs)):
  ∃od es ep xs,h.get? a=!od/\od.ExactDict/\(a==sysModules)=false/\od.data=.dict es ep/\KS kvs xs/\es.toList=xs.map Dq/\es.size=↑kvs:=by
 let#[#[_,y,xs,r,o,es,ep,c,d,e,b,_],_]:=f;show#[o,es,ep,xs,c,d,y,e,r,b,by rw[<-ø,b,Qb];show(Ď r).symm]
def GZ:Yb P w (λp:ό×Sk×V=>.ref p.1) cB:=by
 intro H h a r t;let#[s,l,k,v,j,m,c,f,e,g,d]:=qg t;show#[trivial,s,l,k,j,m,c,f,d,λi p b=>?_];let#[_,q,n,o,_,u,_]:=fX i e (À.mp b).1;rw[n]at b
 cases b;show#[Dq q,by rw[<-û,g,Jn,o];rfl,by change RelV (.ref p.1) _;rw[u];rfl]
def wG{X:Cx}(b:PE X l a):PI X c l (yG a):=wy GZ b
end L2
end
section
namespace Nk
open PySem
section
variable{i ep:Nat}
theorem Q0(lo:(d==sysModules)=false)(a:od.ExactDict)(b:s.heap.get? d=!od)
  (h:Q (.ref s.heap.objs.size) {s with heap:=s.heap.push {cls:=.type "dict_items",data:=.fields ([.ref d].toArray)}}):wpAny (model prog w) A (call (.builtin "dict.items") [.ref d]) Q E s:=by
 have T:s.TypeIs (.ref d) "dict":=#[od,b,a.1];show ò F.slot_dict_items T F.entry_dict_items ?_ (F.args_dict_items_1 _);unfold Builtin.«dict.items» Builtin.Dict.noArgs;show Zp (Zp (Ĵ T (Á (show wpAny _ _ (Builtin.Dict.showsAll d>>=_) _ _ s from ?_))));unfold Builtin.Dict.showsAll;rw[lo];show Zp (Á (Zp (ù (Á #[_,rfl,h]))))
theorem Q3(b:s.heap.IsItemsView v d)(c:s.heap.get? d=!od)(a:od.data=.dict es ep)
  (h:Q (.ref s.heap.objs.size) {s with heap:=s.heap.push {cls:=.type "dict_itemiterator",data:=.fields ([.none,.bool false,.ref d,.int 0 0,.int es.size 0,.int ep 0,.none,.none].toArray)}}):
  wpAny (model prog w) A (pyIter (.ref v)) Q E s:=by
 let#[o,e,_,f]:=id b;show wpAny_pyIter_slot b.typeIs F.slot_dict_items_iter (ò F.slot_dict_items_iter b.typeIs F.entry_dict_items_iter ?_ (F.args_dict_items_iter_1 _));unfold Builtin.«dict_items.__iter__» Builtin.Dict_items.dictOf Builtin.Dict_items.newIterator;show Zp (Á (Zp (Zp (Ĝ e f (x:=.ref d) rfl (Á (Zp (Zp (ĭ c a (Zp (wpAny_dictEpoch c a ?_))))))))));simp only[show Builtin.Dict_items.ownsTuple "dict_itemiterator"=true by decide,ľ];show ù (Á #[_,rfl,"dict_itemiterator",_,#[_,Ë _ rfl,rfl],F.slot_dict_itemiterator_next.lookup,?_]) (by simp[sizeOk,Builtin.Dict_items.ownedTupleFields,ĉ]);simpa[rawInt,Builtin.Dict_items.ownedTupleFields]using h
theorem Ay{Q:ύ ϋ->ώ->Prop}(Y:A.handled=none)(c:IsItemIter s.heap it d i es.size ep ok ov)(l:s.heap.get? d=!od)(k:od.data=.dict es ep)
  (X:∀(hi:i<es.size) h',IsItemIterOut h' it d (i+1) es.size ep es[i].key es[i].val s.heap.objs.size->h'.get? s.heap.objs.size=!{cls:=.type "tuple",data:=.seq ([es[i].key,es[i].val].toArray)}->h'.objs.size=s.heap.objs.size+1->
   (∀b o,b≠it->s.heap.get? b=!o->h'.get? b=!o)->Q (!(.ref s.heap.objs.size)) {s with heap:=h'})
  (W:es.size<=i->∀h',Heap.ExtBut it s.heap h'->Q none {s with heap:=h'}):wpAny (model prog w) A (pyNext (.ref it)) Q E s:=by
 have T:s.TypeIs (.ref it) "dict_itemiterator":=#[_,c,rfl];unfold pyNext;show Zp (wpAny_attempt (wpAny_callSpecial?_slot (name:=Str.ofString "__next__") T F.slot_dict_itemiterator_next (ò F.slot_dict_itemiterator_next T F.entry_dict_itemiterator_next ?_ (F.args_dict_itemiterator_next_1 _))));have N:Builtin.Dict_items.ownsTuple "dict_itemiterator"=true:=by decide
 have O:¬(Value.ref d==Value.none)=true:=Ò;have f2:¬((i:Int)<0):=()
 have D:∀{C:ώ}{L:ϖ}{M:϶}{R:String->ώ->Prop},C.TypeIs (.ref it) "dict_itemiterator"->R "dict_itemiterator" C->wpAny (model prog w) L (typeNameOfWhole (.ref it)) R M C:=λa b=>wpAny_typeNameOfWhole_itemiter a b
 repeat(first
  |(show D T ?_)
  |(show wpAny_fieldsOf c rfl ?_)
  |(show ĭ l k ?_)
  |(show wpAny_dictEpoch l k ?_)
  |(show Á ?_)
  |(show Zp ?_)
  |(simp only[N,ľ])
  |(rw[if_neg O])
  |(rw[if_neg (by simp)]))
 rw[Ð];rcases Ġ i es.size with hi|hi
 .rw [ā hi];dsimp only;show Zp (Zp (D T (Á (Zp (ν T ?_)))));change wpAny (model prog w) A.in1 (do setField (.ref it) 3 (rawInt ((i:Int)+1));_) _ _ s;show Zp (č c (by simp) λh j m=>?_);replace m:Heap.SameBut it s.heap h:=m;replace j:IsItemIter h it d (i+1) es.size ep ok ov:=by
   unfold IsItemIter;rw[show((i+1:Nat):Int)=(i:Int)+1 by rfl'];simpa[rawInt]using j
  have y:Shared.TypeIs {s with heap:=h} (.ref it) "dict_itemiterator":=⟨_,j,rfl⟩;show Zp (ÿ (Zp (ν y (Zp (ν y ?_)))));change wpAny (model prog w) _ (Builtin.Dict_items.pairFromOwner (.ref it) 6 es[i].key es[i].val) _ _ {s with heap:=h};unfold Builtin.Dict_items.pairFromOwner Builtin.Dict_items.ownedTupleIsFree;show Zp (wpAny_newTuple ?_);have v:h.objs.size=s.heap.objs.size:=m.1;have B:it<s.heap.objs.size:=Ê c;let#[g,n,t2,z2,Z,G]:∃g,IsItemIter g it d (i+1) es.size ep ok ov/\g.get? s.heap.objs.size=!{cls:=.type "tuple",data:=.seq ([es[i].key,es[i].val].toArray)}/\g.objs.size=s.heap.objs.size+1/\(∀b o,b≠it->s.heap.get? b=!o->g.get? b=!o)/\g=h.push {cls:=.type "tuple",data:=.seq ([es[i].key,es[i].val].toArray)}:=
   #[_,Ã _ j,by rw[<-v];show Ë _ rfl,by rw[Ĭ,v],λb o f e=>Ã _ (m.extBut b o f e),rfl]
  rw[v];change wpAny (model prog w) _ _ _ _ {s with heap:=h.push {cls:=.type "tuple",data:=.seq ([es[i].key,es[i].val].toArray)}};rw[<-G];clear G j m y v;show Zp (Zp (Ĝ n rfl (x:=.none) rfl (Á ?_)));simp only[ľ];show Zp (Ĝ n rfl (x:=ok) rfl (Zp (Ĝ n rfl (x:=ov) rfl ?_)));show Zp (č n (by simp) λH P q=>Zp (č P (by simp) λI S r=>Zp (č S (by simp) λJ U t=>Zp (č U (by simp) λp z u=>?_))));replace z:IsItemIterOut p it d (i+1) es.size ep es[i].key es[i].val s.heap.objs.size:=z;replace q:Heap.SameBut it g H:=q;replace r:Heap.SameBut it H I:=r;replace t:Heap.SameBut it I J:=t;replace u:Heap.SameBut it J p:=u;have K:∀b o,b≠it->g.get? b=!o->p.get? b=!o:=λb o f e=>u.extBut b o f (t.extBut b o f (r.extBut b o f (q.extBut b o f e)))
  show Zp (ũ (Á (Á #[_,rfl,Á (X hi p z (K _ _ (ę B) t2) (by rw[u.1,t.1,r.1,q.1,z2]) λb o f e=>K b o f (Z b o f e))])))
 .rw [Array.getElem?_eq_none hi];dsimp only;show Zp (Zp (D T (Á ?_)));change wpAny (model prog w) A.in1 (do setField (.ref it) 2 .none;_) _ _ s;show Zp (η c rfl (by simp) (L2.Gi Y (ą ..) (W hi)))
end
end Nk
namespace L2
open PySem PySem.Spec PyProof.Rows Nk
variable{k:Nat}
def yH(od:Obj)(a:ό)(kvs:ϊ (ό×Sk×V)):It where
 go:=λi H=>H a=!(.frz od (cB a kvs))/\i<↑kvs
 yld:=λi H v H'=>∃p q,H p=none/\kvs[i]?=!q/\v=.ref p/\H'=upd H p (.tup [.ref q.1,q.2.2])
 stop:=λi H=>H a=!(.frz od (cB a kvs))/\↑kvs<=i
theorem wH{P:ϓ}{K:Ϗ}(g a:ό){F:Obj}{C:ϔ DictEntry}{ep:Nat}(f:F.data=.dict C ep):
  Turn P w K (.Tuple elts k tpos) (yH F a kvs) [g] g (λi h=>∃ok ov,IsItemIter h g a i C.size ep ok ov)where
 mem:=by simp
 obj:=λi h d b hb=>by
  let#[ok,ov,d]:=d;rw[Zs.mp hb];show#[_,d,λv z=>by cases z]
 keep:=λi h h' ⟨ok,ov,d⟩ y=>#[ok,ov,y g (by simp) _ d]
 item:=by
  intro X N Y M O i A s σ H E I D d R;subst N Y M;let#[ok,ov,d]:=d;let#[G,S]:=R;let#[m,ok]:=(show ObjOk X.prog X.w H s.heap a (.frz F (cB a kvs))from I.hok a _ G);let#[o,L,J,xs,j,_,_,l,B,Z,U]:=qg ok;rw[m]at j
  cases j;rw[f]at l
  cases l;show Ay (I.ok.hd O) d m f (λT h' a1 a3 a4 a5=>?_) λn=>absurd S ()
  show#[_,rfl,wpAny_letOwnedTupleGo_items a1 λr b1 T=>?_];have hT:s.heap.objs.size≠g:=ę (Ê d);let#[p,q,hk,hx,_,r2,r3]:=fX i B S;have Q:C[i]'(by rfl')=Dq q:=by
   have:C.toList[i]?=!(Dq q):=by rw[Z,Jn,hx];rfl
   rw[û,ā ()]at this;show ß this
  have y:∀c o,c∉[g]->s.heap.get? c=!o->r.get? c=!o:=λc o e q=>by
   have t:c≠g:=λz=>e (by rw[z];simp)
   show T.extBut _ _ t (a5 c o t q)
  have e5:r.get? s.heap.objs.size=!{cls:=.type "tuple",data:=.seq ([.ref p.1,q.2.2].toArray)}:=by
   have:=T.extBut _ _ hT a3;rw[Q]at this;rw[r2];show this
  let#[u,I2]:=I.yields (t':=s.toks) y D (x:=.ref p.1) rfl r3 e5;show#[.ref s.heap.objs.size,_,I2,rfl,#[_,p,u,hk,rfl,rfl],#[_,_,b1],λc e=>?_];rw[Zs.mp e,ao (ã (Ê d))];show(D g (by simp)).1
 done:=by
  intro X N Y M O i A s σ H E I D d R;subst N Y M;let#[ok,ov,d]:=d;let#[G,S]:=R;let#[m,ok]:=(show ObjOk X.prog X.w H s.heap a (.frz F (cB a kvs))from I.hok a _ G);let#[o,L,J,xs,j,_,_,l,B,Z,U]:=qg ok;rw[m]at j
  cases j;rw[f]at l
  cases l;show Ay (I.ok.hd O) d m f (λn=>absurd n ()) λ_ h' y=>#[rfl,I.turnedAll (t':=s.toks) (λc o e q=>y c o (λz=>e (by rw[z];simp)) q) D]
 self:=λ_ _ _ _ _ ⟨_,_,d⟩ h=>PySem.W.kcp_self d h
abbrev Az(tl:TE):TI:=λσ H R=>tl σ H λx H1=>∃a kvs,x=.ref a/\((H1 a=!(cB a kvs)/\∀od,R (yH od a kvs) (upd H1 a (.frz od (cB a kvs))))\/∃od,H1 a=!(.frz od (cB a kvs))/\R (yH od a kvs) H1)
theorem Ds{X:Cx}(E:PE X o y)(g:attributeBase o "items" X.env (eval o X.env)=eval o X.env:=by rfl)(i:(c.endLine==d.line)=true:=by rfl):
  PI X (.Tuple elts k tpos) (.Call (.Attribute o "items" c) [] [] d) (Az y):=by
 intro f s z H R I h;show Ο g i (bA (E f s z H _ I h) λv m ob=>?_);let#[x,J,A,G,F]:=ob;let#[a,u,rfl,q]:=F
 cases(show v=Value.ref a from G);let#[l,n,N,M,B,L,q,j,r,t,w]:=GC (R:=λl n=>R (yH l a u) n) GZ A q;show#["dict","dict.items",Ĥ,Ρ,PySem.F.type_dict_items,#[l,j,r.1],λK C=>by cases C;show#[l,j,r.2.1],ċ rfl (PySem.evalArgs_none (Q0 t r j ?_))];show Q3 #[_,Ë _ rfl,rfl,rfl] (Ã _ j) w ?_;have p:Inv X f z n {m with heap:=m.heap.push {cls:=.type "dict_items",data:=.fields ([.ref a].toArray)}}:=B.kept (t':=m.toks) λb ob q=>Ã _ q
 show#[_,[_],_,_,_,rfl,p.kept (t':=m.toks) λb o e=>Ã _ e,wH _ a w,#[_,_,Ë _ rfl],λb D=>?_,q];rw[Zs.mp D];show p.fpOk (Ä _) (p.hok.fresh (Ä _))
end L2
end
section
namespace Nk
open PySem
theorem Ha{a b:Type}{f:a->b}:∀(l:ϊ a)(i:Nat),(l.map f).eraseIdx i=(l.eraseIdx i).map f
 |[],_=>rfl
 |_::_,0=>rfl
 |x::l,i+1=>Ý (f x::·) (Ha l i)
section
variable{prog:ϓ}{w:ϕ}{K:Type}[DecidableEq K]{knd:HeapKind prog w K}{A:ϖ}{E:϶}{s:ώ}{d a:ό}{k:K}{xs:ϊ (K×ό×ϋ)}
theorem Hb(u:knd.room A)(b:knd.is s.heap k a)(F:s.heap.DictOfH knd d xs)(G:↑xs<=sizeLine)
  (n:∀(j:Nat)(p:ό×ϋ),xs[j]?=!(k,p)->Q p.2 {s with toks:=s.toks+knd.draws k})
  (m:k∉xs.map (·.1)->∀h',h'.DictOfH knd d (xs++[(k,a,v)])->Heap.SameBut d s.heap h'->Q v {s with heap:=h',toks:=s.toks+knd.draws k}):wpAny (model prog w) A (dictSetDefault d (.ref a) v) Q E s:=by
 let#[o,H,C,g,D,c,h,f,t]:=F;unfold dictSetDefault;show ÿ (Zp (knd.pyHash u b (Zp (wpAny_dictFind_heap (s:={s with toks:=s.toks+knd.draws k}) u b g c h f t (λl=>?_) λj p r=>?_))))
 .have B:k∉xs.map (·.1):=not_mem_keys_of_get l;show Zp (ō (Zp (wpAny_updateDictKeys (hz:=by have e:=size_of_entries h;rfl') (s:={s with toks:=s.toks+knd.draws k}) g c (Á (m B _ ⟨_,_,C+1,ĝ _ g (Obj.isFreed_of_dict (Ż c _)),D.mapDictKeys _,Ż c _,by simp[h,entryOfKey],λx hx=>?_,?_⟩ (ą ..))))))
  .have i:knd.is s.heap x.1 x.2.1:=by
    rcases Å.mp hx with hx|hx
    .show f x hx
    .rw [Zs.mp hx];show b
   show knd.keeps i g c (ą ..)
  .rw [Wp,â];show#[t,by simp,λx hx y z e=>B (by rw[È,Ĕ,Zs]at z;have q:x=k:=e.trans z;rw[<-q];show hx)]
 .show Zp (ĭ (s:={s with toks:=s.toks+knd.draws k}) g c ?_);rw[entry_at h j,r];show Zp (ō (Á (n j p r)))
theorem Hd{j:Nat}(C:knd.room A.in1)(b:knd.is s.heap k a)(B:s.heap.DictOfH knd d xs)(g:xs[j]?=!(k,p))(L:↑xs<=sizeLine)
  (h:∀h',h'.DictOfH knd d (xs.eraseIdx j)->Heap.SameBut d s.heap h'->Q p.2 {s with heap:=h',toks:=s.toks+knd.draws k}):wpAny (model prog w) A (call (.builtin "dict.pop") [.ref d,.ref a]) Q E s:=by
 have T:=B.typeIs;let#[o,y,I,e,J,c,l,f,t]:=B;show ò F.slot_dict_pop T F.entry_dict_pop ?_ (F.args_dict_pop_2 _ _);unfold Builtin.«dict.pop» Builtin.Dict.keyAndDefault;show Zp (Zp (Ĵ T (show wpAny _ _ (pure (d,Value.ref a,none)) _ _ s from Á ?_)));have v:y.size=↑xs:=size_of_entries l;have K:j<↑xs:=(À.mp g).1;have N:y.isEmpty=false:=by rw[Array.isEmpty_eq_false_iff];intro z;rw[z]at v;simp at v;rfl'
 dsimp only;rw[show(keyPart (Value.ref a)).isSome=false from rfl];simp-iota only[ä,Ć];show Zp (ĭ e c (Zp (Á ?_)));rw[N];simp-iota only[ä,Ć];unfold Builtin.Dict.takeOut;show Zp (ÿ (Zp (knd.pyHash C b (Zp (wpAny_dictFind_heap (s:={s with toks:=s.toks+knd.draws k}) C b e c l f t (λu=>absurd g (u j p)) λi q m=>?_)))));have n:i=j/\q=p:=by
  have r:i<↑xs:=(À.mp m).1;have D:(xs.map (·.1))[i]?=!k:=by rw[Jn,m];rfl
  have G:(xs.map (·.1))[j]?=!k:=by rw[Jn,g];rfl
  have H:i=j:=(List.getElem?_inj (by rw[Qb];show r) t).mp (D.trans G.symm);subst H;rw[m]at g
  cases g;show#[rfl,rfl]
 let#[rfl,rfl]:=n;show Zp (ĭ (s:={s with toks:=s.toks+knd.draws k}) e c ?_);rw[entry_at l i,m];show Zp (wpAny_updateDictKeys (hz:=()) (s:={s with toks:=s.toks+knd.draws k}) e c (Á ?_));dsimp only;simp-iota only[Option.isNone_some,ä,Ć];show Zp (ũ (Á #[_,rfl,h _ #[_,_,I+1,ĝ _ e (Obj.isFreed_of_dict (Ż c _)),J.mapDictKeys _,Ż c _,?_,λx M=>knd.keeps (f x (List.mem_of_mem_eraseIdx M)) e c (ą ..),?_] (ą ..)]))
 .rw [Array.eraseIdxIfInBounds,dif_pos (),Array.toList_eraseIdx,l];show Ha _ _
 .show Č (List.Sublist.map _ (List.eraseIdx_sublist _ _)) t
end
end Nk
namespace L2
open PySem PySem.Spec PyProof.Rows Nk
def KT.drop(r:KT H kvs d):∀{j:Nat},(d.map (·.1)).Nodup->d[j]?=!(k,p)->KT H (dI kvs k) (d.eraseIdx j):=by
 induction r with
 |nil=>intro j _ h;cases h
 |@cons p0 q0 ps qs h0 t ih=>
  intro j c f;rw[È,é]at c;have b:∀{l:ϊ (ϊ Key×V)}{m:ϊ (ϊ Key×ό×ϋ)},KT H l m->m.map (·.1)=l.map (·.1):=λr=>by
   induction r with
   |nil=>rfl
   |cons h _ ih=>rw[È,È,ih,h.1]
  cases j with
  |zero=>
   cases f;have g:p0.1=k:=h0.1;have e:dI (p0::ps) k=ps:=by
    unfold dI;rw[ĸ,if_neg (by simp[g]),List.filter_eq_self];intro y i;have:y.1≠k:=λz=>c.1 (by rw[b t];show Zl.mpr #[y,i,z])
    show Ù this
   rw[e];show t
  |succ j=>
   have a:qs[j]?=!(k,p):=f;have n:p0.1≠k:=λz=>c.1 (Zl.mpr #[(k,p),Yf a,(h0.1.symm.trans z).symm])
   have e:dI (p0::ps) k=p0::dI ps k:=by
    unfold dI;rw[ĸ,if_pos (Ù n)]
   rw[e];show .cons h0 (ih c.2 a)
def Um{b:ϊ (ϊ Key×ό×ϋ)}(h:atKey b k=!p):∃j:Nat,b[j]?=!(k,p):=by
 let#[#[d,f],a,rfl]:=Ï.mp h;let#[j,c]:=ü.mp (Ċ a);have e:=ų a;show#[j,by rw[c,show d=k from æ e]]
section
variable{X:Cx}
theorem Uo(M:A.units+1<cLine)(I:Inv X pins σ H s)(e:H a=!(.dT kvs))(x:H b=!(.tup (k.map kV)))(l:bx kvs k=!v)
  (h:∀m s',Inv X pins σ (upd H a (.dT (dI kvs k))) s'->RelV v m->Q m s'):wpAny (model X.prog X.w) A (call (.builtin "dict.pop") [.ref a,.ref b]) Q E s:=by
 let#[z,J,w,d,n]:=rZ I.hok e;let#[m,N,i]:=RelO.some_of (v:=v) (o:=(atKey w k).map (·.2)) (by rw[<-l];show d.val k);let#[p,K,rfl]:=Ï.mp N;let#[j,t]:=Um K;have g:(w.map (·.1)).Nodup:=by let#[_,_,_,_,_,_,_,_,g]:=n;show g
 show Hd (ŋ M) (iJ I.hok x) n t (by rw[<-Ď d];show z) λO f L=>h _ _ ?_ i
 let#[q,B,y,u,C,D,F,_,G]:=f;show iK I (by rw[e];show True.intro) L ⟨q,u⟩ ⟨Nat.le_trans (FZ kvs k) z,J,_,(d.drop g t).keeps λc P r=>?_,q,B,y,u,C,D,F,G⟩;rw[ao (fZ r e (λz=>nomatch z))];show r
theorem Uq{z:V}(O:A.units+1<cLine)(I:Inv X pins σ H s)(e:H a=!(.dT kvs))(o:H b=!(.tup (k.map kV)))(U:↑kvs<sizeLine)(P:RelV z r)
  (K:∀v y s',bx kvs k=!v->Inv X pins σ H s'->RelV v y->Q y s') (L:∀s',bx kvs k=none->Inv X pins σ (upd H a (.dT (kvs++[(k,z)]))) s'->Q r s'):wpAny (model X.prog X.w) A (call (.builtin "dict.setdefault") [.ref a,.ref b,r]) Q E s:=by
 let#[R,u,h,d,i]:=rZ I.hok e;have T:=i.typeIs;show ò PySem.F.slot_dict_setdefault T PySem.F.entry_dict_setdefault ?_ (PySem.F.args_dict_setdefault_3 _ _ _);unfold Builtin.«dict.setdefault» Builtin.Dict.keyAndDefault;show Zp (Zp (Ĵ T (show wpAny _ _ (pure (a,Value.ref b,!r)) _ _ s from Á ?_)));dsimp only;rw[u];simp-iota only[ä,Ć];have n:(h.map (·.1)).Nodup:=by let#[_,_,_,_,_,_,_,_,n]:=id i;show n
 show Zp (Hb (A:=A.in1) (ŋ O) (iJ I.hok o) i (by rw[<-Ď d];show R) (λj p M=>Á #[_,rfl,?_]) λx S l N=>Á #[_,rfl,?_])
 .have m:atKey h k=!p:=atKey_of_get n M;have:=d.val k;rw[m]at this
  cases f:bx kvs k with
  |none=>rw[f]at this;show absurd this (λz=>nomatch z)
  |some v=>rw[f]at this;show K v _ _ f (I.tok _) this
 .have f:bx kvs k=none:=by
   have m:atKey h k=none:=Sy.tu x;have:=d.val k;rw[m]at this
   cases f:bx kvs k with
   |none=>rfl
   |some v=>rw[f]at this;show absurd this (λz=>nomatch z)
  show L _ f ?_;let#[q,C,B,w,D,F,G,_,J]:=l;have g:KT H (kvs++[(k,z)]) (h++[(k,b,r)]):=by
   have:=d.put k (b:=b) o P;rw[show putK kvs k z=kvs++[(k,z)]from dJ _ f,storedH_new (Sy.tu x)]at this;show this
  show iK I (by rw[e];show True.intro) N ⟨q,w⟩ ⟨by rw[Â,Ú];rfl',u,_,g.keeps λc W t=>?_,q,C,B,w,D,F,G,J⟩;rw[ao (fZ t e (λz=>nomatch z))];show t
end
abbrev Rm(td ty:TE):TE:=λσ H Q=>td σ H λx H1=>∃a,x=.ref a/\Y6 H1 a/\ty σ H1 λy H2=>∃kvs k b v,H2 a=!(.dT kvs)/\y=.ref b/\H2 b=!(.tup (k.map kV))/\bx kvs k=!v/\Q v (upd H2 a (.dT (dI kvs k)))
def Hf(td ty tx:TE):TE:=λσ H Q=>td σ H λx H1=>∃a,x=.ref a/\Y6 H1 a/\ty σ H1 λy H2=>tx σ H2 λz H3=>∃kvs k b,H3 a=!(.dT kvs)/\y=.ref b/\H3 b=!(.tup (k.map kV))/\↑kvs<sizeLine/\
 (∀v,bx kvs k=!v->Q v H3)/\(bx kvs k=none->Q z (upd H3 a (.dT (kvs++[(k,z)]))))
section
variable{X:Cx}
theorem Q4(B:X.A.units+1<cLine)(A:PE X o td)(z:PE X e ty)(m:M1 X o "pop" apos e cpos):PE X (.Call (.Attribute o "pop" apos) [e] [] cpos) (Rm td ty):=by
 intro c s i H Q I h;show ε m.base m.few m.line Ĥ PySem.F.slot_dict_pop PySem.F.type_dict_pop (bA (A c s i H _ I h) λu K ob=>?_);let#[x,j,g,G,a,t,d,E]:=ob;subst t;obtain rfl:u=Value.ref a:=G;let#[L,M,_]:=uc g d;show#[L,M,?_];rw[m.trees];show ċ rfl (Ś (Ģ (bA (z c K i j _ g E) λC O ob=>?_)));let#[y,N,n,J,D,k,b,v,q,w,r,l,F]:=ob;show ř ?_;subst w
 cases(show C=Value.ref b from J);show Uo B n q r l λR P p f=>#[v,_,p,f,F]
theorem Q5(L:X.A.units+1<cLine)(K:PE X o td)(F:PE X e ty)(G:PE X f tx)(m:M2 X o "setdefault" apos e f cpos):PE X (.Call (.Attribute o "setdefault" apos) [e,f] [] cpos) (Hf td ty tx):=by
 intro c s j H Q I h;show ε m.base m.few m.line Ĥ PySem.F.slot_dict_setdefault PySem.F.type_dict_setdefault (bA (K c s j H _ I h) λu W ob=>?_);let#[x,q,n,T,a,D,d,O]:=ob;subst D;obtain rfl:u=Value.ref a:=T;let#[t1,t2,_]:=uc n d;show#[t1,t2,?_];rw[m.trees];show ċ rfl (Ś (Ģ (bA (F c W j q _ n O) λM Y ob=>?_)));let#[y,r,w,U,P]:=ob;show Ģ (bA (G c Y j r _ w P) λfv s3 ob=>?_);let#[z,t,A,p,N,k,b,B,E,C,J,R,S]:=ob;show ř ?_;subst E
 cases(show M=Value.ref b from U);show Uq L A B C J p (λv w' Z l g i=>#[v,t,g,i,R v l]) λZ l g=>#[z,_,g,p,S l]
end
end L2
end
section
namespace Nk
open PySem
section
variable{n:Nat}
def Rn(prog:ϓ)(w:ϕ)(A:ϖ)(P:Nat->ϋ->Prop)(St:Nat->ϒ->Prop)(bt:Nat->Nat->ϑ):Prop:=
 ∀m i j x y (s:ώ) (Q:϶) (E:϶),St m s.heap->P i x->P j y->Q (.bool (bt i j)) s->wpAny (model prog w) A (richCompare .Lt x y) Q E s
theorem oF:(toString "min"++toString ".loop":String)="min.loop":=by decide
theorem Q6(W:Walks prog w A.in1 I fp wr n P St)(E:Rn prog w A.in1 P St bt)(r:S∉fp):∀(k j:Nat)(s:ώ)(x:ϋ)(c:Nat),n=j+1+k->St (j+1) s.heap->P (argBest bt j) x->
  s.heap.get? S=!{cls:=.type "list",dict:=none,data:=.seq ([x,x].toArray) c,slots:=([].toArray)}->
  (∀v h' D,P (argBest bt (n-1)) v->(∀b o,b∉wr->b≠S->s.heap.get? b=!o->h'.get? b=!o)->R (.ok (.ret v)) {s with heap:=h',toks:=D})->
  codeAny (model prog w) A (.builtin "min.loop" #[[.ref I,.none,.ref S],[]]) R s:=by
 have t:S∉wr:=λh=>r (W.sub _ h)
 intro k;induction k with
 |zero=>
  intro j s x c N L C q B;have M:j+1=n:=N.symm;show Ŗ F.entry_min_loop ?_;rw[Ħ ň _];show Zp (ğ q rfl (Zp (ι (W.done s _ _ (M▸L) λh' D p=>?_))));have d:=p S _ t q;show Zp (wpAny_updateSeq d rfl (Zp (ũ (Á (B x _ D (by rw[<-M];show C) λb o m a e=>?_)))));rw[Ň _ _ (Ne.symm a)];show p b o m e
 |succ k ih=>
  intro j s x c N L C q B;show Ŗ F.entry_min_loop ?_;rw[Ħ ň _];show Zp (ğ q rfl (Zp (ι (W.item (j+1) s _ _ () L λy h' D O i p=>?_))));have d:=p S _ t q;have u:∀{f:Obj->Obj}{b:ό}{o:Obj},b≠S->h'.get? b=!o->(h'.update S f).get? b=!o:=λm e=>by rw[Ň _ _ (Ne.symm m)];show e
  change wpAny _ A.in1 (tryCatch (holding [y,y] (richCompare .Lt y x>>=_)) _>>=_) _ _ _;show Zp (ι (ÿ (Zp (E _ (j+1) (argBest bt j) y x _ _ _ i O C (Zp (ÿ (ē (Zp (ũ (Á ?_))))))))))
  cases m:bt (j+1) (argBest bt j)with
  |true=>
   simp-iota only[ľ];show Zp (wpAny_updateSeq d rfl (Zp (ũ ?_)));rw[oF];show Á #[plainId_quiet ň _,ih (j+1) _ y _ () (W.frame _ _ _ i λb H o e=>u (λz=>r (z▸H)) e) (by rw[argBest,if_pos m];show O) (ĝ _ d rfl) λv G l J K=>B v G l J λb o g a e=>K b o g a (u a (p b o g e))]
  |false=>
   simp-iota only[ä,Ć];show Zp (ũ ?_);rw[oF];show Á #[plainId_quiet ň _,ih (j+1) _ x c () i (by rw[argBest,if_neg (by rw[m];decide)];show C) d λv G l J K=>B v G l J λb o g a e=>K b o g a (p b o g e)]
theorem Hg
  (h:wpAny (model prog w) A.in1 (pyIter x) (λit s₂=>∃I fp wr n P St bt,it=.ref I/\Walks prog w A.in1 I fp wr n P St/\St 0 s₂.heap/\(∀b∈fp,b<s₂.heap.objs.size)/\0<n/\Rn prog w A.in1 P St bt/\
   ∀v h' C,P (argBest bt (n-1)) v->(∀b o,b∉wr->s₂.heap.get? b=!o->h'.get? b=!o)->Q v {s₂ with heap:=h',toks:=C}) E s):
  wpAny (model prog w) A (call (.builtin "min") [x]) Q E s:=by
 show call_function_tree F.kind_min F.plain_min F.entry_min (F.args_min1 _) ?_;change wpAny _ A.in1 (Builtin.Builtins.bindParams "min" ["key","default"] 0 #[[],[]]>>=_) _ _ s;show Zp (wpAny_of_eq (a:=[none,none]) rfl (Zp (Á (Zp (đ h (λit s₂ j=>?_) λ_ _ e=>e)))));let#[I,fp,wr,n,P,St,bt,rfl,W,O,q,K,l,G]:=j;show Zp (ù ?_);have c:s₂.heap.objs.size∉fp:=λJ=>Ĉ _ (q _ J)
 have m:s₂.heap.objs.size∉wr:=λh=>c (W.sub _ h)
 rw[oF];show Á #[plainId_quiet ň _,Ŗ F.entry_min_loop ?_];rw[Ħ ň _];have u:(s₂.heap.push {cls:=.type "list",data:=.seq ([].toArray)}).get? s₂.heap.objs.size=!{cls:=.type "list",dict:=none,data:=.seq ([].toArray) 0,slots:=([].toArray)}:=Ë _ rfl;show Zp (ğ u rfl (Zp (ι (W.item 0 _ _ _ K (W.frame _ _ _ O λb _ o e=>Ã _ e) λy h' C M r B=>?_))));have d:=B s₂.heap.objs.size _ m u;have k:∀{f:Obj->Obj}{b:ό}{o:Obj},b≠s₂.heap.objs.size->h'.get? b=!o->(h'.update s₂.heap.objs.size f).get? b=!o:=λH e=>by rw[Ň _ _ (Ne.symm H)];show e
 change wpAny _ A.in1 (updateSeq s₂.heap.objs.size (λ_=>([y,y].toArray))>>=_) _ _ _;show Zp (wpAny_updateSeq d rfl ?_);rw[oF];show Á #[plainId_quiet ň _,Q6 W l c (n-1) 0 _ y _ () (W.frame _ _ _ r λb p o e=>k (λz=>c (z▸p)) e) M (ĝ _ d rfl) λv D t L N=>G v D t L λb o i e=>?_];have g:b≠s₂.heap.objs.size:=ã (Ê e);show N b o i g (k g (B b o i (Ã _ e)))
end
end Nk
namespace L2
open PySem PySem.Spec PyProof.Rows Nk
theorem wI(f:Nat->ϊ Int):∀k,argBest (λi j=>HT.lexLt (f i) (f j)) k<=k/\∀j,j<=k->HT.lexLt (f j) (f (argBest (λi j=>HT.lexLt (f i) (f j)) k))=false
 |0=>#[Nat.le_refl _,λj a=>by rw[Nat.le_zero.mp a];show uy _]
 |k+1=>by
  let#[d,c]:=wI f k;rw[argBest];split
  .rename_i b;show#[Nat.le_refl _,λj a=>?_];rcases Ν a with a|rfl
   .show GR (wF b) (c j ())
   .show uy _
  .rename_i b;show#[(),λj a=>?_];rcases Ν a with a|rfl
   .show c j ()
   .show ξ.mpr b
def Hh:ϊ V->Hp->VK->Prop:=λvs H Q=>∃(a:ό)(kvs:ϊ (ϊ Int×V)),vs=[.ref a]/\H a=!(.dT (kvs.map λp=>(p.1.map Sum.inl,p.2)))/\kvs≠[]/\
 ∀b k,H b=!(.tup (k.map V.int))->k∈kvs.map (·.1)->(∀k'∈kvs.map (·.1),HT.lexLt k' k=false)->Q (.ref b) H
def Dt{X:Cx}(hc:X.calm=true)(hu:X.A.units+1<cLine):bU X (.builtin "min") Hh:=by
 intro ad s σ H vs us Q I rv h;let#[a,c,rfl,ea,ac,q]:=h;let#[u,rfl,ru]:=rv.one
 cases(show u=Value.ref a from ru);let#[z,hd,w,T,dd]:=rZ I.hok ea;let#[o,Y,ep,N,ab,L,he,_,hn]:=dd;have G:↑c=↑w:=by have:=Ď T;rw[Qb]at this;show this
 have ae:Y.size=↑c:=by rw[<-ø,he,Qb,G]
 have R:0<↑c:=ņ.mpr ac;have d:∀{i:Nat}{x},w[i]?=!x->∃p,c[i]?=!p/\H x.2.1=!(.tup (p.1.map V.int)):=λ{i x} f=>by
  have F:i<↑c:=by rw[G];show(À.mp f).1
  let#[p,y,h1,h2,h3,h4,_]:=fX i T (by rw[Qb];show F);rw[f]at h2
  cases h2;rw[Jn]at h1;let#[p',E,rfl]:=Ï.mp h1;show#[p',E,?_];rw[h4,Æ];rfl
 have n:∀{i:Nat}{x p},w[i]?=!x->c[i]?=!p->∃g:ϊ ϋ,IsTup s.heap x.2.1 g.toArray/\IntsAre g p.1:=λ{i x p} f t=>by
  let#[p',E,e2]:=d f;rw[t]at E
  cases E;let#[g,r,ht,_]:=I.tuple (SqT.of (K:=X.K) e2);show#[g,ht,m6 r]
 let#[S,B]:∃S:Nat->ϊ Int,∀{i p},c[i]?=!p->S i=p.1:=⟨λi=>((c[i]?).map λp=>p.1).getD [],λ{i p} t=>by dsimp only;rw[t];rfl⟩;show Hg (pX hd ⟨o,N,ab.1⟩ N L ⟨s.heap.objs.size,s.heap.objs.size::a::w.map (·.2.1),[s.heap.objs.size],↑c,(λi v=>∃x,w[i]?=!x/\v=.ref x.2.1),
  (λi h=>h.IsKeyIter s.heap.objs.size a i Y.size ep/\h.get? a=!o/\∀x∈w,∀ob,s.heap.get? x.2.1=!ob->h.get? x.2.1=!ob),(λi j=>HT.lexLt (S i) (S j)),rfl,?W,⟨⟨_,Ë _ rfl,rfl,rfl⟩,Ã _ N,λx _ ob e=>Ã _ e⟩,?lt,R,?cmp,λv M tk hv kp=> ?fin⟩)
 case lt=>
  intro b hb;rw[show(s.heap.push {cls:=.type "dict_keyiterator",data:=.fields ([.ref a,.int 0 0,.int Y.size 0,.int ep 0].toArray)}).objs.size=s.heap.objs.size+1 from Ĭ ..];rcases Ç.mp hb with rfl|hb
  .show Ĺ _
  rcases Ç.mp hb with rfl|hb
  .show Ī (Ê N)
  let#[x,D,rfl]:=Zl.mp hb;let#[i,F]:=ü.mp D;let#[p,t,_]:=d F;let#[g,#[ob,E,_],_]:=n F t;show Ī (Ê E)
 case cmp=>
  rintro m i j x y U Q' Z ⟨_,_,hk⟩ ⟨x',f,rfl⟩ ⟨y',hy,rfl⟩ J;let#[p1,O,_]:=d f;let#[p2,P,_]:=d hy;let#[i1,#[o1,g1,r1],n1]:=n f O;let#[i2,#[o2,g2,r2],n2]:=n hy P;dsimp only at J;rw[B O,B P]at J;show HT.xX (A:=X.A.in1) #[o1,hk x' (Yf f) _ g1,r1] #[o2,hk y' (Yf hy) _ g2,r2] n1 n2 (by change X.A.units+1<cLine;show hu) J
 case W=>
  have na:a≠s.heap.objs.size:=ã (Ê N);have nx:∀x∈w,x.2.1≠s.heap.objs.size:=λx D=>by
   let#[i,F]:=ü.mp D;let#[p,t,_]:=d F;let#[g,#[ob,E,_],_]:=n F t;show ã (Ê E)
  show#[λb hb=>by rw[Zs.mp hb];show É,λi h M l k=>#[l.1.at λob e=>k _ É ob e,k a (Ì _ É) _ l.2.1,λx D ob e=>k _ (Ì _ (Ì _ (Zl.mpr #[x,D,rfl]))) _ (l.2.2 x D ob e)],λi U Q' Z F l J=>?_,λU Q' Z l J=>?_,λi U Q' Z l hq=>wpAny_pyIter_keyiter l.1 hq]
  .show vX (I.ok.hd hc) l.1 l.2.1 L () λM a1 a2=>J _ M U.toks ?_ #[a1,(a2.2 a na).trans l.2.1,λx D ob e=>(a2.2 _ (nx x D)).trans (l.2.2 x D ob e)] λb ob hb e=>(a2.2 b λz=>hb (by rw[z];simp)).trans e
   have f:w[i]?=!(w[i]'(by rfl')):=Qr ();show#[_,f,?_];have:Y.toList[i]?=!(entryOfKey (tupleKind (bf X.prog X.w)) (w[i]'(by rfl'))):=by rw[he,Jn,f];rfl
   rw[û,ā ()]at this;rw[ß this];rfl
  .show An (I.ok.hd hc) l.1 l.2.1 L () λM eb=>J M U.toks λb ob hb e=>eb b ob (λz=>hb (by rw[z];simp)) e
 case fin=>
  let#[x,f,rfl]:=hv;let#[p,t,e2]:=d f;let#[b1,b2]:=wI S (↑c-1);show#[.ref x.2.1,H,I.kept (t':=tk) λb ob e=>kp b ob (λz=>?_) (Ã _ e),rfl,q _ _ e2 (Zl.mpr #[p,Yf t,rfl]) λk' mk=>?_]
  .show absurd (Zs.mp z) (ã (Ê e))
  .obtain ⟨p',C,rfl⟩:=Zl.mp mk;let#[j,hj]:=ü.mp C;have af:=(À.mp hj).1;have:=b2 j ();rw[B hj,B t]at this;show this
end L2
end
section
namespace Nk
open PySem PySem.Spec PyProof PyProof.Rows
mutual
def Ba:PyData->PyData->ϑ
 |.int a,.int b=>decide (a<b)
 |.str x,.str y=>decide (x.cps.toList<y.cps.toList)
 |.tuple xs,.tuple ys=>rD xs ys
 |_,_=>false
def rD:ϊ PyData->ϊ PyData->ϑ
 |[],[]=>false
 |[],_::_=>true
 |_::_,[]=>false
 |x::xs,y::ys=>if PyData.eqv x y=true then rD xs ys else Ba x y
end
mutual
inductive CmpD:PyData->PyData->Prop where
 |int (a b:Int):CmpD (.int a) (.int b)
 |str (x y:ϐ):CmpD (.str x) (.str y)
 |tup {xs ys:ϊ PyData}:CmpDs xs ys->CmpD (.tuple xs) (.tuple ys)
inductive CmpDs:ϊ PyData->ϊ PyData->Prop where
 |nil {ys:ϊ PyData}:CmpDs [] ys
 |over {xs:ϊ PyData}:CmpDs xs []
 |cons {x y:PyData} {xs ys:ϊ PyData}:CmpD x y->CmpDs xs ys->CmpDs (x::xs) (y::ys)
end
section
def Hi(r:ReadsAll h c ds d):↑c=↑ds:=by
 induction c generalizing ds d with
 |nil=>cases r;rfl
 |cons v c ih=>
  cases r with
  |cons a b=>show Ý (· +1) (ih b)
def Ur{m:Nat}{h:Type}{f:ϋ×ϋ->h->Sem (ForInStep h)}{i:h}{g:ϑ->h}
  (r:∀x y d e j k (Q:ForInStep h->ώ->Prop),d.depth<=m->Reads s.heap x d j->Reads s.heap y e k->CmpD d e->PyData.canLay0 d=true->PyData.canLay0 e=true->(if PyData.eqv d e=true then Q (.yield i) s else Q (.done (g (Ba d e))) s)->wpAny (model prog w) A (f (x,y) i) Q E s):
  ∀(xs ys:ϊ ϋ)(ds es:ϊ PyData)(j k:ϊ ό)(Q:h->ώ->Prop),PyData.depthAll ds<=m->ReadsAll s.heap xs ds j->ReadsAll s.heap ys es k->CmpDs ds es->PyData.canLayAll0 ds=true->PyData.canLayAll0 es=true->
   (rD ds es=decide (↑ds<↑es)->Q i s)->Q (g (rD ds es)) s->wpAny (model prog w) A (forIn (xs.zip ys) i f) Q E s:=by
 intro xs;induction xs with
 |nil=>
  intro ys ds es j k Q p o q c l n a b
  cases o;rw[List.zip_nil_left,Ũ];show Á (a ?_)
  cases es<;>simp[rD]
 |cons x xs ih=>
  intro ys ds es j k Q p o q c l n a b
  cases o with
  |cons r1 r2=>
   cases q with
   |nil=>
    rw[List.zip_nil_right,Ũ];show Á (a (by simp[rD]))
   |cons k1 k2=>
    cases c with
    |cons c1 c2=>
     simp only[PyData.canLayAll0,Ă]at l n;simp only[PyData.depthAll]at p;rw[Κ,ý];show Zp (r _ _ _ _ _ _ _ () r1 k1 c1 l.1 n.1 ?_);rw[rD]at a b;split
     .rename_i e;rw[if_pos e]at a b;show ih _ _ _ _ _ Q () r2 k2 c2 l.2 n.2 (λz=>a (by rw[z];show decide_eq_decide.mpr (by simp))) b
     .rename_i e;rw[if_neg e]at b;show Á b
def Q7:∀(n:Nat)(d e:PyData)(A:ϖ)(a b:ϋ)(l o:ϊ ό)(Q:϶)(E:϶),d.depth<=n->CmpD d e->Reads s.heap a d l->Reads s.heap b e o->PyData.canLay0 d=true->PyData.canLay0 e=true->A.units+n+1<cLine->Q (.bool (Ba d e)) s->wpAny (model prog w) A (richCompare .Lt a b) Q E s:=by
 intro n;induction n with
 |zero=>
  intro d e A a b l o Q E q c h k t u H f
  cases c with
  |int i j=>
   cases h;cases k;show wpAny_lt_int (A:=A) (Q:=Q) f
  |str x y=>
   cases h;cases k;show lt_str (A:=A) (Q:=Q) f
  |tup c=>simp[PyData.depth]at q
 |succ n ih=>
  intro d e A a b l o Q E q c h k t u H f
  cases c with
  |int i j=>
   cases h;cases k;show wpAny_lt_int (A:=A) (Q:=Q) f
  |str x y=>
   cases h;cases k;show lt_str (A:=A) (Q:=Q) f
  |tup c=>
   cases h with
   |tuple e1 c1 d1 r1=>
    cases k with
    |tuple e2 c2 d2 r2=>
     change Q (.bool (rD _ _)) s at f;simp only[PyData.depth]at q;simp only[PyData.canLay0]at t u;show wpAny_richCompare_same_room (op:=.Lt) #[_,e1,c1] #[_,e2,c2] υ
      (ò υ #[_,e1,c1] PySem.F.entry_tuple_lt ?_ (PySem.F.args_tuple_lt_2 _ _)) ()
     change wpAny _ _ (isInstance (.ref _) (.type "tuple")>>=_) _ _ s;show Zp (ŧ #[_,e2,c2] Ŷ ?_);simp only[Ę,ä,Ć];show Zp (ŭ e1 d1 ?_);show Zp (ŭ e2 d2 ?_);show Zp ?_;show Ur (m:=n) (g:=λb=>#[!(.done (.ret (.bool b))),#[]]) ?_ _ _ _ _ _ _ _ () r1 r2 c t u ?_ ?_
     .intro x y d e l o I G C D F v B r;show Zp (SeqAt.eqBoolOverData _ _ _ _ _ _ _ _ _ _ _ _ C D v B (by change A.units+1+_<cLine;rfl') ?_);split at r
      .rename_i p;rw[p];simp only[Ę,ä,Ć];show Á r
      .rename_i p;rw[ξ.mpr p];simp only[Bool.not_false,ľ];show Zp (ō (Zp ?_));show ih _ _ _ _ _ _ _ _ _ G F C D v B (by change A.units+1+n+1<cLine;rfl') ?_;show Zp (Á (Á r))
     .intro z;rw[z]at f;rw[<-Hi r1,<-Hi r2]at f;show Á #[_,rfl,(λe=>nomatch e),f]
     .show Á #[_,rfl,(λe=>nomatch e),f]
end
end Nk
namespace L2
open PySem PySem.Spec PyProof PyProof.Rows Nk
def uC(K:Ϗ):ϊ V->Hp->VK->Prop:=λxs H Q=>∃(a:ό)(us:ϊ (V×PyData))(f:PyData->Int),xs=[.ref a]/\SqL K H a (us.map (·.1))/\us≠[]/\
 (∀u∈us,Dp K H u.1 u.2/\u.2.canLay0=true/\u.2.depth<=8)/\(∀u∈us,∀v∈us,CmpD u.2 v.2/\(Ba u.2 v.2=true->f u.2<=f v.2)/\(Ba u.2 v.2=false->f v.2<=f u.2))/\
 ∀u∈us,(∀v∈us,f u.2<=f v.2)->Q u.1 H
theorem wJ{bt:Nat->Nat->ϑ}{f:Nat->Int}{n:Nat}(h:∀i j,i<n->j<n->(bt i j=true->f i<=f j)/\(bt i j=false->f j<=f i)):∀k,k<n->argBest bt k<=k/\∀j,j<=k->f (argBest bt k)<=f j
 |0,_=>#[Nat.le_refl _,λj a=>by rw[Nat.le_zero.mp a];show Int.le_refl _]
 |k+1,hk=>by
  let#[g,c]:=wJ h k ();let#[d,e]:=h (k+1) (argBest bt k) hk ();rw[argBest];split
  .rename_i b;show#[Nat.le_refl _,λj a=>?_];rcases Ν a with a|rfl
   .show Int.le_trans (d b) (c j ())
   .show Int.le_refl _
  .rename_i b;show#[(),λj a=>?_];rcases Ν a with a|rfl
   .show c j ()
   .show e (ξ.mpr b)
def yI{X:Cx}(hc:X.calm=true)(hu:X.A.units+12<cLine):bU X (.builtin "min") (uC X.K):=by
 intro al s σ H xs ap Q I rv h;let#[a,D,f,rfl,hx,ac,U,C,q]:=h;let#[u,rfl,ru]:=rv.one
 cases(show u=Value.ref a from ru);let#[c,r,ht,hz]:=I.list hx;have P:↑D=↑c:=by have:=↑r;rw[Qb]at this;show this
 have ai:0<↑D:=ņ.mpr ac;have g:∀{i:Nat}{v:ϋ},c[i]?=!v->∃u∈D,D[i]?=!u/\RelV u.1 v/\∃Z,Reads s.heap v u.2 Z:=λ{i v} M=>by
  have O:i<↑D:=by rw[P];show(À.mp M).1
  let#[u,F]:∃u,D[i]?=!u:=#[_,Qr O];have hm:=Yf F;let#[v',e',t]:=r.get (i:=i) (x:=u.1) (by rw[Jn,F];rfl);rw[M]at e'
  cases e';show#[u,hm,F,t,(U u hm).1.reads I t]
 let#[J,d]:∃J:Nat->PyData,∀{i u},D[i]?=!u->J i=u.2:=#[λi=>((D[i]?).map λp=>p.2).getD .none,λ{i u} hp=>by dsimp only;rw[hp];rfl];have R:a<s.heap.objs.size:=by let#[_,e,_]:=ht.isList;show Ê e
 have ab:a≠s.heap.objs.size:=ã R;have S:c.toArray.size=↑c:=Ø;have W:=Walks.list (prog:=X.prog) (w:=X.w) (A:=X.A.in1) (I.ok.hd hc) s.heap.objs.size a ab c.toArray;show Hg (Ψ ht.isList #[s.heap.objs.size,List.range (s.heap.objs.size+1),[s.heap.objs.size],↑c,(λi v=>c[i]?=!v),(λi h=>(h.IsListIter s.heap.objs.size a i/\h.IsList a c.toArray)/\∀b o,s.heap.get? b=!o->h.get? b=!o),(λi j=>Ba (J i) (J j)),rfl,?W,#[#[#[_,Ë _ rfl,rfl,rfl],ht.isList.push _],λb o e=>Ã _ e],?lt,(),?cmp,?fin])
 case lt=>
  intro b hb;rw[show(s.heap.push {cls:=.type "list_iterator",data:=.fields ([.ref a,.int 0 0].toArray)}).objs.size=s.heap.objs.size+1 from Ĭ ..];show ñ.mp hb
 case cmp=>
  rintro m i j x y N L K ⟨_,hk⟩ hx hy l;let#[u,T,G,_,Z,ra]:=g hx;let#[v,mv,ad,_,bs,rb]:=g hy;dsimp only at l;rw[d G,d ad]at l;show Q7 8 u.2 v.2 _ x y Z bs _ _ (U u T).2.2 (C u T v mv).1 (Reads.keeps hk ra) (Reads.keeps hk rb) (U u T).2.1 (U v mv).2.1 (by change X.A.units+1+8+1<cLine;rfl') l
 case W=>
  have ag:∀{h E:ϒ},(∀b o,s.heap.get? b=!o->h.get? b=!o)->(∀b o,b∉[s.heap.objs.size]->h.get? b=!o->E.get? b=!o)->∀b o,s.heap.get? b=!o->E.get? b=!o:=λh1 h2 b o e=>h2 b o (λz=>by
   rw[Zs.mp z]at e;show Ĉ _ (Ê e)) (h1 b o e)
  show#[λb hb=>by rw[Zs.mp hb];show ñ.mpr (Ĺ _),λi h E B k=>#[W.frame i h E B.1 λb hb o e=>k b (ñ.mpr ?_) o e,λb o e=>k b (ñ.mpr (Ī (Ê e))) o (B.2 b o e)],λi N L K O B l=>W.item i N L K (by rw[S];show O) B.1 λv E tk M ah k=>l v E tk (by rw[<-ψ];show M) #[ah,ag B.2 k] k,λN L K B l=>W.done N L K (by rw[S];show B.1) l,λi N L K B l=>W.self i N L K B.1 l];rcases Ç.mp hb with rfl|hb
  .show Ĺ _
  .rw [Zs.mp hb];show Ī R
 case fin=>
  intro v E tk M kp;let#[u,T,G,t,_]:=g M;let#[b1,b2]:=wJ (bt:=λi j=>Ba (J i) (J j)) (f:=λi=>f (J i)) (n:=↑c) (λi j O Y=>by
   let#[x,mx,ae,_]:=g (Qr O);let#[y,my,af,_]:=g (Qr Y);rw[d ae,d af];show(C x mx y my).2) (↑c-1) ()
  show#[u.1,H,I.kept (t':=tk) λb ob e=>kp b ob (λz=>?_) (Ã _ e),t,q u T λx mx=>?_]
  .rw [Zs.mp z]at e;show Ĉ _ (Ê e)
  .obtain ⟨j,Y⟩:=ü.mp mx;have am:=(À.mp Y).1;have:=b2 j ();rw[d Y,d G]at this;show this
def wK{X:Cx}(K:Ϗ)(a:X.K=K)(b:X.calm=true)(c:X.A.units+12<cLine):bU X (.builtin "min") (uC K):=a▸yI b c
end L2
end
section
namespace L2
open PySem PySem.Spec PyProof.Rows Nk
variable{i k:Nat}{c v:ϋ}{a:ό}
section
variable{X:Cx}
theorem Q8(t:A.units+2<cLine)(I:Inv X pins σ H s)(g:SGet H a y o)(q:RelV y u)(h:∀f s',Inv X pins σ H s'->RelV (o.getD .non) f->Q f s'):wpAny (model X.prog X.w) A (call (.builtin "dict.get") [.ref a,u]) Q E s:=by
 let#[p,k,b,e,n,j,i,l]:=g;subst j
 cases(show u=Value.ref b from q);let#[z,m,r,c,d]:=sZ I.hok e n;show call_meetsIn ő d.typeIs δ (PySem.F.args_dict_get_2 _ _) (meetsH_dict_get (jz X.prog X.w) a b m) #[(show A.units+1+1<cLine by rfl'),k,r,sY I.hok i,d,h _ _ (I.tok _) ?_];rw[l];show(c.val k).getD rfl
end
abbrev Hj(td ty:TE):TE:=λσ H Q=>td σ H λx H1=>∃a kvs,x=.ref a/\Rd H1 a (cB a kvs)/\ty σ H1 λy H2=>∃o,SGet H2 a y o/\Q (o.getD .non) H2
theorem Hk{X:Cx}{c:Pos}{q:TE}(E:X.A.units+2<cLine)(D:PE X o p)(C:PE X e q)(m:M1 X o "get" b e c):PE X (.Call (.Attribute o "get" b) [e] [] c) (Hj p q):=by
 intro f s r H Q I h;show ε m.base m.few m.line Ĥ ő PySem.F.type_dict_get (bA (D f s r H _ I h) λu M ob=>?_);let#[x,t,j,K,a,F,B,d,G]:=ob;subst B;obtain rfl:u=Value.ref a:=K;let#[#[_,lo,_,_,n,P,O,k,l,R,_],_]:=Rk j.hok d;show#[#[n,k,l.1],λN A=>by cases A;show#[n,k,l.2.1],?_];rw[m.trees];show ċ rfl (Ś (Ģ (bA (C f M r t _ j G) λS T ob=>?_)));let#[y,v,w,L,ov,g,J]:=ob;show ř ?_;show Q8 E w g L λW U z i=>#[_,v,z,i,J]
def qi(K:Ϗ):ϊ V->Hp->VK->Prop:=λxs H Q=>∃(a:ό)(ss:ϊ ϐ),xs=[.ref a]/\SqT K H a (ss.map V.str)/\ss≠[]/\∀s∈ss,Q (.str s) H
section
variable{X:Cx}{s:ώ}{a:ό}{ss:ϊ ϐ}{its:ϊ ϋ}
theorem jN(r:Vals (ss.map V.str) its)(h:its[i]?=!v):∃x t,ss[i]?=!x/\v=.str x t:=by
 have d:i<↑ss:=by
  have:=↑r;rw[Qb]at this;rw[this];show(À.mp h).1
 let#[x,c]:∃x,ss[i]?=!x:=#[_,Qr d];let#[e,b,a]:=r.get (i:=i) (x:=.str x) (by rw[Jn,c];rfl);rw[h]at b
 cases b;let#[t,rfl]:=a;show#[x,t,c,rfl]
theorem Bb{a:ϒ}{d:Data}(f:∀b o,b∉[s.heap.objs.size]->(s.heap.push {cls:=c,data:=d}).get? b=!o->a.get? b=!o):∀b o,s.heap.get? b=!o->a.get? b=!o:=λb o e=>by
 show f b o (λg=>?_) (Ã _ e);rw[Zs.mp g]at e;show Ĉ _ (Ê e)
end
theorem Du{X:Cx}(C:X.calm=true):bU X (.builtin "min") (qi X.K):=by
 intro w s Y H W S Q I L h;let#[a,g,rfl,J,k,q]:=h;let#[u,rfl,K]:=L.one
 cases(show u=Value.ref a from K);let#[b,r,p,R]:=I.tuple J;have n:↑g=↑b:=by have:=↑r;rw[Qb]at this;show this
 have o:0<↑g:=ņ.mpr k;have m:s.heap.IsTuple a b.toArray:=p;have f:a<s.heap.objs.size:=by let#[_,e,_]:=p;show Ê e
 show call_min_walk (ĵ m ⟨_,[_,a],[_],_,_,_,λi j=>decide (((g[i]?).getD default).cps.toList<((g[j]?).getD default).cps.toList),rfl,Walks.tuple (A:=X.A.in1) (I.ok.hd C) _ a (ã f) b.toArray,
  ⟨⟨_,Ë _ rfl,rfl,rfl⟩,m.push _⟩,λc hcc=>?_,by simpa using (show 0<↑b by rfl'),λi j T U z O N D E h=>?_,λv P M B G=>?_⟩)
 .show c<(s.heap.push _).objs.size;rw[Ĭ];rcases Ç.mp hcc with rfl|hcc
  .show Ĺ _
  .rw [Zs.mp hcc];show Ī f
 .obtain ⟨x,t,d,rfl⟩:=jN r (by simpa using D);let#[y,t',l,rfl]:=jN r (by simpa using E);dsimp only at h;rw[d,l]at h;show richCompare_gives (op:=.Lt) (typeIs_str z x t) (typeIs_str z y t') F.slot_str_lt F.entry_str_lt (F.args_str_lt_2 _ _) (gives_str_lt x y t t') (λx=>nomatch x) h
 .obtain ⟨x,t,d,rfl⟩:=jN r (by simpa using B);show#[.str x,H,I.kept (t':=M) (Bb G),#[t,rfl],q x (Yf d)]
theorem Dv{X:Cx}(C:X.calm=true):bU X (.builtin "max") (qi X.K):=by
 intro w s Y H W S Q I L h;let#[a,g,rfl,J,k,q]:=h;let#[u,rfl,K]:=L.one
 cases(show u=Value.ref a from K);let#[b,r,p,R]:=I.tuple J;have n:↑g=↑b:=by have:=↑r;rw[Qb]at this;show this
 have o:0<↑g:=ņ.mpr k;have m:s.heap.IsTuple a b.toArray:=p;have f:a<s.heap.objs.size:=by let#[_,e,_]:=p;show Ê e
 show call_max_walk (ĵ m ⟨_,[_,a],[_],_,_,_,λi j=>decide (((g[j]?).getD default).cps.toList<((g[i]?).getD default).cps.toList),rfl,Walks.tuple (A:=X.A.in1) (I.ok.hd C) _ a (ã f) b.toArray,
  ⟨⟨_,Ë _ rfl,rfl,rfl⟩,m.push _⟩,λc hcc=>?_,by simpa using (show 0<↑b by rfl'),λi j T U z O N D E h=>?_,λv P M B G=>?_⟩)
 .show c<(s.heap.push _).objs.size;rw[Ĭ];rcases Ç.mp hcc with rfl|hcc
  .show Ĺ _
  .rw [Zs.mp hcc];show Ī f
 .obtain ⟨x,t,d,rfl⟩:=jN r (by simpa using D);let#[y,t',l,rfl]:=jN r (by simpa using E);dsimp only at h;rw[d,l]at h;show richCompare_gives (op:=.Gt) (typeIs_str z x t) (typeIs_str z y t') F.slot_str_gt F.entry_str_gt (F.args_str_gt_2 _ _) (gives_str_gt x y t t') (λx=>nomatch x) h
 .obtain ⟨x,t,d,rfl⟩:=jN r (by simpa using B);show#[.str x,H,I.kept (t':=M) (Bb G),#[t,rfl],q x (Yf d)]
def yJ{X:Cx}(K:Ϗ)(a:X.K=K)(b:X.calm=true):bU X (.builtin "min") (qi K):=a▸Du b
def yK{X:Cx}(K:Ϗ)(a:X.K=K)(b:X.calm=true):bU X (.builtin "max") (qi K):=a▸Dv b
def Em(K:Ϗ)(H:Hp)(a:ό)(xs:ϊ V):ϑ->Prop
 |true=>SqL K H a xs
 |false=>SqT K H a xs
def Xm(h:ϒ)(a:ό)(xs:ϔ ϋ):ϑ->Prop
 |true=>h.IsList a xs
 |false=>h.IsTuple a xs
def Yg:ϑ->String
 |true=>"list_iterator"
 |false=>"tuple_iterator"
abbrev itO(q:ϑ)(l:ό):Obj:={cls:=.type (Yg q),data:=.fields ([.ref l,.int 0 0].toArray)}
def Yh(h:ϒ)(i l:ό)(k:Nat)(q:ϑ):Prop:=∃o,h.get? i=!o/\o.cls=.type (Yg q)/\o.data=.fields ([.ref l,.int k 0].toArray)
theorem yL{X:Cx}(I:Inv X pins σ H s):∀{q:ϑ},Em X.K H a b q->∃its,Vals b its/\Xm s.heap a its.toArray q
 |true,h=>by let#[its,r,p,_]:=I.list h;show#[its,r,p.isList]
 |false,h=>by let#[its,r,p,_]:=I.tuple h;show#[its,r,p]
theorem Bc{i:ό}(a:l≠i):∀{q:ϑ},Drw prog w i l b λk h=>Yh h i l k q/\Xm h l b q
 |true=>Gx a
 |false=>PB a
theorem Hl:∀{q:ϑ},Xm h a b q->∃o,h.get? a=!o/\(o.cls=.type "list"\/o.cls=.type "tuple")/\(q=true->o.cls=.type "list")
 |true,⟨o,e,c,_⟩=>#[o,e,.inl c,λ_=>c]
 |false,⟨o,e,c,_⟩=>#[o,e,.inr c,λz=>by cases z]
def Us(K:Ϗ)(a b:ό)(q:ϑ):It:=
 ⟨λi H=>∃xs ys x y,SqT K H a xs/\Em K H b ys q/\xs[i]?=!x/\ys[i]?=!y,
  λi H v H'=>∃p x y,H p=none/\v=.ref p/\H'=upd H p (.tup [x,y])/\(∀xs,SqT K H a xs->xs[i]?=!x)/\∀ys,Em K H b ys q->ys[i]?=!y,
  λi H=>∃xs ys,SqT K H a xs/\Em K H b ys q/\(↑xs<=i\/↑ys<=i)⟩
structure ZipStG(z TI TO i1 i2 a b:ό)(q:ϑ)(i:Nat)(h:ϒ):Prop where
 hz:IsZip h z TI TO .none
 hTI:IsPair h TI (.ref i1) (.ref i2)
 hTO:∃u v,IsPair h TO u v
 h1:Yh h i1 a i false
 h2:Yh h i2 b i q
 aTO:a≠TO
 bTO:b≠TO
theorem Q9{X:Cx}{c:ϊ V}(I:Inv X pins σ H s):∀{q:ϑ},Em X.K H a b q->Em X.K H a c q->b=c
 |true,h,h'=>I.list_inj h h'
 |false,h,h'=>I.tuple_inj h h'
theorem qj{h:ϒ}{b TI TO:ό}{C:ϔ ϋ}(D:ZipNe z TI TO i1 i2)(w:h.IsTuple a C)(x:Xm h b ys q)(B:ZipStG z TI TO i1 i2 a b q i h):ZipApart z TI TO i1 i2 a b:=by
 let#[r,u,#[H,v0,v],#[E,o,m,_],#[F,p,n,_],d,f]:=B;let#[G,j,g,_]:=w;let#[ob,k,t,_]:=Hl x;have l:∀T:String,T≠"list"->T≠"tuple"->ob.cls≠.type T:=λT y A e=>by
  rcases t with c|c<;>rw[c]at e<;>cases e
  .show y rfl
  .show A rfl
 have s:∀q,Yg q≠"list"/\Yg q≠"tuple"/\Yg q≠"zip":=λq=>by cases q<;>decide
 show⟨D.TIz,D.TOz,D.i1z,D.i2z,D.TITO,D.TIi1,D.TIi2,D.TOi1,D.TOi2,D.i12,
  mU j r (by rw[g];change Value.type "tuple"≠Value.type "zip";decide),d,mU j o (by rw[g,m];decide),mU j p (by rw[g,n];cases q<;>decide),
  mU k r (l "zip" (by decide) (by decide)),f,mU k o (by rw[m];show l _ (by decide) (by decide)),mU k p (by rw[n];show l _ (s q).1 (s q).2.1)⟩
theorem Dw{P:ϓ}{K:Ϗ}{TI TO:ό}(a b:ό)(D:ZipNe z TI TO i1 i2):
  Turn P w K (.Tuple elts k tpos) (Us K a b q) [z,TI,TO,i1,i2] z (ZipStG z TI TO i1 i2 a b q)where
 mem:=by simp
 obj:=λi h j c J=>by
  let#[r,f,#[u,v,g],#[M,B,c1,d1],#[N,C,c2,d2],_]:=j;simp only[Ç,Þ,ć]at J;rcases J with rfl|rfl|rfl|rfl|rfl
  .show #[_,r,λv z=>by cases z]
  .show #[_,f,λv z=>by cases z]
  .show #[_,g,λv z=>by cases z]
  .show #[M,B,λv z=>by rw[d1]at z;cases z]
  .show #[N,C,λv z=>by rw[d2]at z;cases z]
 keep:=λi h h' j t=>by
  let#[r,f,#[u,v,g],#[M,B,r1],#[N,C,r2],n1,n2]:=j;show#[t z (by simp) _ r,t TI (by simp) _ f,#[u,v,t TO (by simp) _ g],#[M,t i1 (by simp) _ B,r1],#[N,t i2 (by simp) _ C,r2],n1,n2]
 item:=by
  intro X hP hw hK J i T s σ H E I hf j hg;subst hP hw hK;let#[xs,ys,x,y,l,m,hx,hy]:=hg;let#[F,rv,p,_]:=I.tuple l;let#[R,G,S]:=yL I m;have A:=qj D p S j;let#[u,hu,ru]:=rv.get hx;let#[v,hv,ae]:=G.get hy;let#[r,f,#[u0,v0,g],Z,h2,ab,ac]:=id j;show sW (I.ok.hd J) A (Bc (q:=false) A.l1i1) (Bc (q:=q) A.l2i2) r f g #[Z,(show s.heap.IsTuple a F.toArray from p)] #[h2,S] (λu' v' U Y h' a1 a2 a3 a4 a5 a7=>?_) λn=>by simp[hu,hv]at n
  simp only[ψ,hu,hv]at U Y
  cases U
  cases Y;show#[_,rfl,wpAny_letOwnedTupleGo_zip a1 λO b1 L=>?_];have hT:s.heap.objs.size≠z:=ę (Ê r);have t:∀c o,c∉[z,TI,TO,i1,i2]->s.heap.get? c=!o->O.get? c=!o:=λc o d e=>by
   simp only[Ç,Þ,ć,not_or]at d;show L.extBut _ _ d.1 (a7 c o d.1 d.2.2.1 d.2.2.2.1 d.2.2.2.2 e)
  have e5:O.get? s.heap.objs.size=!{cls:=.type "tuple",data:=.seq ([u,v].toArray)}:=L.extBut _ _ hT a5;let#[Q,I2]:=I.yields (t':=s.toks) t hf ru ae e5;let#[#[M,B,r1],_]:=a3;let#[#[N,C,r2],_]:=a4;show#[.ref s.heap.objs.size,_,I2,rfl,#[_,x,y,Q,rfl,rfl,λai h=>by rw[I.tuple_inj h l];show hx,λal h=>by rw[Q9 I h m];show hy],#[b1,L.extBut _ _ D.TIz (a7 _ _ D.TIz D.TITO D.TIi1 D.TIi2 f),#[u,v,L.extBut _ _ D.TOz a2],#[M,L.extBut _ _ D.i1z B,r1],#[N,L.extBut _ _ D.i2z C,r2],ab,ac],λc d=>?_];have ad:c<s.heap.objs.size:=by
   let#[#[M,B,_],#[N,C,_]]:=(#[Z,h2]:_/\_);simp only[Ç,Þ,ć]at d;rcases d with rfl|rfl|rfl|rfl|rfl
   .show Ê r
   .show Ê f
   .show Ê g
   .show Ê B
   .show Ê C
  rw[ao (ã ad)];show(hf c d).1
 done:=by
  intro X hP hw hK J i T s σ H E I hf j hg;subst hP hw hK;let#[xs,ys,l,m,af]:=hg;let#[F,rv,p,_]:=I.tuple l;let#[R,G,S]:=yL I m;have A:=qj D p S j;let#[r,f,#[u0,v0,g],Z,h2,_]:=id j;have ag:=↑rv;have ah:=↑G;show sW (I.ok.hd J) A (Bc (q:=false) A.l1i1) (Bc (q:=q) A.l2i2) r f g #[Z,(show s.heap.IsTuple a F.toArray from p)] #[h2,S] (λu' v' U Y=>?_) λ_ h' t=>?_
  .have:=(À.mp (by simpa using U)).1;have:=(À.mp (by simpa using Y)).1;rfl'
  .show #[rfl,I.turnedAll (t':=s.toks) (λc o d e=>?_) hf];simp only[Ç,Þ,ć,not_or]at d;show t c o d.1 d.2.2.1 d.2.2.2.1 d.2.2.2.2 e
 self:=λ_ _ _ _ _ j h=>wpAny_pyIter_zip j.hz h
theorem wL(a b:ό)(o j:ϔ ϋ)(q:ϑ):
  Meets (Builtin.«zip.__new__» #[[.type "zip",.ref a,.ref b],[]]) (λ_ R s=>s.heap.IsTuple a o/\Xm s.heap b j q/\
   R (.ok (.ret (.ref (zo4 s.heap (wu a) (itO q b)).objs.size))) {s with heap:=Xl s.heap (wu a) (itO q b)}):=
 .of_wp λn w A R s h=>by
  let#[e,g,d,i,f]:=s;let#[p,m,h]:=h;have l:=sub_zip;have k:Heap.IsTuple (Shared.heap ⟨e,g,d,i,f⟩) a o:=p
  cases q with
  |true=>
   have c:Heap.IsList (Shared.heap ⟨e.push (wu a),g,d,i,f⟩) b j:=Heap.IsList.push m _
   wp_walk using ĵ k,Ψ c
   show#[_,rfl,h]
  |false=>
   have c:Heap.IsTuple (Shared.heap ⟨e.push (wu a),g,d,i,f⟩) b j:=Heap.IsTuple.push m _
   wp_walk using ĵ k,ĵ c
   show#[_,rfl,h]
theorem yM{s:ώ}{b d:ό}{p:ϔ ϋ}(z:s.heap.IsTuple b p)(B:Xm s.heap d ys q)
  (h:∀h',IsZip h' (s.heap.objs.size+4) (s.heap.objs.size+2) (s.heap.objs.size+3) .none->IsPair h' (s.heap.objs.size+2) (.ref s.heap.objs.size) (.ref (s.heap.objs.size+1))->
   IsPair h' (s.heap.objs.size+3) .none .none->Yh h' s.heap.objs.size b 0 false->Yh h' (s.heap.objs.size+1) d 0 q->
   (∀c o,s.heap.get? c=!o->h'.get? c=!o)->Q (.ref (s.heap.objs.size+4)) {s with heap:=h'}):
  wpAny (model prog w) A (call (.type "zip") [.ref b,.ref d]) Q E s:=by
 show callType_new F.called_zip (by decide) (F.typeCall_zip_2 _ _) (F.newCall_zip_2 _ _) (λg=>F.args_object_init_3 g _ _) F.entry_zip_new (wL b d p ys q) #[z,B,?_];generalize hj1:wu b=j1;generalize hj2:itO q d=j2;have t:Obj.isFreed j1=false:=by rw[<-hj1];rfl
 have v:Obj.isFreed j2=false:=by rw[<-hj2];rfl
 have i:(zo1 s.heap j1).objs.size=s.heap.objs.size+1:=Ĭ ..;have j:(zo2 s.heap j1 j2).objs.size=s.heap.objs.size+2:=by rw[Ĭ,i]
 have k:(zo3 s.heap j1 j2).objs.size=s.heap.objs.size+3:=by rw[Ĭ,j]
 have r:(zo4 s.heap j1 j2).objs.size=s.heap.objs.size+4:=by rw[Ĭ,k]
 have a:∀{c o} {h:ϒ} {u:Obj},h.get? c=!o->(h.push u).get? c=!o:=λe=>Ã _ e
 have f:(Xl s.heap j1 j2).get? (zo4 s.heap j1 j2).objs.size=!_:=Ë _ rfl;have n:(Xl s.heap j1 j2).get? (zo3 s.heap j1 j2).objs.size=!_:=a (Ë _ rfl);have m:(Xl s.heap j1 j2).get? (zo2 s.heap j1 j2).objs.size=!_:=a (a (Ë _ rfl));have l:(Xl s.heap j1 j2).get? (zo1 s.heap j1).objs.size=!j2:=a (a (a (Ë _ v)));have y:(Xl s.heap j1 j2).get? s.heap.objs.size=!j1:=a (a (a (a (Ë _ t))));change _/\_;rw[j,k,r]at f;rw[i,j]at m;rw[k]at n;rw[i]at l;rw[r];show#[#[_,f,rfl],h _ f m n #[_,y,by subst hj1;rfl,by subst hj1;rfl] #[_,l,by subst hj2;rfl,by subst hj2;rfl] λc o x=>a (a (a (a (a x))))]
abbrev Ro(K:Ϗ)(ta:TA):TI:=λσ H R=>ta σ H λvs H1=>∃a b xs ys q,vs=[.ref a,.ref b]/\SqT K H1 a xs/\Em K H1 b ys q/\R (Us K a b q) H1
theorem Qa{X:Cx}{a b:Expr}(K:Ϗ)(F:X.K=K)(J:Gl X "zip")(hc:X.calm=true)(L:X.mg "zip"=none)(G:PA X [a,b] C)(M:starEach [a,b] X.env=[(false,eval a X.env),(false,eval b X.env)]:=by rfl)(j:starEach [b] X.env=[(false,eval b X.env)]:=by rfl):
  PI X (.Tuple elts k tpos) (.Call (.Name "zip" p) [a,b] [] m) (Ro K C):=by
 subst F;intro l s Z H R I h;show Call_ (gO I J L (show bootBuiltins "zip"=!(.type "zip")by ac_nf) (Ą (bA (G m l s Z H _ I h) λus d ⟨vs,E,f,P,O⟩=>?_) (by rw[M,j]) (by rw[j];rfl)));let#[x,z,xs,ys,qb,e,u,v,q]:=O;subst e
 cases P with
 |cons r rr=>
  cases rr with
  |cons r' rr=>
   cases rr
   cases r
   cases r';let#[w,rv,A,_]:=f.tuple u;let#[y,Q,B]:=yL f v;have n:x<d.heap.objs.size:=by let#[o,e,_]:=A;show Ê e
   have t:z<d.heap.objs.size:=by let#[o,e,_]:=Hl B;show Ê e
   show yM (show d.heap.IsTuple x w.toArray from A) B λh' D S T U Y N=>?_
   show wpAny_pyIter_zip D ?_;show#[d.heap.objs.size+4,[d.heap.objs.size+4,d.heap.objs.size+2,d.heap.objs.size+3,d.heap.objs.size,d.heap.objs.size+1],_,_,E,rfl,f.kept (t':=d.toks) N,Dw x z #[?_,?_,?_,?_,?_,?_,?_,?_,?_,?_],#[D,S,#[_,_,T],U,Y,ã (Ñ n (Nat.le_add_right _ _)),ã (Ñ t (Nat.le_add_right _ _))],λc g=>?_,q];all_goals first
    |(change(_:Nat)≠_;rfl')
    |skip
   have i:d.heap.objs.size<=c:=by
    simp only[Ç,Þ,ć]at g;rcases g with rfl|rfl|rfl|rfl|rfl<;>(change(_:Nat)<=_;rfl')
   show f.fpOk i (f.hok.fresh i)
end L2
namespace L2
open PySem PySem.Spec PyProof.Rows
section
variable{X:Cx}
theorem CScope.nest(d:a.kind=.function)(f:∀y∈a.names,y.2≠.cell)(g:∀y∈a.names,y.2=.local->a.names.lookup y.1=!.local)(h:∀y∈a.names,y.2=.free->c.names.lookup y.1=!.free):CScope (relabel c b) a:=⟨d,f,g,λy i e=>by
 have q:(relabel c b).names.lookup y.1=_:=fP (env:=b) (x:=y.1) (names:=c.names);rw[q,h y i e];simp-iota only[Œ];split
 .show .inl rfl
 .show .inr rfl⟩
theorem Bd(g:∀pins xe,PSs (Ud X pins xe) body tb):PS X (.Try body (h0::hs) [] [] pos) tb:=by
 intro pins s k H D I h;show wpAny_Try_except ?_;show đ (g pins _ [] s k H D (I.tryIn _) h) (λf j hs=>?_) (λe j z=>z)
 cases f with
 |next=>let#[a,b,c,d]:=hs;show Ε #[a,b,c.tryOut,d]
 |brk=>let#[a,b,c,d]:=hs;show#[a,b,c.tryOut,d]
 |cont=>let#[a,b,c,d]:=hs;show#[a,b,c.tryOut,d]
 |ret u=>let#[v,a,b,c,i,d]:=hs;show#[v,a,b,c.tryOut,i,d]
end
end L2
end
set_option linter.all false
namespace Mm
variable{k:Nat}
theorem eQ(x:Int)(m:Nat)(h:0<m):∃n:Nat,x%(m:Int)=(n:Int)/\n<m:=by
 have a:=ġ x (b:=(m:Int)) ();have c:=ĕ x (b:=(m:Int)) ();show#[(x%(m:Int)).toNat,(),()]
theorem Be(x:Int)(k:Nat):∃n:Nat,x%(2^k:Int)=(n:Int)/\n<2^k:=by
 have e:((2^k:Nat):Int)=(2^k:Int):=by simp
 rw[<-e];show eQ x (2^k) (Nat.two_pow_pos k)
def col(h:Nat)(i:Int):Nat:=(i*2862933555777941757/16%2^h).toNat
theorem Ut(h:Nat)(i:Int):i*2862933555777941757/16%2^h=(col h i:Int):=by
 let#[n,e,_]:=Be (i*2862933555777941757/16) h;unfold col;rw[e];simp
theorem Uu(h:Nat)(i:Int):col h i<2^h:=by
 let#[n,e,l]:=Be (i*2862933555777941757/16) h;unfold col;rw[e];simpa using l
theorem Qc(k:Nat):(0:Int)<1*2^k:=by
 rw[Int.one_mul];show Int.pow_pos (by decide)
theorem bM{a c:Type}(f:a->ύ c)(b:ϊ a)(x:a):(b++[x]).filterMap f=b.filterMap f++(f x).toList:=by
 rw[ω]
 cases h:f x<;>simp[h]
theorem Yi{b c:Type}(p:b->ϑ)(g:b->c)(a:ϊ b):a.filterMap (λx=>if p x=true then !(g x)else none)=(a.filter p).map g:=by
 induction a with
 |nil=>rfl
 |cons x r ih=>
  cases h:p x
  .simp [h,ih]
  .simp [h,ih]
def cellAt(ns:ϊ Int)(k:Nat):Int:=ns.getD k 0
def hgt(c:Int):Nat:=if c%2=0 then(1+c/2%6).toNat else(1+c/2%60).toNat
def Hm{h a b:Nat}(c:a<2^h)(d:b<2^h):a^^^b<2^h:=Nat.xor_lt_two_pow c d
def aY:ϊ Nat->ϊ Nat->Nat
 |x::xs,y::ys=>Bm.pop (x^^^y)+aY xs ys
 |_,_=>0
theorem wM:∀xs ys:ϊ Nat,((List.zipWith (λx y=>((Bm.pop (x^^^y):Nat):Int)) xs ys).sum:Int)=(aY xs ys:Nat)
 |[],_=>by simp[aY]
 |_::_,[]=>by simp[aY]
 |x::xs,y::ys=>by
  rw[List.zipWith_cons_cons,ĩ,wM xs ys,aY];rfl'
theorem ik:∀xs ys:ϊ Nat,aY xs ys=aY ys xs
 |[],[]=>rfl
 |[],_::_=>rfl
 |_::_,[]=>rfl
 |x::xs,y::ys=>by rw[aY,aY,ik xs ys,Nat.xor_comm]
theorem tD:∀xs:ϊ Nat,aY xs xs=0
 |[]=>rfl
 |x::xs=>by rw[aY,tD xs,Nat.xor_self,Bm.jq]
theorem wN:∀(xs ys zs:ϊ Nat),↑xs=↑ys->↑ys=↑zs->aY xs zs<=aY xs ys+aY ys zs
 |[],[],[],_,_=>by simp[aY]
 |a::xs,b::ys,c::zs,h1,h2=>by
  have d:=wN xs ys zs (by simpa using h1) (by simpa using h2);have:=Bm.Oq a b c;rw[aY,aY,aY];rfl'
 |[],_::_,_,h,_=>by simp at h
 |_::_,[],_,h,_=>by simp at h
 |_,[],_::_,_,h=>by simp at h
 |_,_::_,[],_,h=>by simp at h
theorem getD_some{z:Int}(h:a[k]?=!z):cellAt a k=z:=by
 unfold cellAt;rw[Xs,h];rfl
theorem getD_none(h:↑a<=k):cellAt a k=0:=by
 unfold cellAt;rw[Xs,ë h];rfl
def On(h n:Nat)(s:Int×Int):Prop:=0<=s.1/\s.1<n/\0<=s.2/\s.2<h
instance decOn (h n:Nat) (s:Int×Int):Decidable (On h n s):=by unfold On;show inferInstance
def jc(xs:ϊ Nat)(s:Int×Int):ϊ Nat:=xs.set s.1.toNat (xs.getD s.1.toNat 0^^^2^s.2.toNat)
def dR(xs:ϊ Nat)(ss:ϊ (Int×Int)):ϊ Nat:=ss.foldl jc xs
theorem mV(a:ϊ Nat)(s:Int×Int):↑(jc a s)=↑a:=by unfold jc;simp
theorem il:∀(ss:ϊ (Int×Int))(xs:ϊ Nat),↑(dR xs ss)=↑xs
 |[],_=>rfl
 |s::r,xs=>by
  change↑(dR (jc xs s) r)=_;rw[il r,mV]
theorem yN(b:ϊ Nat)(a:ϊ (Int×Int))(s:Int×Int):dR b (a++[s])=jc (dR b a) s:=by unfold dR;rw[Ŀ];rfl
theorem Hn{h:Nat}(b:∀x∈a,x<2^h)(d:On h ↑a s):∀x∈jc a s,x<2^h:=by
 intro x c;let#[e,f,g,i]:=d;rcases Ĳ c with q|q
 .show b x q
 .rw [q];show Hm ?_ (Nat.pow_lt_pow_right () ());rw[Xs,Qr ()];show b _ (Ó _)
theorem ql{h:Nat}:∀{ss:ϊ (Int×Int)}{xs:ϊ Nat},(∀x∈xs,x<2^h)->(∀s∈ss,On h ↑xs s)->∀x∈dR xs ss,x<2^h
 |[],_,hx,_=>hx
 |s::r,xs,hx,ho=>by
  change ∀x∈dR (jc xs s) r,_;show ql (Hn hx (ho s É)) λt a=>by rw[mV];show ho t (Ì _ a)
def gA(xs:ϊ Nat)(y:Nat):ϊ Nat:=xs.map λx=>if x.testBit y=true then 35 else 46
def Good(ls:ϊ (ϊ Nat)):Prop:=1<=↑ls/\↑ls<=60/\(∀l∈ls,↑l=↑(ls.headD []))/\∀l∈ls,∀c∈l,c=35\/c=46
def Bg(ls:ϊ (ϊ Nat))(x:Nat):Nat:=Bm.lU ((List.range ↑ls).filter λy=>decide ((ls.getD y []).getD x 0=35))
def yO(ls:ϊ (ϊ Nat)):ϊ Nat:=(List.range ↑(ls.headD [])).map (Bg ls)
def draw(h:Nat)(xs:ϊ Nat):ϊ (ϊ Nat):=(List.range h).map (gA xs)
theorem jA(h:Nat)(a:ϊ Nat):↑(draw h a)=h:=by unfold draw;simp
theorem m7(a:ϊ Nat)(y:Nat):↑(gA a y)=↑a:=by unfold gA;simp
theorem Qd(b:ϊ Nat)(y:Nat):∀c∈gA b y,c=35\/c=46:=by
 intro c a;unfold gA at a;let#[x,_,rfl]:=Zl.mp a;split
 .show .inl rfl
 .show .inr rfl
theorem Dy{h:Nat}(a:ϊ Nat)(b:1<=h):(draw h a).headD []=gA a 0:=by
 let#[k,rfl]:∃k,h=k+1:=#[h-1,()];unfold draw;rw[ζ];rfl
theorem wO{h:Nat}(a:l∈draw h b):∃y,y<h/\l=gA b y:=by
 unfold draw at a;let#[y,c,rfl]:=Zl.mp a;show#[y,by simpa using c,rfl]
theorem DG{h:Nat}(f:1<=h)(g:∀x∈a,x<2^h):yO (draw h a)=a:=by
 unfold yO;rw[Dy a f,m7];apply List.ext_getElem
 .simp
 .intro i k d;rw[õ,List.getElem_range];unfold Bg;rw[jA];have e:((List.range h).filter λy=>decide (((draw h a).getD y []).getD i 0=35))=Bm.bits h a[i]:=by
   unfold Bm.bits;apply List.filter_congr;intro y j;have b:y<h:=by simpa using j
   have c:(draw h a).getD y []=gA a y:=by
    unfold draw;rw[Xs,Jn,ž b];rfl
   rw[c];unfold gA;rw[Xs,Jn,Qr d]
   cases hb:a[i].testBit y<;>simp[hb]
  rw[e,Bm.Ov (g _ (Ó _))]
theorem yP(a:ϊ Nat)(s:Int×Int)(x:Nat)(b:s.1.toNat<↑a):(jc a s).getD x 0=if s.1.toNat=x then a.getD x 0^^^2^s.2.toNat else a.getD x 0:=by
 unfold jc;rw[Xs];by_cases h:s.1.toNat=x
 .subst h;rw[Τ b,if_pos rfl];rfl
 .rw [List.getElem?_set_ne h,if_neg h,Xs]
theorem tE{h:Nat}(x y:Nat):∀(ss:ϊ (Int×Int))(xs:ϊ Nat),(∀s∈ss,On h ↑xs s)->
  ((dR xs ss).getD x 0).testBit y=((xs.getD x 0).testBit y^^decide (ss.count ((x:Int),(y:Int))%2=1))
 |[],xs,_=>by simp[dR]
 |s::r,xs,ho=>by
  have c:=ho s É;let#[i,j,k,l]:=c;change((dR (jc xs s) r).getD x 0).testBit y=_;rw[tE x y r (jc xs s) (λt d=>by rw[mV];show ho t (Ì _ d)),yP xs s x (),List.count_cons];have e:(s==((x:Int),(y:Int)))=true↔s.1.toNat=x/\s.2.toNat=y:=by
   rw[beq_iff_eq];constructor
   .intro e;rw[e];show#[by simp,by simp]
   .rintro ⟨f,g⟩;apply Prod.ext
    .show s.1=(x:Int);rfl'
    .show s.2=(y:Int);rfl'
  by_cases a:s.1.toNat=x
  .rw [if_pos a,Ų,Nat.testBit_two_pow];by_cases b:s.2.toNat=y
   .rw [if_pos (e.mpr #[a,b]),Ù b];rcases Ō (r.count ((x:Int),(y:Int)))with z|z
    .rw [z,show(r.count ((x:Int),(y:Int))+1)%2=1 by rfl'];cases(xs.getD x 0).testBit y<;>rfl
    .rw [z,show(r.count ((x:Int),(y:Int))+1)%2=0 by rfl'];cases(xs.getD x 0).testBit y<;>rfl
   .rw [if_neg (λq=>b (e.mp q).2),Ü b];simp
  .rw [if_neg a,if_neg (λq=>a (e.mp q).1)];simp
def m8(xs ys:ϊ Nat)(x:Nat):ϊ (Int×Int):=(Bm.bits 60 (xs.getD x 0^^^ys.getD x 0)).map λy:Nat=>((x:Int),(y:Int))
def iW(xs ys:ϊ Nat):ϊ (Int×Int):=(List.range ↑xs).flatMap (m8 xs ys)
theorem DK:s∈iW c ys↔ ∃x y:Nat,s=((x:Int),(y:Int))/\x<↑c/\y<60/\(c.getD x 0^^^ys.getD x 0).testBit y=true:=by
 unfold iW m8;rw[ó];constructor
 .rintro ⟨x,a,g⟩;let#[y,b,rfl]:=Zl.mp g;let#[d,e]:=Bm.lV.mp b;show#[x,y,rfl,by simpa using a,d,e]
 .rintro ⟨x,y,rfl,a,b,f⟩;show#[x,by simpa using a,Zl.mpr #[y,Bm.lV.mpr #[b,f],rfl]]
theorem Bh{h:Nat}{a:ϊ Nat}(b:∀x∈a,x<2^h)(i:Nat):a.getD i 0<2^h:=by
 rw[Xs];by_cases q:i<↑a
 .rw [Qr q];show b _ (Ó q)
 .rw [ë ()];show Nat.two_pow_pos h
def Lx(s t:Int×Int):Prop:=s.1<t.1\/(s.1=t.1/\s.2<t.2)
def wQ(k n:Nat):(Bm.bits k n).Pairwise (·<·):=List.Pairwise.filter _ List.pairwise_lt_range
theorem uD(f g:ϊ Nat):(iW f g).Pairwise Lx:=by
 unfold iW;rw[List.pairwise_flatMap];constructor
 .intro x _;unfold m8;rw[ŀ];show(wQ 60 _).imp λ{a b} h=>Or.inr #[rfl,?_]
  change(a:Int)<(b:Int);rfl'
 .show List.pairwise_lt_range.imp λ{a b} e s c t d=>?_
  unfold m8 at c d;let#[y,_,rfl]:=Zl.mp c;let#[z,_,rfl]:=Zl.mp d;show Or.inl ?_;change(a:Int)<(b:Int);rfl'
theorem wR(c d:ϊ Nat):(iW c d).Nodup:=(uD c d).imp λ{a b} h e=>by
 subst e;rcases h with h|⟨_,h⟩<;>rfl'
theorem DN(b:∀x∈a,x<2^60)(c:∀y∈ys,y<2^60):↑(iW a ys)=((List.range ↑a).map λx=>Bm.pop (a.getD x 0^^^ys.getD x 0)).sum:=by
 unfold iW;rw[List.length_flatMap];congr 1;apply Ā;intro x _;unfold m8;rw[Qb];show Bm.vO 60 _ (Hm (Bh b x) (Bh c x))
end Mm
section
namespace L2
open PySem
variable{x:V}{A B:Prop}{a:ό}{d:PyData}{ta:TE}{b c n:Nat}{i j k:Int}{t u:TS}{H H':Hp}{f:Int->Int->V}{R:St->Hp->Prop}{r:ϊ V}{ls:ϊ (ϊ Nat)}
def dG{a:Nat}(h:a<=b)(k:Nat.ble b c=true:=by rfl):a<=c:=Î h (Nat.le_of_ble_eq_true k)
def qcL{a:Nat}(h:(a:Int)<=b):a<=b:=Int.ofNat_le.mp h
def Uv{a:Nat}(h:(a:Int)<b):a<b:=Int.ofNat_lt.mp h
def Qe{a:Nat}(h:(a:Int)=b):a=b:=Int.ofNat.inj h
def Rp(a:Nat):(0:Int)<=a:=Ι a
def DP{a:Int}(h:0<=a):(a.toNat:Int)=a:=į h
def Yj{a:Int}(h:0<=a)(k:a<b):a.toNat<b:=()
def Xn{a:Int}(h:0<=a/\a<b):a.toNat<b:=Yj h.1 h.2
def qtC{a:Int}(h:a<b)(k:0<b):a.toNat<b:=()
def Ho{a:Nat}(h:¬a<b):b<=a:=Nat.le_of_not_lt h
def qnT{a:Nat}(h:¬a<=b):b<a:=Nat.lt_of_not_le h
def qnE{a:Nat}(h:a<=b)(k:¬a<b):a=b:=Nat.le_antisymm h (Ho k)
def qn0{a:Nat}(h:¬0<a):a=0:=Nat.eq_zero_of_not_pos h
def oG{a:Nat}(e:a=b)(h:b<=c):a<=c:=e▸h
def qfL{a:Nat}(h:a<=b)(e:c=b):a<=c:=e▸h
def En{a:Nat}(h:a<b)(e:c=b):a<c:=e▸h
def qgT{a:Nat}(h:a<b)(e:b=c):a<c:=e▸h
def Xo{a:Nat}(h:a<=b)(c:Nat):a<=b+c:=Nat.le_add_right_of_le h
def qsR{a:Nat}(h:a<=b)(c:Nat):a<=c+b:=Nat.le_add_left_of_le h
def qsT{a:Nat}(h:a<b)(c:Nat):a<b+c:=Nat.lt_add_right c h
def qmI{a:Int}(h:0<=a)(k:(-1000000000:Int)<=0:=by decide):-1000000000<=a:=Int.le_trans k h
def qmN(a:Nat):(-1000000000:Int)<=a:=qmI (Rp a)
def qp1{a:Nat}(h:0<a):a-1+1=a:=Nat.sub_add_cancel h
def qlM{a:Nat}(e:a=min b c):a<=b:=e▸Nat.min_le_left b c
def Xp{a:Nat}(h:b<=c):min a b<=c:=Î (Nat.min_le_right ..) h
def Xq{a:Nat}(h:0<a):(0:Int)<a:=Int.ofNat_lt.mpr h
def qd1{a:Nat}(h:1<=a):(1:Int)<=a:=Int.ofNat_le.mpr h
def qdE{a:Nat}(h:a=b):(a:Int)=b:=Ý _ h
def qnC{a:Nat}(h:¬(a:Int)<b):b<=a:=()
def qnD{a:Nat}(h:¬(a:Int)=b):¬a=b:=λe=>h (Ý _ e)
def qn1{a:Nat}(h:¬(0:Int)<a):a=0:=()
def Xr{a:Nat}(h:a=b+1):b<a:=h▸Ĺ b
def qkP{a:Nat}(h:a<b):b-1-a+1=b-a:=()
def qkQ{a:Nat}(h:a-b<=0)(k:b<=a):b=a:=()
def qkT{a:Nat}(h:a<=b)(k:c<=1):a+c<=b+1:=Nat.add_le_add h k
def Yk(h:B):if(not true)=true then A else B:=CN h
def Yl(h:A):if(not false)=true then A else B:=CP h
theorem dw{p:Prop}[Decidable p](a:p->A)(b:¬p->B):if decide p=true then A else B:=by
 by_cases h:p
 .rw [Ù h];show CP (a h)
 .rw [Ü h];show CN (b h)
theorem jW{p:Prop}[Decidable p](a:¬p->A)(b:p->B):if(not (decide p))=true then A else B:=by
 by_cases h:p
 .rw [Ù h];show CN (b h)
 .rw [Ü h];show CP (a h)
theorem Hq{b:ϑ}(a:b=true->A)(c:b=false->B):if b=true then A else B:=by
 cases b with
 |true=>show CP (a rfl)
 |false=>show CN (c rfl)
theorem jX{p:Prop}[Decidable p](a:p)(h:A):if decide p=true then A else B:=dw (λ_=>h) λn=>absurd a n
theorem jB{p:Prop}[Decidable p](a:¬p)(h:B):if decide p=true then A else B:=dw (λn=>absurd n a) λ_=>h
theorem gC{p:Prop}[Decidable p](a:p)(h:B):if(not (decide p))=true then A else B:=jW (λn=>absurd a n) λ_=>h
def Ym{b:Type}[DecidableEq b]{a:b}(h:A):if decide (a=a)=true then A else B:=jX rfl h
def Uw{b:Type}[DecidableEq b]{a:b}(h:B):if(not (decide (a=a)))=true then A else B:=gC rfl h
theorem Hr{p:Prop}[Decidable p](a:¬p)(h:A):if(not (decide p))=true then A else B:=jW (λ_=>h) λn=>absurd n a
theorem Same.new{a:Hp}(e:Same a H)(h:H p=none):Same a (upd H p o):=λb u q=>by rw[ao (aU (e b u q) h)];show e b u q
theorem Same.tup{K:Ϗ}{b:ϊ V}(e:Same H H')(h:SqT K H a b):SqT K H' a b:=by
 rcases h with(h|⟨o,h⟩)|h
 .show .inl (.inl (e _ _ h))
 .show .inl (.inr #[o,e _ _ h])
 .show .inr h
def jO{b:ϊ V}(h:H p=none)(q:SqL K H a b):SqL K (upd H p o) a b:=Same.seq (Same.new (Same.refl H) h) q
theorem a1c{r:St}:oE (none::r) (some v::r):=⟨rfl,λj u z=>by
 match j,z with
 |j+1,z=>show z⟩
theorem ext2{r:St}:oE (none::none::r) (some v::some w::r):=⟨rfl,λj u z=>by
 match j,z with
 |j+2,z=>show z⟩
theorem Ux(b:ϑ):(((b.toNat:Nat):Int)!=0)=b:=by cases b<;>rfl
theorem Rq(a b:Int):decide (V.int a=V.int b)=decide (a=b):=by simp
theorem yQ{a:ϊ V}(h:0<=k):gR a none (!k)=a.take k.toNat:=by
 unfold gR;change(a.drop 0).take ((if k<0 then(k+(↑a:Int)).toNat else min k.toNat ↑a)-0)=_;rw[if_neg (),ź,Nat.sub_zero];rcases Nat.le_total k.toNat ↑a with q|q
 .rw [ŕ q]
 .rw [Ŋ q,è (Ä _),è q]
theorem wU{a:ϊ V}(h:0<=k):gR a (!k) none=a.drop k.toNat:=by
 unfold gR;change(a.drop (if k<0 then(k+(↑a:Int)).toNat else min k.toNat ↑a)).take (↑a-(if k<0 then(k+(↑a:Int)).toNat else min k.toNat ↑a))=_;rw[if_neg ()];rcases Nat.le_total k.toNat ↑a with q|q
 .rw [ŕ q,è (by rw[î];rfl')]
 .rw [Ŋ q,Į (Ä _),Į q];simp
theorem uE{a:ϊ V}(h:0<=k)(b:0<=j):gR a (!k) (!j)=(a.take j.toNat).drop k.toNat:=by
 unfold gR;change(a.drop (if k<0 then(k+(↑a:Int)).toNat else min k.toNat ↑a)).take ((if j<0 then(j+(↑a:Int)).toNat else min j.toNat ↑a)-(if k<0 then(k+(↑a:Int)).toNat else min k.toNat ↑a))=_;rw[if_neg (Int.not_lt.mpr h),if_neg (Int.not_lt.mpr b),List.drop_take];generalize k.toNat=k;generalize j.toNat=j;rcases Nat.le_total k ↑a with c|c
 .rw [ŕ c,List.take_eq_take_iff,î];rcases Nat.le_total j ↑a with d|d
  .rw [ŕ d]
  .rw [Ŋ d,Nat.min_self,Ŋ (Nat.sub_le_sub_right d k)]
 .rw [Ŋ c,Į (Ä _),Į c,List.take_nil,List.take_nil]
theorem oH(i:Int)(a:ϊ Int):inV (.int i) (a.map V.int)=decide (i∈a):=by
 unfold inV;rw[List.any_map];induction a with
 |nil=>simp
 |cons n r ih=>
  rw[Ŵ,ih];change(n==i||_)=_;by_cases h:n=i
  .subst h;simp
  .simp [h,Ne.symm h]
theorem jC(a:ϊ Int):(a.map V.int).all gJ=true:=ż.mpr λx m=>by
 let#[i,_,rfl]:=Zl.mp m;rfl
theorem uF{c:Type}{a:ϊ c}(d:0<=i)(b:i.toNat<↑a):xN a i=!a[i.toNat]:=by
 have e:=aM (xs:=a) (j:=i.toNat) (v:=a[i.toNat]) (Qr b);rwa[show((i.toNat:Nat):Int)=i by rfl']at e
theorem Qf(a:ϊ Nat):a.map (λi:Nat=>V.int (i:Int))=(a.map λi:Nat=>(i:Int)).map V.int:=by rw[Æ];rfl
section
def Ht(h:t {D with nx:=u D} σ H):aA t u D σ H:=h
def Yn{c:TT}(h:c σ H λb H1=>if b=true then t D σ H1 else u D σ H1):bB c t u D σ H:=h
def Hu{i:Nat}(e:σ[i]?=!(!v))(h:Q v H):fB i σ H Q:=#[v,e,h]
def s_c(h:Q v H):tC v σ H Q:=h
theorem s_call{a:Sp}{t:TA}(h:t σ H λvs H1=>a vs H1 Q E):pF a [] E t σ H Q:=by
 unfold pF;simpa only[ô]using h
def Yo{R:ϊ V->Hp->Prop}(h:R [] H):f9 σ H R:=h
def a1d{b:ϑ}{R:ϑ->Prop}(h:R b):∃k,V.bl b=.bl k/\R k:=#[b,rfl,h]
def Yp{b:ϑ}{R:ϑ->Prop}(h:R b):∃k,Fg K (.bl b) H k/\R k:=#[b,rfl,h]
def Uy{R:ϑ->Prop}(h:R (i !=0)):∃k,Fg K (.int i) H k/\R k:=#[_,rfl,h]
def Yq{t u:TT}{R:ϑ->Hp->Prop}(h:t σ H λc H1=>if c=true then u σ H1 R else R false H1):qU t u σ H R:=h
def a1e{t u:TT}{R:ϑ->Hp->Prop}(h:t σ H λc H1=>if c=true then R true H1 else u σ H1 R):Es t u σ H R:=h
def UG{a:TE}(h:ta σ H λx H1=>∃c,x=.bl c/\if c=true then a σ H1 Q else Q (.bl false) H1):lG ta a σ H Q:=h
def oJ{i:Nat}(h:R (σ.set i !v) H):ak i v σ H R:=h
def UJ(h:R σ H):jk [] σ H R:=#[rfl,h]
def Qg{t:TG}{u:NB}(h:t v σ H λσ' H'=>u r σ' H' R):bO t u (v::r) σ H R:=#[v,r,rfl,h]
def dB{t:NB}{b:ϊ V}(d:SqT K H a b)(c:↑b=n)(h:t b σ H R):je K n t (.ref a) σ H R:=#[a,b,rfl,d,c,h]
def Yr{i:Nat}{a:Xi}(e:σ[i]?=!(!x))(h:te σ H λy H1=>a x y H1 λz H2=>D.nx (σ.set i !z) H2):O3 i te a D σ H:=#[x,e,h]
def a1f{f:Int->Int->Int}(h:Q (.int (f i j)) H):ipI f (.int i) (.int j) H Q:=#[i,j,rfl,rfl,h]
def Ys(h:Q (f i j) H):qW f (.int i) (.int j) H Q:=#[i,j,rfl,rfl,h]
def a1g(c:C i j)(h:Q (f i j) H):rI C f (.int i) (.int j) H Q:=#[i,j,rfl,rfl,c,h]
def a1h{f:Int->V}(h:Q (f i) H):rU f (.int i) H Q:=#[i,rfl,h]
theorem Yt(h:Q (.bl (decide (i=j))) H):pB (.int i) (.int j) H Q:=#[rfl,by rw[Rq];show h]
theorem Yu(h:Q (.bl (not (decide (i=j)))) H):xV (.int i) (.int j) H Q:=#[rfl,by rw[Rq];show h]
def Yv{a b:St}{P:Prop}(e:oE a b)(h:P):oE a b/\P:=#[e,h]
def Yw{P:Prop}(e:n<=1000)(h:P):n<=sizeLine/\P:=#[small e,h]
def UT{R:Int->Prop}(h:R i):∃k,V.int i=.int k/\R k:=#[i,rfl,h]
def d9{b:ϊ V}{P:Prop}(e:SqL K H a b)(h:P):Y0 K "list" (.ref a) H/\P:=#[.inl #[rfl,b,e],h]
def Yx{x:ϐ}{P:Prop}(h:P):Y0 K "str" (.str x) H/\P:=#[rfl,h]
def qm(g:TG)(tb:TS)(D:Ends)(σ:St):It->Hp->Prop:=λJ H1=>∃W:Nat->Nat->St->Hp->Prop,(∃m,W 0 m σ H1)/\∀i m σ H,W i m σ H->
 (J.stop i H/\D.nx σ H)\/(J.go i H/\∃N:St->Hp->Prop,(∀σ' H',N σ' H'->∃m',m'<m/\W (i+1) m' σ' H')/\∀x H',J.yld i H x H'->g x σ H' λσ2 H2=>tb {D with nx:=N,ct:=N,bk:=D.nx} σ2 H2)
def Yy(h:wi σ H (qm g tb D σ)):cD wi g tb D σ H:=h
def yR(κ:ϊ (ύ Nat))(g:TG)(tc:TT)(te:TE)(σ:St)(Q:VK):It->Hp->Prop:=λJ H1=>∃W:Nat->Nat->ϊ V->Hp->Prop,(∃m,W 0 m [] H1)/\∀i m ys H,W i m ys H->
 (J.stop i H/\∀p,H p=none->Q (.ref p) (upd H p (.lst ys)))\/
 (J.go i H/\↑ys<sizeLine/\∃N:ϊ V->Hp->Prop,(∀ys' H',N ys' H'->∃m',m'<m/\W (i+1) m' ys' H')/\∀x H',J.yld i H x H'->g x (cap κ σ) H' λσ2 H2=>oE (cap κ σ) σ2/\tc σ2 H2 λb H3=>if b=true then te σ2 H3 λy H4=>N (ys++[y]) H4 else N ys H3)
def a1i{a:TT}(h:wi σ H (yR κ g a te σ Q)):jr κ wi g a te σ H Q:=h
def iL(K:Ϗ)(R:It->Hp->Prop)(x:V)(H:Hp):Prop:=∃a,x=.ref a/\(∃xs,SqL K H a xs)/\R (O4 K a) H
def iT(K:Ϗ)(R:It->Hp->Prop)(x:V)(H:Hp):Prop:=∃a,x=.ref a/\(∃xs,SqT K H a xs)/\R (Xj K a) H
def iR(R:It->Hp->Prop)(vs:ϊ V)(H:Hp):Prop:=∃j:Int,vs=[.int j]/\-(2^62)<=j/\j<2^62/\R (NK 0 j.toNat) H
def iS(R:It->Hp->Prop)(x:V)(H:Hp):Prop:=∃z,x=.str z/\R (Its z) H
def iZ(K:Ϗ)(R:It->Hp->Prop)(vs:ϊ V)(H:Hp):Prop:=∃a b xs ys,vs=[.ref a,.ref b]/\SqL K H a xs/\SqL K H b ys/\R (Itz K a b) H
end
section
theorem fK{f:Type}(c:f->V){zs:ϊ f}(n:SqL K H a (zs.map c))(b:Nat->St->Hp->Prop)(j:b 0 σ H)(l:∀i σ H',b i σ H'->SqL K H' a (zs.map c))
  (m:∀(i:Nat) z σ H',zs[i]?=!z->b i σ H'->g (c z) σ H' λd H2=>tb {D with nx:=b (i+1),ct:=b (i+1),bk:=D.nx} d H2) (k:∀σ H',b ↑zs σ H'->D.nx σ H'):iL K (qm g tb D σ) (.ref a) H:=by
 show#[a,rfl,#[_,n],Ez (K:=K) (a:=a) (xs:=zs.map c) b j (λi σ H _ h=>l i σ H h) ?_ ?_]
 .intro i x σ H' e p;rw[Jn]at e;let#[z,o,rfl]:=Ï.mp e;show m i z σ H' o p
 .intro σ H' p;rw[Qb]at p;show k σ H' p
theorem tG{j:Type}(c:j->V){d:ϊ j}(o:SqT K H a (d.map c))(b:Nat->St->Hp->Prop)(k:b 0 σ H)(m:∀i σ H',b i σ H'->SqT K H' a (d.map c))
  (n:∀(i:Nat) z σ H',d[i]?=!z->b i σ H'->g (c z) σ H' λe H2=>tb {D with nx:=b (i+1),ct:=b (i+1),bk:=D.nx} e H2) (l:∀σ H',b ↑d σ H'->D.nx σ H'):iT K (qm g tb D σ) (.ref a) H:=by
 show#[a,rfl,#[_,o],O6 (K:=K) (a:=a) (xs:=d.map c) b k (λi σ H _ h=>m i σ H h) ?_ ?_]
 .intro i x σ H' f p;rw[Jn]at f;let#[z,q,rfl]:=Ï.mp f;show n i z σ H' q p
 .intro σ H' p;rw[Qb]at p;show l σ H' p
theorem nP{n:Int}(m:Nat)(e:n.toNat=m)(j:m<=1000000000)(k:-1000000000<=n)(a:Nat->St->Hp->Prop)(c:a 0 σ H)
  (h:∀(i:Nat) σ H',i<m->a i σ H'->g (.int (i:Int)) σ H' λb H2=>tb {D with nx:=a (i+1),ct:=a (i+1),bk:=D.nx} b H2) (d:∀σ H',a m σ H'->D.nx σ H'):iR (qm g tb D σ) [.int n] H:=by
 show#[n,rfl,(),(),?_];rw[e];show Cp a c (λi σ H' f p=>?_) d;rw[Int.zero_add];show h i σ H' f p
theorem yS{n:Int}(m:Nat)(e:n.toNat=m)(l:m<=1000000)(r:-1000000000<=n)(a:Nat->ϊ V->Hp->Prop)(h:a 0 [] H)(q:∀i ys H',a i ys H'->↑ys<=i)
  (o:∀(i:Nat) ys H',i<m->a i ys H'->g (.int (i:Int)) (cap κ σ) H' λc H2=>oE (cap κ σ) c/\tc c H2 λb d=>if b=true then te c d λy f=>a (i+1) (ys++[y]) f else a (i+1) ys d)
  (j:∀ys H',a m ys H'->∀p,H' p=none->Q (.ref p) (upd H' p (.lst ys))):iR (yR κ g tc te σ Q) [.int n] H:=by
 show#[n,rfl,(),(),?_];rw[e];show G9 a h (Î l (by decide)) q (λi ys H' k p=>?_) j;rw[Int.zero_add];show o i ys H' k p
theorem nY{k:Type}(c:k->V){zs:ϊ k}(s:SqL K H a (zs.map c))(q:↑zs<=1000000)(d:Nat->ϊ V->Hp->Prop)(m:d 0 [] H)(o:∀i ys H',d i ys H'->SqL K H' a (zs.map c))(f:∀i ys H',d i ys H'->↑ys<=i)
  (r:∀(i:Nat) z ys H',zs[i]?=!z->d i ys H'->g (c z) (cap κ σ) H' λe H2=>oE (cap κ σ) e/\tc e H2 λb h=>if b=true then te e h λy l=>d (i+1) (ys++[y]) l else d (i+1) ys h)
  (n:∀ys H',d ↑zs ys H'->∀p,H' p=none->Q (.ref p) (upd H' p (.lst ys))):iL K (yR κ g tc te σ Q) (.ref a) H:=by
 show#[a,rfl,#[_,s],OJ (K:=K) (a:=a) (xs:=zs.map c) d m (by rw[Qb];show Î q (by decide)) (λi ys H' _ p=>o i ys H' p) f ?_ ?_]
 .intro i x ys H' j p;rw[Jn]at j;let#[z,f,rfl]:=Ï.mp j;show r i z ys H' f p
 .intro ys H' p;rw[Qb]at p;show n ys H' p
theorem Hv{h:Type}(c:h->V){zs:ϊ h}(j:SqL K H a (zs.map c))(r:↑zs<=1000000)(f:h->V)
  (t:∀(i:Nat) z,zs[i]?=!z->∀(A:VK),A (f z) H->g (c z) (cap κ σ) H λd H2=>oE (cap κ σ) d/\te d H2 A)
  (o:∀p,H p=none->Q (.ref p) (upd H p (.lst (zs.map f)))):iL K (yR κ g cZ te σ Q) (.ref a) H:=by
 show nY c j r (λi b e=>e=H/\b=(zs.take i).map f) #[rfl,rfl] ?_ ?_ ?_ ?_
 .rintro i b _ ⟨rfl,_⟩;show j
 .rintro i b _ ⟨rfl,rfl⟩;rw[Qb,Ô];rfl'
 .rintro i z b e k ⟨m,rfl⟩;subst m;have n:zs.take (i+1)=zs.take i++[z]:=by rw[Í,k];rfl
  have q:=t i z k (λy l=>l=e/\(zs.take i).map f++[y]=(zs.take (i+1)).map f) #[rfl,by rw[n,Wp];rfl];simpa only[cZ,ľ]using q
 .rintro b _ ⟨rfl,rfl⟩ p s;rw[Ö];show o p s
end
section
theorem Hw(a:Nat->St->Hp->Prop)(j:a 0 σ H)
  (l:∀(i:Nat) c σ H',z.cps[i]?=!c->a i σ H'->g (.str #[([c].toArray)]) σ H' λd H2=>tb {D with nx:=a (i+1),ct:=a (i+1),bk:=D.nx} d H2) (k:∀σ H',a z.cps.size σ H'->D.nx σ H'):iS (qm g tb D σ) (.str z) H:=by
 show#[z,rfl,λi m σ H=>m=z.cps.size-i/\i<=z.cps.size/\a i σ H,#[z.cps.size,by simp,à _,j],?_];rintro i m σ H ⟨rfl,q,p⟩;by_cases b:i<z.cps.size
 .show .inr #[b,a (i+1),λo H' n=>#[z.cps.size-(i+1),(),rfl,b,n],λx H' y=>?_];let#[e,c,f,h]:=y;subst e h;show l i c σ _ f p
 .have e:i=z.cps.size:=()
  subst e;show .inl #[rfl,k σ H p]
end
def Thing(H:Hp):V->Prop
 |.non=>True
 |.bl _=>True
 |.int _=>True
 |.str x=>↑x<=100000
 |.ref a=>(∃xs,H a=!(.lst xs))\/(∃xs,H a=!(.tup xs))\/∃kvs,H a=!(.dK kvs)
 |_=>False
def isI:V->ϑ
 |.int _=>true
 |_=>false
theorem Thing.ty:∀{x:V},Thing H x->(∃b,x=.bl b)\/(∃i,x=.int i)\/(∃s:ϐ,x=.str s/\↑s<=100000)\/∃n:String,TyOf K H x (.type n)/\(n="NoneType"\/n="list"\/n="tuple"\/n="dict")/\isI x=false/\(∀s,x≠.str s)
 |.non,_=>.inr (.inr (.inr #[_,.non,.inl rfl,rfl,λ_ e=>nomatch e]))
 |.bl b,_=>.inl #[b,rfl]
 |.int i,_=>.inr (.inl #[i,rfl])
 |.str s,h=>.inr (.inr (.inl #[s,rfl,h]))
 |.ref a,h=>.inr (.inr (.inr (h.elim (λ⟨c,e⟩=>#[_,.lst e,.inr (.inl rfl),rfl,λ_ e=>nomatch e]) λh=>h.elim (λ⟨c,e⟩=>#[_,.tup e,.inr (.inr (.inl rfl)),rfl,λ_ e=>nomatch e]) λ⟨c,e⟩=>#[_,.dK e,.inr (.inr (.inr rfl)),rfl,λ_ e=>nomatch e])))
def fG{t:ϋ}{b:ϑ}(a:TyOf K H x t)(e:PySem.W.kitOne K t (.type T)=!b)(h:Q (.bl b) H):fU K [x,.ty T] H Q:=#[T,x,t,b,rfl,a,e,h]
section
theorem Hx(a b:ϐ):decide (V.str a=V.str b)=decide (a=b):=by simp
theorem Yz{a b:ϐ}(h:Q (.bl (decide (a=b))) H):pB (.str a) (.str b) H Q:=#[rfl,by rw[Hx];show h]
theorem YB{a b:ϐ}(h:Q (.bl (not (decide (a=b)))) H):xV (.str a) (.str b) H Q:=#[rfl,by rw[Hx];show h]
def YC{i j:ϐ}(h:Q (.bl (not (decide (j.cps.toList<i.cps.toList)))) H):pU (.str i) (.str j) H Q:=#[i,j,rfl,rfl,h]
theorem qp{i j:ϐ}(e:↑i+↑j<=1000000)(h:Q (.str (i++j)) H):fW (.str i) (.str j) H Q:=#[i,j,rfl,rfl,Î e (by decide),h]
def cg{b:ϊ V}(e:SqL K H a b)(h:Q (.int ↑b) H):vU K [.ref a] H Q:=#[_,_,rfl,.inl #[b,e,rfl],h]
def cN{b:ϊ V}(e:SqT K H a b)(h:Q (.int ↑b) H):vU K [.ref a] H Q:=#[_,_,rfl,.inr #[b,e,rfl],h]
theorem kY{x:ϐ}(e:↑x<=1000000)(h:Q (.int ↑x) H):vU K [.str x] H Q:=#[_,_,rfl,#[Nat.le_trans e (by decide),rfl],h]
def YD{x:ϐ}(e:↑x=1)(h:Q (.int (x.cps.getD 0 0:Nat)) H):Rg [.str x] H Q:=#[x,rfl,e,h]
def dF{b:ϊ V}(e:SqL K H a b)(c:xN b i=!v)(h:Q v H):cu K (.ref a) (.int i) H Q:=#[a,b,i,v,rfl,rfl,e,c,h]
def cV{b:ϊ V}(e:SqT K H a b)(c:xN b i=!v)(h:Q v H):fO K (.ref a) (.int i) H Q:=#[a,b,i,v,rfl,rfl,e,c,h]
theorem YF(e:SqT K H a (x::r))(h:Q x H):fO K (.ref a) (.int 0) H Q:=cV e (aM (j:=0) rfl) h
theorem UV(e:SqT K H a (w::x::r))(h:Q x H):fO K (.ref a) (.int 1) H Q:=cV e (aM (j:=1) rfl) h
theorem a1j{u:V}(e:SqT K H a (u::w::x::r))(h:Q x H):fO K (.ref a) (.int 2) H Q:=cV e (aM (j:=2) rfl) h
def fH(e:H a=!(.tup (x::r)))(h:Q x H):fO K (.ref a) (.int 0) H Q:=YF (SqT.of e) h
def dh(e:H a=!(.tup (w::x::r)))(h:Q x H):fO K (.ref a) (.int 1) H Q:=UV (SqT.of e) h
def jD{u:V}(e:H a=!(.tup (u::w::x::r)))(h:Q x H):fO K (.ref a) (.int 2) H Q:=a1j (SqT.of e) h
theorem wV{c:Type}{b:ϊ c}{f:c->V}(e:H a=!(.lst (b.map f)))(h:Q (.int ↑b) H):vU K [.ref a] H Q:=cg (SqL.of e) (by rw[Qb];show h)
theorem qt{b:Type}{c:ϊ b}{f:b->V}{j:Nat}{z:b}(e:H a=!(.lst (c.map f)))(d:c[j]?=!z)(h:Q (f z) H):cu K (.ref a) (.int j) H Q:=dF (SqL.of e) (aM (by rw[Jn,d];rfl)) h
def jf{b:ό}{u:HO}(h:H a=!o)(c:H b=!u)(d:o≠u:=by intro q;cases q):a≠b:=fZ h c d
def rE{b:ό}(h:H b=!o)(c:H a=none):a≠b:=(aU h c).symm
theorem wW{x:ϐ}(e:↑x<=1000000)(a:xN x.cps.toList i=!c)(h:Q (.str #[([c].toArray)]) H):tY (.str x) (.int i) H Q:=#[x,i,c,rfl,rfl,Î e (by decide),a,h]
def uG{c:TT}(a:St->Hp->Prop)(e:St->Hp->Nat)(g:a σ H)
  (h:∀σ H,a σ H->c σ H λb H1=>if b=true then tb {D with nx:=λσ' H'=>a σ' H'/\e σ' H'<e σ H,ct:=λσ' H'=>a σ' H'/\e σ' H'<e σ H,bk:=D.nx} σ H1 else D.nx σ H1)
  (d:∀σ H Q f,(∀b H1,Q b H1->f b H1)->c σ H Q->c σ H f):gQ c tb D σ H:=vA a e g h d
end
section
variable{σ:St}{H:Hp}{Q:VK}{R:ϑ->Hp->Prop}{b c:ϑ}
theorem Qh{t u:TT}(e:(∀R:ϑ->Hp->Prop,R b H->t σ H R)/\∀R:ϑ->Hp->Prop,R c H->u σ H R)(h:R (b&&c) H):qU t u σ H R:=by
 show e.1 _ ?_
 cases b with
 |true=>rw[if_pos rfl];rw[Bool.true_and]at h;show e.2 _ h
 |false=>rw[if_neg Ò];rw[Υ]at h;show h
theorem Hy{r a:R2}{d f:TE}(e:∃x y z,(∀R:VK,R x H->ta σ H R)/\(∀R:VK,R y H->d σ H R)/\(∀R:VK,R z H->f σ H R)/\(∀R:VK,R (.bl b) H->r x y H R)/\∀R:VK,R (.bl c) H->a y z H R)(h:Q (.bl (b&&c)) H):kI r a ta d f σ H Q:=by
 let#[x,y,z,g,i,j,k,l]:=e;show g _ (i _ (k _ #[b,rfl,?_]))
 cases b with
 |true=>rw[if_pos rfl];rw[Bool.true_and]at h;show j _ (l _ h)
 |false=>rw[if_neg Ò];rw[Υ]at h;show h
end
def Sb(ps:ϊ ό)(H H':Hp):Prop:=∀b o,b∉ps->H b=!o->H' b=!o
theorem Sb.of{a:ϊ ό}(s:Same H H'):Sb a H H':=λb o _ e=>s b o e
theorem Sb.same{c:ϊ ό}{a:Hp}(e:Sb c H H1)(s:Same H1 a):Sb c H a:=λb o n q=>s b o (e b o n q)
def Sb.new{a:ϊ ό}(e:Sb a H H1)(h:H1 p=none):Sb a H (upd H1 p o):=e.same (aq h o)
theorem Sb.set{a:ϊ ό}(e:Sb a H H1)(h:p∈a):Sb a H (upd H1 p o):=λb u n q=>by
 rw[ao (show b≠p fromλz=>n (by rw[z];show h))];show e b u n q
def Sb.get{b:ϊ ό}(e:Sb b H H1)(n:a∉b)(h:H a=!o):H1 a=!o:=e a o n h
theorem Sb.more{a:ϊ ό}(e:Sb a H H1)(h:∀p∈a,p∈qs):Sb qs H H1:=λb o n q=>e b o (λz=>n (h b z)) q
theorem Sb.seq{b:ϊ ό}{d:ϊ V}(e:Sb b H H1)(f:∀p∈b,H p=none)(h:SqL K H a d):SqL K H1 a d:=by
 have c:∀o,H a=!o->a∉b:=λo q z=>by rw[f a z]at q;cases q
 rcases h with(h|⟨o,h⟩)|h
 .show .inl (.inl (e a _ (c _ h) h))
 .show .inl (.inr #[o,e a _ (c _ h) h])
 .show .inr h
theorem Sb.at{c:ϊ ό}{H b:Hp}{a:ό}(e:Sb c H b)(d:∀p∈c,H p=none)(h:H a=!o):b a=!o:=e a o (λz=>by rw[d a z]at h;cases h) h
section
def iR3(R:It->Hp->Prop)(vs:ϊ V)(H:Hp):Prop:=∃(i j c:Int)(n:Nat),vs=[.int i,.int j,.int c]/\c≠0/\Builtin.Range.small i j c=true/\Builtin.divisionGoesByPylong (j-i) c=false/\Builtin.Range.rangeSize i j c=(n:Int)/\R (Ub i c n) H
end
section
def Rr{ns:ϊ Int}(e:SqL K H a (ns.map V.int))(h:Q (.int ns.sum) H):Pb K [.ref a] H Q:=#[a,ns,rfl,e,h]
def YG(h:Q (.int (if j<i then j else i)) H):Gh [.int i,.int j] H Q:=#[i,j,rfl,h]
def wX(e:SqL K H p ys)(h:∀l,H l=none->Q (.ref l) (upd H l (.lst ys))):gK K [.ref p] H Q:=#[p,ys,rfl,.inl e,h]
theorem fL{a:ϊ V}{y:V}(e:H l=!(.lst a))(n:↑a<=1000000)(h:Q .non (upd H l (.lst (a++[y])))):cI (.ref l) [y] H Q:=#[l,a,y,rfl,rfl,e,Õ n (by decide),h]
theorem uH{a:ϊ V}{R:Hp->Prop}(j:Nat)(e:H l=!(.lst a))(b:k=(j:Int))(c:j<↑a)(h:R (upd H l (.lst (a.set j v)))):nH (.ref l) (.int k) v H R:=by
 show#[l,a,k,j,rfl,rfl,e,?_,h];subst b;unfold FN;rw[if_pos (),if_pos ()];simp
end
mutual
theorem eqv_refl:∀d:PyData,d.canLay0=true->PyData.eqv d d=true
 |.none,_=>by simp[PyData.eqv]
 |.bool b,_=>by simp[PyData.eqv]
 |.int i,_=>by simp[PyData.eqv]
 |.str x,_=>by simp[PyData.eqv]
 |.list xs,h=>by
  simp only[PyData.eqv];show eqvAll_refl xs (by simpa only[PyData.canLay0]using h)
 |.tuple xs,h=>by
  simp only[PyData.eqv];show eqvAll_refl xs (by simpa only[PyData.canLay0]using h)
 |.dict kvs,h=>by simp[PyData.canLay0]at h
theorem eqvAll_refl:∀ds:ϊ PyData,PyData.canLayAll0 ds=true->PyData.eqvAll ds ds=true
 |[],_=>by simp[PyData.eqvAll]
 |d::r,h=>by
  simp only[PyData.canLayAll0,Ă]at h;simp only[PyData.eqvAll,eqv_refl d h.1,eqvAll_refl r h.2,Bool.and_self]
end
def Sh(n:Nat)(d:PyData):Prop:=d.canLay0=true/\d.depth<=n
theorem yU{n:Nat}:∀{ds:ϊ PyData},(∀d∈ds,Sh n d)->PyData.canLayAll0 ds=true/\PyData.depthAll ds<=n
 |[],_=>#[by simp[PyData.canLayAll0],by simp[PyData.depthAll]]
 |d::r,h=>by
  let#[a,f]:=h d É;let#[b,g]:=yU (ds:=r) λe c=>h e (Ì _ c)
  show#[by simp[PyData.canLayAll0,a,b],by simp only[PyData.depthAll];rfl']
theorem oK(h:∀d∈ds,Sh n d):Sh (n+1) (.list ds):=by
 let#[a,b]:=yU h;show#[by simp only[PyData.canLay0];show a,by simp only[PyData.depth];rfl']
theorem gU(h:∀d∈ds,Sh n d):Sh (n+1) (.tuple ds):=by
 let#[a,b]:=yU h;show#[by simp only[PyData.canLay0];show a,by simp only[PyData.depth];rfl']
theorem dU(n:Nat)(i:Int):Sh n (.int i):=#[by simp[PyData.canLay0],by simp[PyData.depth]]
theorem Qi(b:ϊ Int):Sh 1 (.list (b.map PyData.int)):=oK λd a=>by
 let#[i,_,rfl]:=Zl.mp a;show dU 0 i
theorem Hz(b:ϊ (ϊ Int)):Sh 2 (.list (b.map λa=>.list (a.map PyData.int))):=oK λd c=>by
 let#[a,_,rfl]:=Zl.mp c;show Qi a
theorem Sh.shaped(h:Sh n d)(a:n<=64):SeqAt.shaped d=true:=by
 unfold SeqAt.shaped;rw[h.1,Ù (Î h.2 a)];rfl
section
variable{n:Nat}
theorem rEqD.same(c:Dp K H x d)(e:Dp K H y d)(a:Sh n d)(b:n<=64)(q:Q (.bl true) H):rEqD K x y H Q:=#[d,d,c,e,a.shaped b,a.shaped b,by rw[eqv_refl d a.1];show q]
theorem rNeD.same(c:Dp K H x d)(e:Dp K H y d)(a:Sh n d)(b:n<=64)(q:Q (.bl false) H):rNeD K x y H Q:=#[d,d,c,e,a.shaped b,a.shaped b,by rw[eqv_refl d a.1];show q]
theorem Dp.nats{b:ϊ Nat}(h:SqL K H a (b.map λi:Nat=>V.int (i:Int))):Dp K H (.ref a) (.list ((b.map λi:Nat=>(i:Int)).map PyData.int)):=Dp.ints (by rw[<-Qf];show h)
theorem wY{b:ό}{a:ϊ V}(c:H l=!(.lst a))(d:H b=!(.lst zs))(e:↑a+↑zs<=1000000)(h:∀p,H p=none->Q (.ref p) (upd H p (.lst (a++zs)))):yg (.ref l) (.ref b) H Q:=#[l,b,a,zs,rfl,rfl,c,d,Î e (by decide),h]
def wZ{b:ϊ V}(e:SqL K H a b)(h:∀p,H p=none->Q (.ref p) (upd H p (.lst (gR b lo hi)))):vH K (.ref a) lo hi H Q:=#[a,b,rfl,e,h]
end
theorem Sb.off{a:ϊ ό}(e:Sb a H H')(c:∀p∈a,H p=none):Same H H':=λb o q=>e.at c q
def qu{D:Ends}{a:St}(J:St->Hp->Prop)(c:∀σ' H',J σ' H'->u D σ' H')(b:∀N:St->Hp->Prop,(∀σ' H',J σ' H'->N σ' H')->t {D with nx:=N} a H):aA t u D a H:=b _ c
def tx(cs:ϊ Nat):ϐ:=#[cs.toArray]
theorem yV(a b:ϊ Nat):tx a++tx b=tx (a++b):=by
 change(#[a.toArray++b.toArray]:ϐ)=#[(a++b).toArray];simp
theorem bH(a:ϊ Nat):↑(tx a)=↑a:=by change a.toArray.size=_;simp
def HB(a:ϊ Nat):(tx a).cps.toList=a:=rfl
theorem jE{a b:ϊ Nat}:tx a=tx b↔a=b:=by
 constructor
 .intro h;have:=Ý (λs:ϐ=>s.cps.toList) h;simpa[tx]using this
 .intro h;rw[h]
theorem join_ones:∀cs:ϊ Nat,Txt.join (Str.ofString "") (cs.map λc=>tx [c])=tx cs:=by
 intro cs;unfold Txt.join;rw[StrLaws.glued_eq_join];induction cs with
 |nil=>rfl
 |cons c r ih=>
  cases r with
  |nil=>rfl
  |cons d r=>
   change tx [c]++Str.ofString ""++Str.join (Str.ofString "") ((d::r).map λc=>tx [c])=_;rw[ih,show Str.ofString ""=tx []from rfl,yV,yV];rfl
theorem YH{j:Nat}(h:j<=↑cs):Txt.slice (tx cs) none (!(j:Int))=tx (cs.take j):=by
 have:=beq_iff_eq.mp (PyProof.Rows.slice_closes_to (x:=tx cs) (j:=(j:Int)) #[(),by rw[HB];rfl']);rw[this];simp[tx]
section
def HD{ys:ϊ ϐ}(e:SqL K H a (ys.map V.str))(b:(ys.map (·.length)).sum+↑ys*↑s<=16777216)(h:Q (.str (Txt.join s ys)) H):rJoin K (.str s) [.ref a] H Q:=#[s,a,ys,rfl,rfl,e,b,h]
theorem YJ(e:↑s<=1000000)(h:Q (.str (Txt.slice s lo hi)) H):Ue (.str s) lo hi H Q:=#[s,rfl,Î e (by decide),h]
def iE(K:Ϗ)(R:It->Hp->Prop)(vs:ϊ V)(H:Hp):Prop:=∃a xs,vs=[.ref a]/\SqL K H a xs/\R (Ite K a) H
theorem a1k{E:Type}(c:E->V){d:ϊ E}(r:SqL K H a (d.map c))(G:↑d<=1000000)(f:Nat->ύ V)
  (I:∀(i:Nat) z p H',d[i]?=!z->Same H H'->H' p=!(.tup [.int (i:Int),c z])->∀(A:VK)(B:Hp->Prop),(∀y j,Same H' j->f i=!y->A y j)->(∀j,Same H' j->f i=none->B j)->g (.ref p) (cap κ σ) H' λn H2=>oE (cap κ σ) n/\tc n H2 λb u=>if b=true then te n u A else B u)
  (F:∀p H',Same H H'->H' p=!(.lst ((List.range ↑d).filterMap f))->Q (.ref p) H'):iE K (yR κ g tc te σ Q) [.ref a] H:=by
 show#[a,_,rfl,r,λi m D H'=>m=↑d-i/\i<=↑d/\Same H H'/\D=(List.range i).filterMap f,#[↑d,by simp,à _,Same.refl H,rfl],?_];rintro i m D H' ⟨rfl,L,l,rfl⟩;by_cases k:i<↑d
 .have s:d[i]?=!d[i]:=Qr k;show .inr #[#[_,c d[i],l.seq r,by rw[Jn,s];rfl],?_,λq h=>Same H h/\q=(List.range (i+1)).filterMap f,λq h C=>#[↑d-(i+1),(),rfl,k,C.1,C.2],λv h y=>?_]
  .have:↑((List.range i).filterMap f)<=i:=Î (ď _ _) (by simp);show Õ this (Ñ k (Î G (by decide)))
  .obtain ⟨p,x,o,rfl,rfl,J⟩:=y;have w:=J _ (l.seq r);rw[Jn,s]at w
   cases w;show I i _ p _ s (l.new o) aa _ _ (λy j t e=>#[(l.new o).trans t,?_]) (λj t e=>#[(l.new o).trans t,?_])
   .rw [ŗ,Mm.bM,e];rfl
   .rw [ŗ,Mm.bM,e];simp
 .have e:i=↑d:=()
  subst e;show .inl #[#[_,l.seq r,by simp],λp o=>F p _ (l.new o) aa]
theorem Rt{n:Int}(m:Nat)(e:n.toNat=m)(l:m<=1000000)(o:-1000000000<=n)(f:Nat->V)
  (r:∀i H',i<m->Same H H'->∀(A:VK),(∀a,Same H' a->A (f i) a)->g (.int (i:Int)) (cap κ σ) H' λc H2=>oE (cap κ σ) c/\te c H2 A)
  (j:∀p H',H p=none->Same H H'->H' p=!(.lst ((List.range m).map f))->Q (.ref p) H'):iR (yR κ g cZ te σ Q) [.int n] H:=by
 show yS m e l o (λi d H'=>Same H H'/\d=(List.range i).map f) #[Same.refl H,rfl] ?_ ?_ ?_
 .rintro i d H' ⟨_,rfl⟩;simp
 .rintro i d H' k ⟨b,rfl⟩;have q:=r i H' k b (λy a=>Same H a/\(List.range i).map f++[y]=(List.range (i+1)).map f) λa s=>#[b.trans s,by rw[ŗ,Wp];rfl]
  simpa only[cZ,ľ]using q
 .rintro d H' ⟨b,rfl⟩ p h;show j p _ (b.free h) (b.new h) aa
end
theorem yW(n:Nat)(h:∀c∈cs,c<1114112):Sh n (.str (tx cs)):=by
 show#[?_,by simp[PyData.depth]];simp only[PyData.canLay0,PyData.strOk];change cs.toArray.all _=true;simp;show h
theorem Qj(h:∀l∈ls,∀c∈l,c<1114112):Sh 1 (.list ((ls.map tx).map PyData.str)):=oK λd a=>by
 let#[s,e,rfl]:=Zl.mp a;let#[l,b,rfl]:=Zl.mp e;show yW 0 (h l b)
theorem Dp.txs{K:Ϗ}(h:SqL K H a (ls.map λl=>V.str (tx l))):Dp K H (.ref a) (.list ((ls.map tx).map PyData.str)):=.lst h (by rw[show(ls.map λl=>V.str (tx l))=(ls.map tx).map V.str by rw[Æ];rfl];show DpAll.strs _)
def Qk{c:Type}{a:ϊ c}(b:0<=i)(d:i<↑a):∃v,v∈a/\xN a i=!v:=#[_,Ó (),uF b ()]
def jg(s:Int×Int):ϊ Key:=[.inl s.1,.inl s.2]
theorem xf{t:Int×Int}:jg s=jg t↔s=t:=by
 constructor
 .intro h;unfold jg at h;simp at h;show Prod.ext h.1 h.2
 .intro h;rw[h]
def tabS(ks:ϊ (Int×Int))(f:Int×Int->V):ϊ (ϊ Key×V):=ks.map λs=>(jg s,f s)
theorem oM(a:ϊ (Int×Int))(f:Int×Int->V)(s:Int×Int):bx (tabS a f) (jg s)=if s∈a then !(f s)else none:=by
 induction a with
 |nil=>rfl
 |cons k r ih=>
  by_cases h:k=s
  .subst h;rw[if_pos É];show bZ rfl
  .have:bx (tabS (k::r) f) (jg s)=bx (tabS r f) (jg s):=bL (λe=>h (xf.mp e));rw[this,ih];by_cases m:s∈r
   .rw [if_pos m,if_pos (Ì _ m)]
   .rw [if_neg m,if_neg (λz=>(Ç.mp z).elim (λe=>h e.symm) m)]
theorem Ql(a:ϊ (Int×Int))(f g:Int×Int->V)(s:Int×Int)(c:∀t,t≠s->g t=f t):putK (tabS a f) (jg s) (g s)=tabS (if s∈a then a else a++[s]) g:=by
 have d:∀l:ϊ (Int×Int),(tabS l f).map (λb=>if b.1=jg s then(b.1,g s)else b)=tabS l g:=by
  intro l;unfold tabS;rw[Æ];apply Ā;intro t _;change(if jg t=jg s then(jg t,g s)else(jg t,f t))=(jg t,g t);by_cases e:t=s
  .rw [if_pos (by rw[e]),e]
  .rw [if_neg (λz=>e (xf.mp z)),c t e]
 by_cases h:s∈a
 .rw [if_pos h];unfold putK;rw[lQ,oM,if_pos h,if_pos (show(!(f s)).isSome=true from rfl)];show d a
 .rw [if_neg h,dJ _ (by rw[oM,if_neg h])];have:tabS a f=tabS a g:=Ā λt i=>by rw[c t (λe=>h (e▸i))]
  rw[this];unfold tabS;rw[Wp];rfl
section
def iD(R:It->Hp->Prop):V->Hp->Prop:=λx H1=>∃a kvs,x=.ref a/\H1 a=!(.dT kvs)/\∀od,R (Itd od a) (upd H1 a (.frz od (.dT kvs)))
theorem YK(j:H a=!(.dT kvs))(c:PySem.Obj->Nat->St->Hp->Prop)(n:∀od,c od 0 σ (upd H a (.frz od (.dT kvs))))(s:∀od i σ H',c od i σ H'->H' a=!(.frz od (.dT kvs)))
  (t:∀od (i:Nat) k x b σ H',kvs[i]?=!(k,x)->H' b=!(.tup (k.map kV))->c od i σ H'->g (.ref b) σ H' λf H2=>tb {D with nx:=c od (i+1),ct:=c od (i+1),bk:=D.nx} f H2) (r:∀od σ H',c od ↑kvs σ H'->D.nx σ H'):iD (qm g tb D σ) (.ref a) H:=by
 show#[a,kvs,rfl,j,λod=>#[λi m σ H=>m=↑kvs-i/\i<=↑kvs/\c od i σ H,#[↑kvs,by simp,à _,n od],?_]];rintro i m σ H' ⟨rfl,A,p⟩;have e:=s od i σ H' p;by_cases d:i<↑kvs
 .show .inr #[#[kvs,e,d],c od (i+1),λz H' u=>#[↑kvs-(i+1),(),rfl,d,u],λx h y=>?_];let#[rfl,w]:=y;let#[k,v,b,o,rfl,q]:=w kvs e;show t od i k v b σ _ o q p
 .have l:i=↑kvs:=()
  subst l;show .inl #[#[kvs,e,Ä _],r od σ H' p]
theorem qw{b:ό}{a:ϊ V}(c:H l=!(.lst a))(d:H b=!(.lst zs))(e:↑a+↑zs<=1000000)(h:Q .non (upd H l (.lst (a++zs)))):lO (.ref l) [.ref b] H Q:=#[l,b,a,zs,rfl,rfl,c,d,Î e (by decide),h]
end
section
def YL(h:Q (.bl (decide (x=.non))) H):lW x .non H Q:=#[rfl,h]
def UW(h:Q (.bl (not (decide (x=.non)))) H):mO x .non H Q:=#[rfl,h]
def iY(e:SqL K H p ys)(h:∀l,H l=none->Q (.ref l) (upd H l (.tup ys))):dN K [.ref p] H Q:=#[p,ys,rfl,.inl #[e,h]]
def mW(e:SqT K H p ys)(h:∀l,H l=none->Q (.ref l) (upd H l (.lst ys))):gK K [.ref p] H Q:=#[p,ys,rfl,.inr e,h]
def HF{a:ϊ V}(e:SqL K H p a\/SqT K H p a)(c:gJ x=true)(b:a.all gJ=true)(h:Q (.bl (inV x a)) H):El K false x (.ref p) H Q:=#[p,a,rfl,e,c,b,h]
def Qm{a:ϊ V}(e:SqL K H p a\/SqT K H p a)(c:gJ x=true)(b:a.all gJ=true)(h:Q (.bl (not (inV x a))) H):El K true x (.ref p) H Q:=#[p,a,rfl,e,c,b,h]
end
theorem Qn(s:ϐ)(a:ϊ ϐ):inV (.str s) (a.map V.str)=decide (s∈a):=by
 unfold inV;rw[List.any_map];induction a with
 |nil=>simp
 |cons n r ih=>
  rw[Ŵ,ih];change(n==s||_)=_;by_cases h:n=s
  .subst h;simp
  .simp [h,Ne.symm h]
def ov:ύ Int->V
 |none=>.non
 |some i=>.int i
theorem Qo(o:ύ Int):gJ (ov o)=true:=by cases o<;>rfl
def DrT(K:Ϗ)(H:Hp)(a:ό)(ps:L1S):Prop:=∃zs:ϊ (ό×ϐ×Int),zs.map (·.2)=ps/\H a=!(.tup (zs.map λz=>V.ref z.1))/\∀z∈zs,H z.1=!(.tup [.str z.2.1,.int z.2.2])
theorem DrT.same{b:L1S}(h:DrT K H a b)(s:Same H H'):DrT K H' a b:=by
 let#[g,e,c,d]:=h;show#[g,e,s.get c,λz f=>s.get (d z f)]
def HsT(K:Ϗ)(H:Hp)(a:ό)(ds:L2S)(es:ϊ Int):Prop:=∃(d e:ό)(rs:ϊ (ό×L1S)),H a=!(.tup [.ref d,.ref e])/\rs.map (·.2)=ds/\H d=!(.tup (rs.map λr=>V.ref r.1))/\(∀r∈rs,DrT K H r.1 r.2)/\H e=!(.tup (es.map V.int))
def DrG(K:Ϗ)(H:Hp)(a:ό)(ps:L1S):Prop:=∃zs:ϊ (ό×ϐ×Int),zs.map (·.2)=ps/\SqT K H a (zs.map λz=>V.ref z.1)/\∀z∈zs,H z.1=!(.tup [.str z.2.1,.int z.2.2])
theorem DrT.g{b:L1S}(h:DrT K H a b):DrG K H a b:=by
 let#[f,e,c,d]:=h;show#[f,e,SqT.of c,d]
theorem DrG.same{b:L1S}(h:DrG K H a b)(s:Same H H'):DrG K H' a b:=by
 let#[g,e,c,d]:=h;show#[g,e,s.tup c,λz f=>s.get (d z f)]
def HsG(K:Ϗ)(H:Hp)(a:ό)(ds:L2S)(es:ϊ Int):Prop:=∃(d e:ό)(rs:ϊ (ό×L1S)),H a=!(.tup [.ref d,.ref e])/\rs.map (·.2)=ds/\SqT K H d (rs.map λr=>V.ref r.1)/\(∀r∈rs,DrG K H r.1 r.2)/\H e=!(.tup (es.map V.int))
theorem HsT.g{b:L2S}{c:ϊ Int}(h:HsT K H a b c):HsG K H a b c:=by
 let#[d,e,n,f,i,j,k,l]:=h;show#[d,e,n,f,i,SqT.of j,λr m=>(k r m).g,l]
theorem HsG.same{b:L2S}{c:ϊ Int}(h:HsG K H a b c)(s:Same H H'):HsG K H' a b c:=by
 let#[d,e,m,f,g,i,j,k]:=h;show#[d,e,m,s.get f,g,s.tup i,λr l=>(j r l).same s,s.get k]
def Dp.intsT{b:ϊ Int}(h:SqT K H a (b.map V.int)):Dp K H (.ref a) (.tuple (b.map PyData.int)):=.tup h (DpAll.ints b)
end L2
namespace Hs
open PySem L2
variable{r:Int}
def dr(ps:L1S)(s:ϐ):ύ Int:=(ps.find? λp=>decide (p.1=s)).map (·.2)
theorem jP(p:ϐ×Int)(r:L1S)(s:ϐ):dr (p::r) s=if p.1=s then !p.2 else dr r s:=by
 unfold dr;by_cases h:p.1=s
 .simp [h]
 .simp [h]
theorem kZ{r:Int}:∀{ps:L1S},dr ps s=!r->(s,r)∈ps
 |[],h=>by cases h
 |p::ps,h=>by
  rw[jP]at h;by_cases e:p.1=s
  .rw [if_pos e]at h
   cases h;rw[<-e];show É
  .rw [if_neg e]at h;show Ì _ (kZ h)
def stp(ds:L2S)(o:ύ Int)(s:ϐ):ύ Int:=o.bind λr=>dr (ds.getD r.toNat []) s
def go(ds:L2S)(cs:ϊ Nat):ύ Int:=cs.foldl (λo c=>stp ds o (tx [c])) !0
structure Wf(ds:L2S):Prop where
 pos:0<↑ds
 rm:∀ps∈ds,∀p∈ps,0<=p.2/\p.2<↑ds
theorem uI(a:L2S)(b:ϊ Nat)(c:Nat):go a (b++[c])=stp a (go a b) (tx [c]):=by
 unfold go;rw[Ŀ];rfl
theorem Qp(h:go ds a=none):go ds (a++ys)=none:=by
 unfold go at h⊢;rw[Ŀ,h];clear h;induction ys with
 |nil=>rfl
 |cons y r ih=>show ih
theorem getD_at{b:Type}{a:ϊ b}{d:b}(c:0<=r)(e:r<↑a):a.getD r.toNat d=a[r.toNat]'(by rfl'):=by
 rw[Xs,Qr ()];rfl
theorem Bj(w:Wf ds):∀{cs:ϊ Nat},go ds cs=!r->0<=r/\r<↑ds:=by
 intro cs
 suffices ∀(cs:ϊ Nat)(a:Int),0<=a->a<↑ds->cs.foldl (λo c=>stp ds o (tx [c])) (!a)=!r->0<=r/\r<↑ds by
  show this cs 0 (by decide) (by have:=w.pos;rfl')
 intro cs;induction cs with
 |nil=>intro a b d h;cases h;show#[b,d]
 |cons c rest ih=>
  intro a b d h;rw[Ń]at h
  cases e:stp ds (!a) (tx [c])with
  |none=>
   rw[e]at h;have:∀l:ϊ Nat,l.foldl (λo c=>stp ds o (tx [c])) none=none:=λl=>by
    induction l with
    |nil=>rfl
    |cons y r ih=>show ih
   rw[this]at h
   cases h
  |some r1=>
   rw[e]at h;have m:=kZ (show dr (ds.getD a.toNat []) (tx [c])=!r1 from e);rw[getD_at b d]at m;have:=w.rm _ (Ó _) _ m;show ih r1 this.1 this.2 h
def yX:ϐ:=Str.ofString " !\"#$&'()*+,-./0123456789:;<=>?@ABCDEFGHIJKLMNOPQRSTUVWXYZ[\\]^_`"++Str.ofString "abcdefghijklmnopqrstuvwxyz{|}~"
def lD(n:Int):Nat:=yX.cps.toList.getD (n%94).toNat 0
def Sg(s:ϐ):Prop:=∃n:Int,s=tx [lD n]
end Hs
namespace L2
open PySem
variable{j:Nat}
abbrev Dz:=ό×ϐ×Int
variable{rows:ϊ (ό×ϊ Dz)}
def Rws(H:Hp)(rows:ϊ (ό×ϊ Dz)):Prop:=(rows.map (·.1)).Nodup/\∀row∈rows,H row.1=!(.lst (row.2.map λz:Dz=>V.ref z.1))/\∀z∈row.2,H z.1=!(.tup [.str z.2.1,.int z.2.2])
def Rws.same(h:Rws H rows)(s:Same H b):Rws b rows:=#[h.1,λa c=>#[s.get (h.2 a c).1,λz d=>s.get ((h.2 a c).2 z d)]]
theorem Bk(a:j<↑rows)(b:ϊ Dz):(rows.set j (rows[j].1,b)).map (·.1)=rows.map (·.1):=by
 apply List.ext_getElem?;intro k;rw[Jn,Jn,ŝ];by_cases e:j=k
 .subst e;rw[if_pos rfl,if_pos a,Qr a];rfl
 .rw [if_neg e]
theorem Rws.app{s:ϐ}{r:Int}(h:Rws H rows)(g:j<↑rows)(f:H t=!(.tup [.str s,.int r])):
  Rws (upd H rows[j].1 (.lst ((rows[j].2++[(t,s,r)]).map λz:Dz=>V.ref z.1))) (rows.set j (rows[j].1,rows[j].2++[(t,s,r)])):=by
 show#[by rw[Bk g];show h.1,λo l=>?_];have a:rows[j]∈rows:=Ó g;have d:=(h.2 _ a).1;rcases Ĳ l with m|rfl
 .obtain ⟨k,i,e⟩:=ă.mp l;rw[List.getElem_set]at e;by_cases q:j=k
  .rw [if_pos q]at e;subst e;show#[aa,λz c=>?_];rcases Å.mp c with w|w
   .rw [ao (fZ ((h.2 _ a).2 z w) d (by intro q;cases q))];show(h.2 _ a).2 z w
   .rw [Zs.mp w];rw[ao (fZ f d (by intro q;cases q))];show f
  .rw [if_neg q]at e;subst e;rw[Η]at i;have n:rows[k].1≠rows[j].1:=by
    intro z;have:=(Ŧ (h₀:=by simpa using i) (h₁:=by simpa using g) h.1).mp (by rw[õ,õ];show z);show q this.symm
   have b:rows[k]∈rows:=Ó i;show#[by rw[ao n];show(h.2 _ b).1,λz c=>?_];rw[ao (fZ ((h.2 _ b).2 z c) d (by intro q;cases q))];show(h.2 _ b).2 z c
 .show #[aa,λz c=>?_];rcases Å.mp c with w|w
  .rw [ao (fZ ((h.2 _ a).2 z w) d (by intro q;cases q))];show(h.2 _ a).2 z w
  .rw [Zs.mp w];rw[ao (fZ f d (by intro q;cases q))];show f
section
theorem V0{n:Int}(m:Nat)(e:n.toNat=m)(v:m<=1000000)(w:-1000000000<=n)
  (x:∀(i:Nat) H',i<m->∀(A:VK),(∀p,H' p=none->A (.ref p) (upd H' p (.lst [])))->g (.int (i:Int)) (cap κ σ) H' λk H2=>oE (cap κ σ) k/\te k H2 A)
  (t:∀p H' (c:ϊ ό),Same H H'->H p=none->↑c=m->c.Nodup->p∉c->(∀a∈c,H a=none/\H' a=!(.lst []))->H' p=!(.lst (c.map V.ref))->Q (.ref p) H'):iR (yR κ g cZ te σ Q) [.int n] H:=by
 show yS m e v w (λi l H'=>∃c:ϊ ό,l=c.map V.ref/\↑c=i/\c.Nodup/\Same H H'/\∀a∈c,H a=none/\H' a=!(.lst [])) #[[],rfl,rfl,Ÿ,Same.refl H,by simp] ?_ ?_ ?_
 .rintro i l H' ⟨c,rfl,rfl,_⟩;simp
 .rintro i l H' u ⟨c,rfl,rfl,o,j,h⟩;have q:=x ↑c H' u (λy r=>∃f:ϊ ό,c.map V.ref++[y]=f.map V.ref/\↑f=↑c+1/\f.Nodup/\Same H r/\∀a∈f,H a=none/\r a=!(.lst [])) λp d=>by
   show#[c++[p],by simp,by simp,?_,j.new d,λa m=>?_]
   .rw [â];show#[o,by simp,λa m b z e=>?_];rw[Zs.mp z]at e;subst e;rw[(h a m).2]at d;cases d
   .rcases Å.mp m with m|m
    .show #[(h a m).1,az d (h a m).2]
    .rw [Zs.mp m];show#[j.free d,aa]
  simpa only[cZ,ľ]using q
 .rintro l H' ⟨c,rfl,s,o,j,h⟩ p d;show t p _ c (j.new d) (j.free d) s o (λm=>?_) (λa m=>#[(h a m).1,az d (h a m).2]) aa;rw[(h p m).2]at d;cases d
theorem uJ{c d:Type}{g:c->d}{l a:ϊ d}(h:l.Perm a):∀{zs:ϊ c},l=zs.map g->∃b:ϊ c,b.Perm zs/\a=b.map g:=by
 induction h with
 |nil=>intro zs e;show#[zs,.refl _,e]
 |cons x _ ih=>
  intro zs e
  cases zs with
  |nil=>cases e
  |cons z zs=>
   rw[È]at e;injection e with e1 e2
   let#[b,p,q]:=ih e2;show#[z::b,p.cons z,by rw[È,q,e1]]
 |swap x y l=>
  intro zs e
  match zs,e with
  |z1::z2::r,e=>
   rw[È,È]at e;injection e with e1 e2
   injection e2 with e2 e3
   show#[z2::z1::r,.swap _ _ _,by rw[È,È,e1,e2,e3]]
 |trans _ _ ih1 ih2=>
  intro zs e;let#[b,p,q]:=ih1 e;let#[j,f,i]:=ih2 q;show#[j,f.trans p,i]
def xg{a d:Type}{g:a->d}{b:ϊ d}{c:ϊ a}(h:b.Perm (c.map g)):∃vs:ϊ a,vs.Perm c/\b=vs.map g:=uJ h.symm rfl
end
end L2
namespace Hs
def qx(n:Int):lD n<1114112:=by
 unfold lD;have h:∀c∈yX.cps.toList,c<1114112:=by ac_nf
 rw[Xs]
 cases e:yX.cps.toList[(n%94).toNat]?with
 |none=>decide
 |some c=>show h c (Yf e)
end Hs
namespace L2
open PySem
variable{ht:Nat}
abbrev Lz:=ό×ϐ×ό×ϊ Nat
abbrev nv(xs:ϊ Nat):ϊ V:=xs.map λi:Nat=>V.int (i:Int)
def FnT(K:Ϗ)(H:Hp)(a:ό)(ht:Nat)(ls:ϵ):Prop:=∃(l:ό)(zs:ϊ Lz),H a=!(.tup [.int (ht:Int),.ref l])/\zs.map (λz:Lz=>(z.2.1,z.2.2.2))=ls/\SqT K H l (zs.map λz:Lz=>V.ref z.1)/\∀z∈zs,H z.1=!(.tup [.str z.2.1,.ref z.2.2.1])/\H z.2.2.1=!(.tup (nv z.2.2.2))
theorem FnT.same(h:FnT K H a ht ls)(s:Same H H'):FnT K H' a ht ls:=by
 let#[l,g,d,e,f,b]:=h;show#[l,g,s.get d,e,s.tup f,λz c=>#[s.get (b z c).1,s.get (b z c).2]]
def FnF(K:Ϗ)(H:Hp)(a:ό)(ht:Nat)(ls:ϵ):Prop:=∃(l:ό)(ob:PySem.Obj)(zs:ϊ Lz),H a=!(.tup [.int (ht:Int),.ref l])/\zs.map (λz:Lz=>(z.2.1,z.2.2.2))=ls/\ob.dict=none/\H l=!(.frz ob (.tup (zs.map λz:Lz=>V.ref z.1)))/\∀z∈zs,H z.1=!(.tup [.str z.2.1,.ref z.2.2.1])/\H z.2.2.1=!(.tup (nv z.2.2.2))
theorem FnF.same(h:FnF K H a ht ls)(s:Same H H'):FnF K H' a ht ls:=by
 let#[l,ob,i,d,e,g,f,b]:=h;show#[l,ob,i,s.get d,e,g,s.get f,λz c=>#[s.get (b z c).1,s.get (b z c).2]]
theorem FnF.t(h:FnF K H a ht ls):FnT K H a ht ls:=by
 let#[l,ob,f,b,c,g,d,e]:=h;show#[l,f,b,c,.inl (.inr #[ob,d]),e]
end L2
namespace Fo
open PySem L2
variable{ht:Nat}
def lk(ls:ϵ)(s:ϐ):ύ (ϊ Nat):=(ls.find? λp=>decide (p.1=s)).map (·.2)
theorem j5(p:ϐ×ϊ Nat)(r:ϵ)(s:ϐ):lk (p::r) s=if p.1=s then !p.2 else lk r s:=by
 unfold lk;by_cases h:p.1=s
 .simp [h]
 .simp [h]
theorem bI:∀{ls:ϵ},lk ls s=!c->(s,c)∈ls
 |[],h=>by cases h
 |p::ps,h=>by
  rw[j5]at h;by_cases e:p.1=s
  .rw [if_pos e]at h
   cases h;rw[<-e];show É
  .rw [if_neg e]at h;show Ì _ (bI h)
theorem yZ:∀{ls:ϵ},s∈ls.map (·.1)->∃c,lk ls s=!c
 |p::ps,h=>by
  rw[j5];by_cases e:p.1=s
  .show #[_,if_pos e]
  .rw [if_neg e];rcases Ç.mp h with h|h
   .show absurd h.symm e
   .show yZ h
def cl(ls:ϵ)(c:Nat):ϊ Nat:=(lk ls (tx [c])).getD []
def m9(ls:ϵ)(cs:ϊ Nat):ϊ Nat:=cs.flatMap (cl ls)
theorem Qq(c:ϵ)(a b:ϊ Nat):m9 c (a++b)=m9 c a++m9 c b:=by unfold m9;rw[Α]
theorem qy(b:ϵ)(a:ϊ Nat)(c:Nat):m9 b (a++[c])=m9 b a++cl b c:=by rw[Qq];simp[m9]
structure Wf(ht:Nat)(ls:ϵ):Prop where
 pos:0<↑ls
 le:↑ls<=40
 up:(ls.map (·.1)).Pairwise lC
 sg:∀p∈ls,Hs.Sg p.1
 c1:∀p∈ls,1<=↑p.2/\↑p.2<=8
 cb:∀p∈ls,∀x∈p.2,x<2^ht
theorem Wf.cl_le(w:Wf ht ls)(c:Nat):↑(cl ls c)<=8:=by
 unfold cl
 cases e:lk ls (tx [c])with
 |none=>simp
 |some d=>show(w.c1 _ (bI e)).2
theorem Wf.cl_lt(w:Wf ht ls)(c:Nat):∀x∈cl ls c,x<2^ht:=by
 unfold cl
 cases e:lk ls (tx [c])with
 |none=>simp
 |some d=>show w.cb _ (bI e)
theorem Wf.pic_le(w:Wf ht ls):∀cs:ϊ Nat,↑(m9 ls cs)<=8*↑cs
 |[]=>by simp[m9]
 |c::r=>by
  have h:=w.pic_le r;have a:=w.cl_le c;unfold m9 at h⊢;rw[Ł,Â,í];rfl'
theorem Wf.pic_lt(w:Wf ht ls)(a:ϊ Nat):∀x∈m9 ls a,x<2^ht:=λx b=>by
 let#[c,_,h]:=ó.mp b;show w.cl_lt c x h
end Fo
namespace L2
open PySem
variable{a:ό}{kvs:ϊ (ϐ×V)}{zs:ϊ (ό×ϐ×V)}
theorem FnT.at{d:Nat}(h:FnT K H a d ls):∃l,SqT K H a [.int (d:Int),.ref l]/\∃zs:ϊ Lz,SqT K H l (zs.map λz:Lz=>V.ref z.1)/\↑zs=↑ls/\zs.map (λz:Lz=>(z.2.1,z.2.2.2))=ls/\∀z∈zs,SqT K H z.1 [.str z.2.1,.ref z.2.2.1]/\SqT K H z.2.2.1 (nv z.2.2.2):=by
 let#[l,zs,f,b,g,c]:=h;show#[l,SqT.of f,zs,g,by rw[<-b,Qb],b,λz e=>#[SqT.of (c z e).1,SqT.of (c z e).2]]
abbrev Kz:=ϐ×ό×ϊ Nat
section
variable{H:Hp}{Q:VK}{K:Ϗ}
def DQ(e:Rd H a (.dK (kvs.map λp=>(Sum.inr p.1,p.2))))(b:↑kvs<64)(h:∀r (ns:ϊ ϐ),ns.Perm (kvs.map (·.1))->ns.Pairwise lC->H r=none->Q (.ref r) (upd H r (.lst (ns.map V.str)))):ur [.ref a] H Q:=#[a,kvs,rfl,e,b,h]
def HH{kvs:ϊ (Int×V)}(e:H a=!(.dK (kvs.map λp=>(Sum.inl p.1,p.2))))(b:↑kvs<64)(h:∀r (ns:ϊ Int),ns.Perm (kvs.map (·.1))->ns.Pairwise (·<·)->H r=none->Q (.ref r) (upd H r (.lst (ns.map V.int)))):ut [.ref a] H Q:=#[a,kvs,rfl,e,b,h]
def z7(e:SqL K H p ys)(h:∀l (ob:PySem.Obj),ob.dict=none->H l=none->Q (.ref l) (upd H l (.frz ob (.tup ys)))):sV K [.ref p] H Q:=#[p,ys,rfl,e,h]
noncomputable abbrev sN(l:ϊ String):ϊ ϐ:=l.map Str.ofString
abbrev RG(rd:XK->TS)(ns:ϊ ϐ)(vs:ϊ V)(H:Hp)(Q:VK):Prop:=∃Eh,rd Eh {nx:=λ_ H'=>Q .non H',rt:=Q} (start ns vs) H
def qz{ob:PySem.Obj}(b:ob.dict=none)(c:H a=!(.frz ob (.tup (zs.map λz=>V.ref z.1))))(d:∀z∈zs,SqT K H z.1 [.str z.2.1,z.2.2])(e:(zs.map (·.2.1)).Nodup)(f:↑zs<=1000)(h:∀r,H r=none->Q (.ref r) (upd H r (.dK (zs.map λz=>(Sum.inr z.2.1,z.2.2))))):jM K [.ref a] H Q:=#[a,zs,rfl,.inl #[ob,b,c],d,e,f,h]
theorem DR(a:ϊ Nat)(c:Nat):PySem.Txt.rstripChars (tx a) (tx [c])=tx (a.take (↑a-↑(a.reverse.takeWhile λx=>(([c].toArray):ϔ Nat).contains x))):=by
 unfold PySem.Txt.rstripChars PySem.Txt.stripBy;have d:PySem.stripHi (tx [c]).cps.contains true (tx a) (PySem.stripLo (tx [c]).cps.contains false (tx a))=↑a-↑(a.reverse.takeWhile λx=>(([c].toArray):ϔ Nat).contains x):=by
  change↑(tx a)-_=_;rw[bH];rfl
 split
 .rename_i h;unfold PySem.stripSame at h;rw[d,Ă]at h;have b:=beq_iff_eq.mp h.2;rw[bH]at b;rw[b,Ö]
 .unfold PySem.stripped;rw[d];change(#[(tx a).cps.extract 0 _]:ϐ)=_;unfold tx;congr 1;apply Array.toList_inj.mp;simp
theorem HJ{c:Nat}(j:↑cs<=1000000)(h:∀(ds:ϊ Nat)(k:Nat),cs=ds++List.replicate k c->(∀x,ds.getLast?=!x->x≠c)->Q (.str (tx ds)) H):uw (.str (tx cs)) [.str (tx [c])] H Q:=by
 show#[tx cs,tx [c],rfl,rfl,by rw[bH];show Î j (by decide),?_];rw[DR];have d:cs.reverse=(cs.reverse.takeWhile λx=>(([c].toArray):ϔ Nat).contains x)++(cs.reverse.dropWhile λx=>(([c].toArray):ϔ Nat).contains x):=(List.takeWhile_append_dropWhile).symm;have a:cs=(cs.reverse.dropWhile λx=>(([c].toArray):ϔ Nat).contains x).reverse++(cs.reverse.takeWhile λx=>(([c].toArray):ϔ Nat).contains x).reverse:=by
  have:=Ý List.reverse d;rwa[List.reverse_reverse,List.reverse_append]at this
 have f:(cs.reverse.takeWhile λx=>(([c].toArray):ϔ Nat).contains x).reverse=List.replicate ↑(cs.reverse.takeWhile λx=>(([c].toArray):ϔ Nat).contains x) c:=by
  show List.eq_replicate_iff.mpr #[by rw[ţ],λx m=>?_];have:=ż.mp (List.all_takeWhile (p:=λx=>(([c].toArray):ϔ Nat).contains x) (l:=cs.reverse)) x (List.mem_reverse.mp m);simpa using this
 have i:cs.take (↑cs-↑(cs.reverse.takeWhile λx=>(([c].toArray):ϔ Nat).contains x))=(cs.reverse.dropWhile λx=>(([c].toArray):ϔ Nat).contains x).reverse:=by
  have b:=Ý List.length a;rw[Â,ţ,ţ]at b;clear f d;generalize(cs.reverse.takeWhile λx=>(([c].toArray):ϔ Nat).contains x)=T at a b⊢;generalize(cs.reverse.dropWhile λx=>(([c].toArray):ϔ Nat).contains x)=D at a b⊢;rw[b,Nat.add_sub_cancel]
  conv=>lhs;rw[a]
  rw[List.take_append_of_le_length (by rw[ţ];show Ä _)];show è (by rw[ţ];show Ä _)
 rw[i];show h _ ↑(cs.reverse.takeWhile λx=>(([c].toArray):ϔ Nat).contains x) (by rw[<-f];show a) λx g=>?_
 rw[List.getLast?_reverse]at g;have:=List.head?_dropWhile_not (λx=>(([c].toArray):ϔ Nat).contains x) cs.reverse;rw[g]at this;intro e;subst e;simp at this
theorem a1l(t:↑cs<=1000000)(a:Nat->ϊ V->Hp->Prop)(r:a 0 [] H)(w:∀i ys H',a i ys H'->↑ys<=i)
  (v:∀(i c:Nat) ys H',cs[i]?=!c->a i ys H'->g (.str (tx [c])) (cap κ σ) H' λh H2=>oE (cap κ σ) h/\tc h H2 λb l=>if b=true then te h l λy n=>a (i+1) (ys++[y]) n else a (i+1) ys l)
  (s:∀ys H',a ↑cs ys H'->∀p,H' p=none->Q (.ref p) (upd H' p (.lst ys))):iS (yR κ g tc te σ Q) (.str (tx cs)) H:=by
 show#[tx cs,rfl,λi m ys H'=>m=↑cs-i/\i<=↑cs/\a i ys H',#[↑cs,by simp,à _,r],?_];rintro i m ys H' ⟨rfl,z,p⟩;by_cases f:i<↑cs
 .show .inr #[f,?_,λj d=>a (i+1) j d,λj d k=>#[↑cs-(i+1),(),rfl,f,k],λx d y=>?_]
  .show Õ (w i ys H' p) (Ñ f (Î t (by decide)))
  .obtain ⟨e,c,o,q⟩:=y;subst e q;show v i c ys _ (by simpa[tx]using o) p
 .have e:i=↑cs:=()
  subst e;show .inl #[rfl,λk u=>s ys H' p k u]
theorem YM(u:z.cps.size<=1000000)(f:Nat->ύ V)
  (w:∀(i c:Nat),z.cps[i]?=!c->∀(A:VK)(B:Hp->Prop),(∀y,f c=!y->A y H)->(f c=none->B H)->g (.str #[([c].toArray)]) (cap κ σ) H λh H2=>oE (cap κ σ) h/\tc h H2 λb l=>if b=true then te h l A else B l)
  (t:∀p,H p=none->Q (.ref p) (upd H p (.lst (z.cps.toList.filterMap f)))):iS (yR κ g tc te σ Q) (.str z) H:=by
 show#[z,rfl,λi m r k=>m=z.cps.size-i/\i<=z.cps.size/\k=H/\r=(z.cps.toList.take i).filterMap f,#[z.cps.size,by simp,à _,rfl,rfl],?_];rintro i m r k ⟨rfl,C,rfl,rfl⟩;by_cases d:i<z.cps.size
 .show .inr #[d,?_,λj a=>a=k/\j=(z.cps.toList.take (i+1)).filterMap f,λj a q=>#[z.cps.size-(i+1),(),rfl,d,q.1,q.2],λx a y=>?_]
  .have:↑((z.cps.toList.take i).filterMap f)<=i:=Î (ď _ _) (by rw[Ô];rfl');show Õ this (Ñ d (Î u (by decide)))
  .obtain ⟨e,c,n,s⟩:=y;subst e s;have o:z.cps.toList.take (i+1)=z.cps.toList.take i++[c]:=by
    rw[Í,û,n];rfl
   show w i c n _ _ (λy e=>#[rfl,?_]) (λe=>#[rfl,?_])
   .rw [o,Mm.bM,e];rfl
   .rw [o,Mm.bM,e];simp
 .have e:i=z.cps.size:=()
  subst e;show .inl #[rfl,λp v=>?_];rw[show z.cps.toList.take z.cps.size=z.cps.toList from è (by simp)];show t p v
end
theorem HN{zs:ϊ Lz}(h:Fo.lk (zs.map λz:Lz=>(z.2.1,z.2.2.2)) s=!co):∃z∈zs,z.2.2.2=co/\bx (zs.map λz:Lz=>((Sum.inr z.2.1:Key),V.ref z.2.2.1)) (Sum.inr s)=!(.ref z.2.2.1):=by
 induction zs with
 |nil=>cases h
 |cons p r ih=>
  rw[È,Fo.j5]at h;by_cases e:p.2.1=s
  .rw [if_pos e]at h
   cases h;show#[p,É,rfl,bZ (p:=(Sum.inr p.2.1,V.ref p.2.2.1)) (by rw[e])]
  .rw [if_neg e]at h;let#[q,m,a,b]:=ih h;show#[q,Ì _ m,a,(bL (p:=((Sum.inr p.2.1:Key),V.ref p.2.2.1)) (λz=>e (ě z))).trans b]
theorem eU{c:Type}[DecidableEq c]:∀{xs ys:ϊ c},xs.Nodup->(∀x∈xs,x∈ys)->↑xs<=↑ys
 |[],_,_,_=>à _
 |x::r,ys,hn,h=>by
  have a:=h x É;have:=eU (xs:=r) (ys:=ys.erase x) (é.mp hn).2 λy b=>(List.mem_erase_of_ne (show y≠x fromλe=>(é.mp hn).1 (by rw[<-e];show b))).mpr (h y (Ì _ b))
  rw[List.length_erase_of_mem a]at this;have:0<↑ys:=ů a;rw[í];rfl'
def z8(a:ϐ):¬lC a a:=Ő _
theorem dW{c:ϊ ϐ}(h:c.Pairwise lC):c.Nodup:=Ŝ (S:=λa b=>a≠b) (λ{a b} (z:lC a b) (e:a=b)=>z8 a (by rw[<-e]at z;show z)) h
section
theorem V1{s:Type}(c:s->V){zs:ϊ s}(D:SqT K H a (zs.map c))(A:↑zs<=1000000)(d:Nat->ϊ V->Hp->Prop)(u:d 0 [] H)(w:∀i ys H',d i ys H'->SqT K H' a (zs.map c))(E:∀i ys H',d i ys H'->↑ys<=i)
  (C:∀(i:Nat) z ys H',zs[i]?=!z->d i ys H'->g (c z) (cap κ σ) H' λj H2=>oE (cap κ σ) j/\tc j H2 λb o=>if b=true then te j o λy t=>d (i+1) (ys++[y]) t else d (i+1) ys o)
  (v:∀ys H',d ↑zs ys H'->∀p,H' p=none->Q (.ref p) (upd H' p (.lst ys))):iT K (yR κ g tc te σ Q) (.ref a) H:=by
 show#[a,rfl,#[_,D],λi m ys H'=>m=↑zs-i/\i<=↑zs/\d i ys H',#[↑zs,by simp,à _,u],?_];rintro i m ys H' ⟨rfl,F,p⟩;have q:=w i ys H' p;by_cases h:i<↑zs
 .have l:zs[i]?=!zs[i]:=Qr h;show .inr #[#[_,c zs[i],q,by rw[Jn,l];rfl],?_,λk f=>d (i+1) k f,λk f n=>#[↑zs-(i+1),(),rfl,h,n],λx f y=>?_]
  .show Õ (E i ys H' p) (Ñ h (Î A (by decide)))
  .obtain ⟨e,y⟩:=y;subst e;have r:=y _ q;rw[Jn,l]at r
   cases r;show C i _ ys _ l p
 .have e:i=↑zs:=()
  subst e;show .inl #[#[_,q,by simp],λn B=>v ys H' p n B]
end
end L2
namespace Mm
theorem fc:∀{a b c d:ϊ Nat},↑a=↑c->aY (a++b) (c++d)=aY a c+aY b d
 |[],b,[],d,_=>by simp[aY]
 |x::a,b,y::c,d,h=>by
  rw[ť,ť,aY,aY,fc (by simpa using h)];rfl'
end Mm
namespace L2
open PySem
section
def V2(e:SqL K H a (ns.map V.int))(b:ns≠[])(h:∀m,m∈ns->(∀n∈ns,n<=m)->Q (.int m) H):Ar K [.ref a] H Q:=#[a,ns,rfl,e,b,h]
end
end L2
namespace Hs
open PySem L2
theorem HQ{c:Type}{R:c->c->Prop}(d:∀a b,R a b->R b a->False):∀{l1 l2:ϊ c},l1.Perm l2->l1.Pairwise R->l2.Pairwise R->l1=l2
 |[],l2,h,_,_=>by rw[List.nil_perm]at h;show h.symm
 |a::t,l2,h,h1,h2=>by
  cases l2 with
  |nil=>show absurd h.symm (by intro z;rw[List.nil_perm]at z;cases z)
  |cons b u=>
   have e:a=b:=by
    rcases Ç.mp (h.mem_iff.mp É)with e|m
    .show e
    .rcases Ç.mp (h.mem_iff.mpr É)with e|m'
     .show e.symm
     .show (d _ _ ((Ŏ.mp h1).1 b m') ((Ŏ.mp h2).1 a m)).elim
   subst e;rw[HQ d h.cons_inv (Ŏ.mp h1).2 (Ŏ.mp h2).2]
def YQ{c d:ϊ Int}(e:c.Perm p)(g:c.Pairwise (·<·))(f:d.Perm p)(i:d.Pairwise (·<·)):c=d:=
 HQ (λa b (h:a<b) j=>()) (e.trans f.symm) g i
def Srt(rows:ϊ (ό×ϊ Dz))(ds:L2S):Prop:=↑ds=↑rows/\∀(j:Nat) ps row,ds[j]?=!ps->rows[j]?=!row->ps.Perm (row.2.map (·.2))/\(ps.map (·.1)).Pairwise lC
end Hs
namespace L2
open PySem
variable{a:ό}{zs:ϊ (ό×ϐ×V)}
theorem DrT.of{K:Ϗ}{H:Hp}{t:ό}{a:L1S}(f:H t=!(.tup (zs.map λz=>V.ref z.1)))(g:∀z∈zs,H z.1=!(.tup [.str z.2.1,z.2.2]))(e:zs.map (·.2)=a.map λp=>(p.1,V.int p.2)):DrT K H t a:=by
 show#[(zs.zip a).map λq=>(q.1.1,q.2.1,q.2.2),?_,?_,?_]
 .rw [Æ];change(zs.zip a).map (λq=>q.2)=a;rw[List.map_snd_zip (by have:=Ý List.length e;simp at this;rfl')]
 .rw [Æ];have:(zs.zip a).map ((λz:ό×ϐ×Int=>V.ref z.1)∘λq=>(q.1.1,q.2.1,q.2.2))=((zs.zip a).map (·.1)).map λz=>V.ref z.1:=by rw[Æ];rfl
  rw[this,List.map_fst_zip (by have:=Ý List.length e;simp at this;rfl')];show f
 .intro z k;let#[q,j,rfl]:=Zl.mp k;let#[i,h,c]:=ă.mp j;rw[List.getElem_zip]at c;have b:i<↑zs/\i<↑a:=by rw[List.length_zip]at h;rfl'
  have d:zs[i].2=(a[i].1,V.int a[i].2):=by
   have:=Ý (λl=>l[i]?) e;simp only[Jn,Qr b.1,Qr b.2,Œ]at this;show ß this
  rw[<-c];have:=g _ (Ó b.1);rw[d]at this;show this
section
def V3(e:H a=!(.dT kvs))(h:Q (.int ↑kvs) H):GX [.ref a] H Q:=#[a,kvs,rfl,e,h]
end
theorem fj{b:Type}{f:b->Key}{g:b->V}{a:ϊ b}(h:k∉a.map f):bx (a.map λz=>(f z,g z)) k=none:=by
 induction a with
 |nil=>rfl
 |cons z r ih=>
  rw[È]at h⊢;rw[bL (λe=>h (by rw[<-e];show É))];show ih (λm=>h (Ì _ m))
theorem YS(n:Nat)(h:Hs.Sg s):Sh n (.str s):=by
 let#[k,rfl]:=h;show yW n λc a=>by rw[Zs.mp a];show Hs.qx k
def xO(ls:ϵ):PyData:=.list (ls.map λp=>.tuple [.str p.1,.list ((p.2.map λi:Nat=>(i:Int)).map PyData.int)])
section
def Bl(e:SqL K H a (ns.map V.str))(d:ns.Nodup)(c:↑ns<64)(h:∀r (b:ϊ ϐ),b.Perm ns->b.Pairwise lC->H r=none->Q (.ref r) (upd H r (.lst (b.map V.str)))):q9 K [.ref a] H Q:=#[a,ns,rfl,e,d,c,h]
end
end L2
namespace Fo
open PySem L2
structure GoodL(ht:Nat)(zs:ϊ Lz):Prop where
 pos:1<=↑zs
 le:↑zs<=40
 nd:(zs.map λz:Lz=>z.2.1).Nodup
 sg:∀z∈zs,Hs.Sg z.2.1
 c1:∀z∈zs,1<=↑z.2.2.2/\↑z.2.2.2<=8
 cb:∀z∈zs,∀x∈z.2.2.2,x<2^ht
end Fo
namespace Hs
open PySem L2
def Qs{m n:Int}(h:lD m=lD n):m%94=n%94:=by
 have f:↑yX.cps.toList=94:=by ac_nf
 have a:yX.cps.toList.Nodup:=by ac_nf
 have b:0<=m%94:=ġ _ (by decide);have c:m%94<94:=ĕ _ (by decide);have d:0<=n%94:=ġ _ (by decide);have e:n%94<94:=ĕ _ (by decide);unfold lD at h;rw[Xs,Xs,Qr (),Qr ()]at h;have:=(Ŧ (h₀:=()) (h₁:=()) a).mp h;rfl'
end Hs
namespace L2
open PySem
variable{H:Hp}{c n:Int}{a b p:ό}{rows:Ϸ}
abbrev Gz:=ό×V×ό×ϊ V
theorem V4{n m:Nat}(a:0<n)(e:c%(n:Int)=(m:Int))(h:Q (.int (m:Int)) H):bJ (.int c) (.int (n:Int)) H Q:=#[c,n,rfl,rfl,(),by change Q (.int (c%(n:Int))) H;rw[e];show h]
theorem Qt{a:ϊ V}{R:Hp->Prop}(e:H l=!(.lst a))(b:0<↑a)(h:R (upd H l (.lst (a.set (↑a-1) v)))):nH (.ref l) (.int (-1)) v H R:=by
 show#[l,a,-1,↑a-1,rfl,rfl,e,?_,h];unfold FN;rw[if_neg (by decide),if_pos ()];congr 1;rfl'
section
def iRD(R:It->Hp->Prop)(vs:ϊ V)(H:Hp):Prop:=∃i j:Int,vs=[.int i,.int j,.int (-1)]/\(-(2^62)<=i/\i<2^62/\-(2^62)<=j/\j<2^62)/\R (PJ i (i-j).toNat) H
theorem V5{lo:Int}(m:Nat)(e:(lo-n).toNat=m)(u:n<=1000000000)(v:-1000000000<=n)(o:-1000000000<=lo)(d:lo<=1000000000)(a:Nat->St->Hp->Prop)(j:a 0 σ H)
  (q:∀(i:Nat) σ H',i<m->a i σ H'->g (.int (lo-i)) σ H' λc H2=>tb {D with nx:=a (i+1),ct:=a (i+1),bk:=D.nx} c H2) (l:∀σ H',a m σ H'->D.nx σ H'):iRD (qm g tb D σ) [.int lo,.int n,.int (-1)] H:=by
 show#[lo,n,rfl,#[(),(),(),()],?_];rw[e];show#[λi k σ H=>k=m-i/\i<=m/\a i σ H,#[m,by simp,à _,j],?_];rintro i k σ H ⟨rfl,t,p⟩;by_cases b:i<m
 .show .inr #[b,a (i+1),λs H' r=>#[m-(i+1),(),rfl,b,r],λx H' y=>?_];let#[f,h]:=y;subst f h;show q i σ _ b p
 .have e:i=m:=()
  subst e;show .inl #[Nat.le_refl _,l σ H p]
def iZG(K:Ϗ)(R:It->Hp->Prop)(vs:ϊ V)(H:Hp):Prop:=∃a b xs ys q,vs=[.ref a,.ref b]/\SqT K H a xs/\Em K H b ys q/\R (Us K a b q) H
theorem qC{b:ϊ V}(s:Same H H'):∀{q:ϑ},Em K H a b q->Em K H' a b q
 |true,h=>s.seq h
 |false,h=>s.tup h
theorem YT{D E:Type}(c:D->V)(d:E->V){h:ϊ D}{j:ϊ E}(B:SqT K H a (h.map c))(C:Em K H b (j.map d) J)(N:↑h=↑j)(O:↑h<=1000000)(f:D->E->V)
  (P:∀(i:Nat) x y p H',h[i]?=!x->j[i]?=!y->Same H H'->H' p=!(.tup [c x,d y])->∀A:VK,(∀o,Same H' o->A (f x y) o)->g (.ref p) (cap κ σ) H' λs H2=>oE (cap κ σ) s/\te s H2 A)
  (M:∀p H',Same H H'->H' p=!(.lst (List.zipWith f h j))->Q (.ref p) H'):iZG K (yR κ g cZ te σ Q) [.ref a,.ref b] H:=by
 show#[a,b,_,_,J,rfl,B,C,λi m L H'=>m=↑h-i/\i<=↑h/\Same H H'/\L=List.zipWith f (h.take i) (j.take i),#[↑h,by simp,à _,Same.refl H,rfl],?_];rintro i m L H' ⟨rfl,U,k,rfl⟩;by_cases n:i<↑h
 .have t:h[i]?=!h[i]:=Qr n;have u:j[i]?=!(j[i]'(by rfl')):=Qr ();show .inr #[#[_,_,c h[i],d (j[i]'(by rfl')),k.tup B,qC k C,by rw[Jn,t];rfl,by rw[Jn,u];rfl],?_,λr l=>Same H l/\r=List.zipWith f (h.take (i+1)) (j.take (i+1)),λr l I=>#[↑h-(i+1),(),rfl,n,I.1,I.2],λv l y=>?_]
  .have:↑(List.zipWith f (h.take i) (j.take i))<=i:=by
    rw[List.length_zipWith,Ô];rfl'
   show Õ this (Ñ n (Î O (by decide)))
  .obtain ⟨p,x,z,w,rfl,rfl,R,S⟩:=y;have F:=R _ (k.tup B);have G:=S _ (qC k C);rw[Jn,t]at F;rw[Jn,u]at G
   cases F
   cases G;have q:=P i _ _ p (upd H' p (.tup [c h[i],d (j[i]'(by rfl'))])) t u (k.new w) aa (λy o=>Same H o/\List.zipWith f (h.take i) (j.take i)++[y]=List.zipWith f (h.take (i+1)) (j.take (i+1))) (λo T=>#[(k.new w).trans T,?_])
   .simpa only[cZ,ľ]using q
   .rw [Í,Í,t,u,List.zipWith_append (by rw[Ô,Ô];rfl')];rfl
 .have e:i=↑h:=()
  subst e;show .inl #[#[_,_,k.tup B,qC k C,.inl (by simp)],λp w=>M p _ (k.new w) ?_];rw[aa,Ö,N,Ö]
theorem YW{t u:Type}(c:t->V)(d:u->V){xs:ϊ t}{ys:ϊ u}(G:SqL K H a (xs.map c))(I:SqL K H b (ys.map d))(N:↑xs=↑ys)(f:Nat->St->Hp->Prop)(A:f 0 σ H)
  (C:∀i σ H',f i σ H'->SqL K H' a (xs.map c)/\SqL K H' b (ys.map d))
  (F:∀(i:Nat) x y p σ H',xs[i]?=!x->ys[i]?=!y->f i σ H'->H' p=none->g (.ref p) σ (upd H' p (.tup [c x,d y])) λl H2=>tb {D with nx:=f (i+1),ct:=f (i+1),bk:=D.nx} l H2)
  (B:∀σ H',f ↑xs σ H'->D.nx σ H'):iZ K (qm g tb D σ) [.ref a,.ref b] H:=by
 show#[a,b,_,_,rfl,G,I,λi m σ H=>m=↑xs-i/\i<=↑xs/\f i σ H,#[↑xs,by simp,à _,A],?_];rintro i m σ H ⟨rfl,M,p⟩;let#[j,k]:=C i σ H p;by_cases h:i<↑xs
 .have n:(xs.map c)[i]?=!(c xs[i]):=by rw[Jn,Qr h];rfl
  have o:(ys.map d)[i]?=!(d (ys[i]'(by rfl'))):=by rw[Jn,Qr ()];rfl
  show .inr #[#[_,_,_,_,j,k,n,o],f (i+1),λL H' J=>#[↑xs-(i+1),(),rfl,h,J],λv H' y=>?_];let#[r,O,P,E,rfl,rfl,w,z]:=y;have q:=w _ j;have s:=z _ k;rw[n]at q;rw[o]at s
  cases q
  cases s;show F i _ _ r σ H (Qr h) (Qr ()) p E
 .have e:i=↑xs:=()
  subst e;show .inl #[#[_,_,j,k,.inl (by rw[Qb];show Ä _)],B σ H p]
end
theorem ar0{a:Type}{P:ϊ a->Prop}(h:P []):∀us:ϊ a,↑us=0->P us
 |[],_=>h
theorem ar1{c:Type}{P:ϊ c->Prop}(h:∀a0:c,P [a0])(b:ϊ c)(e:↑b=1):P b:=by
 cases b with
 |nil=>cases e
 |cons a b=>show ar0 (P:=λl=>P (a::l)) (h a) b (Ž e)
theorem ar2{c:Type}{P:ϊ c->Prop}(h:∀a0 d:c,P [a0,d])(b:ϊ c)(e:↑b=2):P b:=by
 cases b with
 |nil=>cases e
 |cons a b=>show ar1 (P:=λl=>P (a::l)) (h a) b (Ž e)
theorem ar3{c:Type}{P:ϊ c->Prop}(h:∀a0 d f:c,P [a0,d,f])(b:ϊ c)(e:↑b=3):P b:=by
 cases b with
 |nil=>cases e
 |cons a b=>show ar2 (P:=λl=>P (a::l)) (h a) b (Ž e)
theorem ar4{c:Type}{P:ϊ c->Prop}(h:∀a0 d f g:c,P [a0,d,f,g])(b:ϊ c)(e:↑b=4):P b:=by
 cases b with
 |nil=>cases e
 |cons a b=>show ar3 (P:=λl=>P (a::l)) (h a) b (Ž e)
theorem ar5{c:Type}{P:ϊ c->Prop}(h:∀a0 d f g i:c,P [a0,d,f,g,i])(b:ϊ c)(e:↑b=5):P b:=by
 cases b with
 |nil=>cases e
 |cons a b=>show ar4 (P:=λl=>P (a::l)) (h a) b (Ž e)
namespace Tn
def dv(cs:ϊ Nat):Nat:=PySem.NumText.digitsVal cs
def spl(c:Nat):ϊ Nat->ϊ (ϊ Nat)
 |[]=>[[]]
 |x::r=>if x=c then[]::spl c r else match spl c r with
  |[]=>[[x]]
  |p::ps=>(x::p)::ps
end Tn
def iDG{α:Type}(c:α->V)(O:ό->ϊ α->HO)(R:It->Hp->Prop):V->Hp->Prop:=λx H1=>∃a zs,x=.ref a/\((H1 a=!(O a zs)/\∀od,R (yw c od (O a zs) a zs) (upd H1 a (.frz od (O a zs))))\/∃od,H1 a=!(.frz od (O a zs))/\R (yw c od (O a zs) a zs) H1)
section
variable{α:Type}{c:α->V}{O:ό->ϊ α->HO}{zs:ϊ α}
theorem HR:Sb [a] H (upd H a o):=λb o c q=>by rw[ao (by simpa using c)];show q
theorem HS(d:Rd H a (O a zs))(h:∀od H1,Sb [a] H H1->H1 a=!(.frz od (O a zs))->R (yw c od (O a zs) a zs) H1):iDG c O R (.ref a) H:=by
 rcases d with e|⟨od,e⟩
 .show #[a,zs,rfl,.inl #[e,λod=>h od _ HR aa]]
 .show #[a,zs,rfl,.inr #[od,e,h od H (λb o _ q=>q) e]]
theorem HW(k:Rd H a (O a zs))(b:PySem.Obj->Nat->St->Hp->Prop)(n:∀od H1,Sb [a] H H1->H1 a=!(.frz od (O a zs))->b od 0 σ H1)(f:∀od i σ H',b od i σ H'->H' a=!(.frz od (O a zs)))
  (r:∀od (i:Nat) z σ H',zs[i]?=!z->b od i σ H'->g (c z) σ H' λe H2=>tb {D with nx:=b od (i+1),ct:=b od (i+1),bk:=D.nx} e H2) (q:∀od σ H',b od ↑zs σ H'->D.nx σ H'):iDG c O (qm g tb D σ) (.ref a) H:=by
 show HS k λod H1 t j=>#[λi m σ H=>m=↑zs-i/\i<=↑zs/\b od i σ H,#[↑zs,by simp,à _,n od H1 t j],?_]
 rintro i m σ H' ⟨rfl,v,p⟩;by_cases d:i<↑zs
 .show .inr #[#[f od i σ H' p,d],b od (i+1),λu H' s=>#[↑zs-(i+1),(),rfl,d,s],λx h y=>?_];let#[rfl,z,o,rfl]:=y;show r od i z σ _ o p
 .have l:i=↑zs:=()
  subst l;show .inl #[#[f od _ σ H' p,Ä _],q od σ H' p]
theorem YX(E:Rd H a (O a zs))(M:↑zs<=1000000)(f:α->ύ V)
  (h:∀od H1,Sb [a] H H1->H1 a=!(.frz od (O a zs))->
   (∀(i:Nat) z H',zs[i]?=!z->Same H1 H'->∀(A:VK)(B:Hp->Prop),(∀y H2,f z=!y->Same H' H2->A y H2)->(∀H2,f z=none->Same H' H2->B H2)->g (c z) (cap κ σ) H' λk H2=>oE (cap κ σ) k/\tc k H2 λb u=>if b=true then te k u A else B u)/\
   ∀p H',Same H1 H'->H' p=none->Q (.ref p) (upd H' p (.lst (zs.filterMap f)))):iDG c O (yR κ g tc te σ Q) (.ref a) H:=by
 show HS E λod H1 K q=>?_
 let#[J,G]:=h od H1 K q;show#[λi m D H'=>m=↑zs-i/\i<=↑zs/\Same H1 H'/\D=(zs.take i).filterMap f,#[↑zs,by simp,à _,Same.refl _,rfl],?_];rintro i m D H' ⟨rfl,L,l,rfl⟩;by_cases j:i<↑zs
 .have r:zs[i]?=!zs[i]:=Qr j;have w:zs.take (i+1)=zs.take i++[zs[i]]:=by rw[Í,r];rfl
  have s:↑((zs.take i).filterMap f)<=1000000:=Î (ď _ _) (by rw[Ô];rfl');show .inr #[#[l.get q,j],Õ s (by decide),λn d=>Same H1 d/\n=(zs.take (i+1)).filterMap f,λn d C=>#[↑zs-(i+1),(),rfl,j,C.1,C.2],λv d y=>?_];let#[rfl,z,x,rfl]:=y;rw[r]at x
  cases x;show J i _ d r l (λy o=>And (Same H1 o) ((zs.take i).filterMap f++[y]=(zs.take (i+1)).filterMap f)) (λo=>And (Same H1 o) ((zs.take i).filterMap f=(zs.take (i+1)).filterMap f))
   (λy H2 e t=>#[l.trans t,by rw[w,Mm.bM,e];rfl]) (λH2 e t=>#[l.trans t,by rw[w,Mm.bM,e];simp])
 .have F:i=↑zs:=()
  subst F;show .inl #[#[l.get q,Ä _],λp I=>?_];rw[Ö];show G p _ l I
theorem YZ(D:Rd H a (O a zs))(L:↑zs<=1000000)(f:α->ύ V)
  (h:∀od H1,Sb [a] H H1->H1 a=!(.frz od (O a zs))->
   (∀(i:Nat) z,zs[i]?=!z->∀(A:VK)(B:Hp->Prop),(∀y,f z=!y->A y H1)->(f z=none->B H1)->g (c z) (cap κ σ) H1 λk H2=>oE (cap κ σ) k/\tc k H2 λb t=>if b=true then te k t A else B t)/\
   ∀p,H1 p=none->Q (.ref p) (upd H1 p (.lst (zs.filterMap f)))):iDG c O (yR κ g tc te σ Q) (.ref a) H:=by
 show HS D λod H1 J q=>?_
 let#[I,F]:=h od H1 J q;show#[λi m C n=>m=↑zs-i/\i<=↑zs/\n=H1/\C=(zs.take i).filterMap f,#[↑zs,by simp,à _,rfl,rfl],?_];rintro i m C n ⟨rfl,K,rfl,rfl⟩;by_cases j:i<↑zs
 .have r:zs[i]?=!zs[i]:=Qr j;have u:zs.take (i+1)=zs.take i++[zs[i]]:=by rw[Í,r];rfl
  have s:↑((zs.take i).filterMap f)<=1000000:=Î (ď _ _) (by rw[Ô];rfl');show .inr #[#[q,j],Õ s (by decide),λl d=>d=n/\l=(zs.take (i+1)).filterMap f,λl d x=>#[↑zs-(i+1),(),rfl,j,x.1,x.2],λv d y=>?_];let#[rfl,z,w,rfl]:=y;rw[r]at w
  cases w;show I i _ r (λy o=>o=d/\(zs.take i).filterMap f++[y]=(zs.take (i+1)).filterMap f) (λo=>o=d/\(zs.take i).filterMap f=(zs.take (i+1)).filterMap f)
   (λy e=>#[rfl,by rw[u,Mm.bM,e];rfl]) (λe=>#[rfl,by rw[u,Mm.bM,e];simp])
 .have E:i=↑zs:=()
  subst E;show .inl #[#[q,Ä _],λp G=>?_];rw[Ö];show F p G
end
section
def DGet.r{k:Key}(e:Rd H a (.dK kvs)):DGet H a (kV k) (bx kvs k):=.inl #[kvs,k,e,rfl,rfl]
end
def kz(kvs:ϊ Kz):ϵ:=kvs.map λp:Kz=>(p.1,p.2.2)
def LL(H:Hp)(p:ό)(rows:Ϸ):Prop:=H p=!(.lst (rows.map λr:ό×ϊ Nat=>V.ref r.1))/\∀r∈rows,H r.1=!(.lst (nv r.2))
def LL.same(h:LL H p rows)(s:Same H H'):LL H' p rows:=#[s.get h.1,λr m=>s.get (h.2 r m)]
theorem LL.dp{K:Ϗ}(a:SqL K H p (rows.map λr:ό×ϊ Nat=>V.ref r.1))(b:∀r∈rows,H r.1=!(.lst (nv r.2))):Dp K H (.ref p) (.list ((rows.map (·.2)).map λxs=>.list ((xs.map λi:Nat=>(i:Int)).map PyData.int))):=by
 show .lst a ?_;clear a;induction rows with
 |nil=>show .nil
 |cons z r ih=>show .cons (Dp.nats (SqL.of (b z É))) (ih λy c=>b y (Ì _ c))
theorem Z0(a:ϊ (ϊ Nat)):Sh 2 (.list (a.map λxs=>.list ((xs.map λi:Nat=>(i:Int)).map PyData.int))):=by
 have:=Hz (a.map λxs=>xs.map λi:Nat=>(i:Int));rw[Æ]at this;show this
section
theorem Z1{lo:Int}(m:Nat)(e:Builtin.Range.rangeSize lo n c=(m:Int))(v:m<=1000000)(t:c≠0)(h:Builtin.Range.small lo n c=true)(j:Builtin.divisionGoesByPylong (n-lo) c=false)(d:Nat->ϊ V->Hp->Prop)(s:d 0 [] H)(z:∀i ys H',d i ys H'->↑ys<=i)
  (w:∀(i:Nat) ys H',i<m->d i ys H'->g (.int (lo+i*c)) (cap κ σ) H' λf H2=>oE (cap κ σ) f/\tc f H2 λb l=>if b=true then te f l λy o=>d (i+1) (ys++[y]) o else d (i+1) ys l)
  (u:∀ys H',d m ys H'->∀p,H' p=none->Q (.ref p) (upd H' p (.lst ys))):iR3 (yR κ g tc te σ Q) [.int lo,.int n,.int c] H:=by
 show#[lo,n,c,m,rfl,t,h,j,e,λi k ys H'=>k=m-i/\i<=m/\d i ys H',#[m,by simp,à _,s],?_];rintro i k ys H' ⟨rfl,C,p⟩;by_cases a:i<m
 .show .inr #[a,Õ (z _ _ _ p) (Ñ a (Î v (by decide))),d (i+1),λB H' A=>#[m-(i+1),(),rfl,a,A],λx H' y=>?_];let#[q,r]:=y;subst q r;show w i ys _ a p
 .have e:i=m:=()
  subst e;show .inl #[Nat.le_refl _,u ys H' p]
end
end L2
namespace Mm
def SOk(h:Nat)(ls:ϊ (ϊ Nat)):Prop:=↑ls%h=0/\∀l∈ls,↑l=↑(ls.headD [])/\∀c∈l,c=35\/c=46
def chunk(h:Nat)(ls:ϊ (ϊ Nat))(i:Nat):ϊ (ϊ Nat):=(ls.drop (i*h)).take h
def z9{h:Nat}(g:SOk h ls)(o:1<=h)(k:h<=60){i:Nat}(n:i<↑ls/h):Good (chunk h ls i):=by
 have q:i*h+h<=↑ls:=by
  have j:(i+1)*h<=↑ls/h*h:=Nat.mul_le_mul_right _ n;have p:=Nat.div_mul_le_self ↑ls h;rw[Nat.add_mul,Nat.one_mul]at j;rfl'
 have c:↑(chunk h ls i)=h:=by unfold chunk;rw[Ô,î];rfl'
 have f:∀l∈chunk h ls i,l∈ls:=λl d=>List.mem_of_mem_drop (Ş d)
 show#[(),(),λl d=>?_,λl d=>(g.2 l (f l d)).2];have m:(chunk h ls i).headD []∈chunk h ls i:=by
  cases e:chunk h ls i with
  |nil=>rw[e]at c;simp at c;rfl'
  |cons a b=>simp
 rw[(g.2 l (f l d)).1,(g.2 _ (f _ m)).1]
theorem mj(h:Nat):∀ss:ϊ (ϊ Nat),↑(ss.flatMap (draw h))=↑ss*h
 |[]=>by simp
 |a::r=>by rw[Ł,Â,mj h r,jA,í,Nat.add_mul];rfl'
theorem qD{h:Nat}:∀(ss:ϊ (ϊ Nat))(i:Nat)(hi:i<↑ss),chunk h (ss.flatMap (draw h)) i=draw h ss[i]
 |a::r,0,_=>by
  unfold chunk;rw[Ł,Nat.zero_mul,ź,List.take_left' (jA h a)];rfl
 |a::r,i+1,hi=>by
  have:=qD (h:=h) r i (by simpa using hi);unfold chunk at this⊢;rw[Ł,show(i+1)*h=↑(draw h a)+i*h by rw[jA,Nat.add_mul];rfl',List.drop_append,List.drop_eq_nil_of_le (),ł,Ű,this];rfl
def Qu{h:Nat}{f:ϊ (ϊ Nat)}{W:Nat}(m:1<=h)(j:∀s∈f,↑s=W):SOk h (f.flatMap (draw h)):=by
 have g:∀l∈f.flatMap (draw h),↑l=W/\∀c∈l,c=35\/c=46:=λl d=>by
  let#[s,k,d]:=ó.mp d;let#[y,_,rfl]:=wO d;show#[by rw[m7,j s k],Qd s y]
 show#[by rw[mj];show Nat.mul_mod_left _ _,λl d=>#[?_,(g l d).2]];have i:(f.flatMap (draw h)).headD []∈f.flatMap (draw h):=by
  cases e:f.flatMap (draw h)with
  |nil=>rw[e]at d;cases d
  |cons a b=>simp
 rw[(g l d).1,(g _ i).1]
end Mm
namespace L2
open PySem
def zb{j c:Int}(i:0<=j)(b:j<=100000)(h:0<c)(a:c<=1000):Builtin.Range.small 0 j c=true/\Builtin.divisionGoesByPylong (j-0) c=false:=by
 have d:0<=Builtin.Range.rangeSize 0 j c/\Builtin.Range.rangeSize 0 j c<=100000:=by
  unfold Builtin.Range.rangeSize;rw[if_pos ()];split
  .have e:(j-0-1)/c<=j-0-1:=Int.ediv_le_self _ ();have f:0<=(j-0-1)/c:=Int.ediv_nonneg () ();rfl'
  .rfl'
 show#[?_,?_]
 .unfold Builtin.Range.small Builtin.Range.rangeFitsLong;rw[if_pos (show c>0 by rfl')];simp only[Ă,Bool.or_eq_true,decide_eq_true_eq,beq_iff_eq];rfl'
 .unfold Builtin.divisionGoesByPylong;have k:c.natAbs.log2<=1000:=Î (Nat.log2_le_self _) ();have g:c.natAbs.log2/30+1<=300:=()
  dsimp only;rw[Bool.and_eq_false_iff];left;apply Ü;split<;>rfl'
def Qv{n h m:Nat}(f:1<=h)(e:n=m*h):Builtin.Range.rangeSize 0 (n:Int) (h:Int)=(m:Int):=by
 unfold Builtin.Range.rangeSize;rw[if_pos ()];split
 .rename_i a;have g:1<=m:=Nat.pos_of_ne_zero λz=>by rw[z,Nat.zero_mul]at e;rfl'
  have b:(n:Int)-0-1=((h:Int)-1)+(m-1:Nat)*(h:Int):=by
   have c:(n:Int)=(m:Int)*h:=by rw[e];simp
   have d:((m-1:Nat):Int)=(m:Int)-1:=()
   rw[c,d,Int.sub_mul];rfl'
  rw[b,Int.add_mul_ediv_right _ _ (),Int.ediv_eq_zero_of_lt () ()];rfl'
 .rename_i a;have:n=0:=()
  rw[this]at e;rcases Nat.mul_eq_zero.mp e.symm with z|z
  .rw [z];rfl
  .rfl'
def V6{a:ϊ V}(e:H l=!(.lst (y::a)))(h:Q y (upd H l (.lst a))):yf (.ref l) [.int 0] H Q:=⟨l,y::a,0,0,y,rfl,rfl,e,by decide,by decide,by
 unfold seqIndex?;simp,rfl,h⟩
def s_pop{a:ϊ V}(e:H l=!(.lst (a++[y])))(h:Q y (upd H l (.lst a))):TQ (.ref l) [] H Q:=#[l,a++[y],y,rfl,rfl,e,by simp,by rw[List.dropLast_concat];show h]
def Ru{b:ϊ V}(e:SqT K H a b)(h:∀p H',Same H H'->SqT K H' p (gR b lo hi)->Q (.ref p) H'):wB K (.ref a) lo hi H Q:=⟨a,b,rfl,e,λp H' c d=>h p H' (by
 rcases c with⟨rfl,rfl,_⟩|⟨hn,rfl⟩
 .show Same.refl _
 .show aq hn _) d⟩
def HX{b:ϊ V}(e:H a=!(.tup b))(h:∀p H',Same H H'->H' p=!(.tup (gR b lo hi))->Q (.ref p) H'):wB K (.ref a) lo hi H Q:=⟨a,b,rfl,SqT.of e,λp H' c d=>by
 rcases c with⟨rfl,rfl,z⟩|⟨hn,rfl⟩
 .show h _ _ (Same.refl _) (by rw[z];show e)
 .show h _ _ (aq hn _) aa⟩
def SGet.of(e:H a=!(cB a kvs))(d:∀p∈kvs,vh H p.1 p.2.1)(c:vh H b k):SGet H a (.ref b) (du kvs k):=#[kvs,k,b,.inl e,d,rfl,c,rfl]
def SPut.of(e:H a=!(cB a kvs))(d:∀p∈kvs,vh H p.1 p.2.1)(c:vh H b k)(f:↑kvs<=1000000):SPut H a (.ref b) v (upd H a (cB a (ux kvs b k v))):=#[kvs,k,b,e,d,rfl,c,Õ f (by decide),rfl]
def tH:du kvs k=none↔k∉kvs.map (·.2.1):=by
 unfold du;rw[Ů,Ļ];constructor
 .intro h m;let#[p,a,e]:=Zl.mp m;show h p a (Ù e)
 .intro h p a e;show h (Zl.mpr #[p,a,æ e])
def DW(h:du kvs k=!v):∃b,(b,k,v)∈kvs:=by
 unfold du at h;let#[p,a,rfl]:=Ï.mp h;have c:=Ċ a;have d:p.2.1=k:=by
  have:=ų a;show æ this
 show#[p.1,by rw[<-d];show c]
def qF(h:du kvs k=none):ux kvs b k v=kvs++[(b,k,v)]:=by
 unfold ux;rw[h];rfl
section
def V7{l:Type}(c:l->V){xs:ϊ l}(w:SqL K H a (xs.map c))(b:Nat->St->Hp->Prop)(o:b 0 σ H)
  (s:∀i σ H',b i σ H'->SqL K H' a (xs.map c))
  (u:∀(i:Nat) x p σ H',xs[i]?=!x->b i σ H'->H' p=none->g (.ref p) σ (upd H' p (.tup [.int (i:Int),c x])) λh H2=>tb {D with nx:=b (i+1),ct:=b (i+1),bk:=D.nx} h H2)
  (q:∀σ H',b ↑xs σ H'->D.nx σ H'):iE K (qm g tb D σ) [.ref a] H:=by
 show#[a,_,rfl,w,λi m σ H=>m=↑xs-i/\i<=↑xs/\b i σ H,#[↑xs,by simp,à _,o],?_];rintro i m σ H ⟨rfl,B,p⟩;have f:=s i σ H p;by_cases d:i<↑xs
 .have j:(xs.map c)[i]?=!(c xs[i]):=by rw[Jn,Qr d];rfl
  show .inr #[#[_,_,f,j],b (i+1),λA H' z=>#[↑xs-(i+1),(),rfl,d,z],λv H' y=>?_];let#[r,C,t,rfl,rfl,n]:=y;have k:=n _ f;rw[j]at k
  cases k;show u i _ r σ H (Qr d) p t
 .have e:i=↑xs:=()
  subst e;show .inl #[#[_,f,by rw[Qb];show Ä _],q σ H p]
end
def eV{a:ϊ V}(h:H p=!(.tup a))(e:H q=!(.lst ys)):upd H q o p=!(.tup a):=by
 rw[ao λz=>by rw[z,e]at h;cases h];show h
def qG{a:St}(e:Nat->St->Hp->Prop)(o:Nat)(q:e o a H)
  (r:∀m a H (N:St->Hp->Prop),e m a H->(∀m' σ' H',m'<m->e m' σ' H'->N σ' H')->c a H λb H1=>if b=true then p {D with nx:=N,ct:=N,bk:=D.nx} a H1 else D.nx a H1)
  (f:∀a H Q n,(∀b H1,Q b H1->n b H1)->c a H Q->c a H n):gQ c p D a H:=by
 classical
 have d:∀(P:Nat->Prop),(∃m,P m)->∃m,P m/\∀k,P k->m<=k:=λP ⟨m,j⟩=>by
  induction m using Nat.strongRecOn with
  |ind m ih=>
   by_cases h:∃k,k<m/\P k
   .obtain ⟨k,i,l⟩:=h;show ih k i l
   .show #[m,j,λk l=>Nat.le_of_not_lt λi=>h #[k,i,l]]
 show uG (λa H=>∃m,e m a H) (λa H=>if h:∃m,e m a H then(d (λm=>e m a H) h).choose else 0) #[o,q] ?_ f;intro a H h;let#[s,t]:=(d (λm=>e m a H) h).choose_spec;show r _ a H _ s λm' σ' H' j g=>#[#[m',g],?_]
 rw[dif_pos h,dif_pos #[m',g]];show Õ ((d (λm=>e m σ' H') #[m',g]).choose_spec.2 m' g) j
def DX(h:du kvs k=none):du (kvs++[(b,k,v)]) k=!v:=by
 unfold du at h⊢;rw[List.find?_append,Ů.mp h];simp
def HY(h:k∈kvs.map (·.2.1)):∃v,du kvs k=!v:=by
 cases e:du kvs k with
 |none=>show absurd h (tH.mp e)
 |some v=>show#[v,rfl]
end L2
namespace Mm
section
variable{α:Type}
inductive Rch(bs:ϊ α)(nx:α->ϊ α):α->Prop
 |base {x:α} (h:x∈bs):Rch bs nx x
 |step {x y:α} (h:Rch bs nx x) (m:y∈nx x):Rch bs nx y
theorem Rch.all{a:ϊ α}{b:α->ϊ α}{P:α->Prop}(c:∀x∈a,P x)(d:∀x y,P x->y∈b x->P y):∀{x},Rch a b x->P x:=λh=>by
 induction h with
 |base h=>show c _ h
 |step h m ih=>show d _ _ ih m
structure Clo(bs:ϊ α)(nx:α->ϊ α)(F W:ϊ α):Prop where
 nd:F.Nodup
 rF:∀x∈F,Rch bs nx x
 rW:∀x∈W,Rch bs nx x
 b:∀x∈bs,x∈F\/x∈W
 c:∀x∈F,∀y∈nx x,y∈F\/y∈W
theorem Clo.start(a:ϊ α)(b:α->ϊ α):Clo a b [] a:=#[List.nodup_nil,λx m=>(by cases m),λx m=>.base m,λx m=>.inr m,λx m=>(by cases m)]
theorem Clo.skip{b:ϊ α}{c:α->ϊ α}{F W:ϊ α}{x:α}(h:Clo b c F (W++[x]))(m:x∈F):Clo b c F W:=by
 have k:∀y,y∈F\/y∈W++[x]->y∈F\/y∈W:=λy hy=>by
  rcases hy with hy|hy
  .show .inl hy
  .rcases Å.mp hy with hy|hy
   .show .inr hy
   .rw [Zs.mp hy];show .inl m
 show#[h.nd,h.rF,λy a=>h.rW y (á _ a),λy a=>k y (h.b y a),λy a z d=>k z (h.c y a z d)]
theorem Clo.take{f:ϊ α}{c:α->ϊ α}{F W:ϊ α}{x:α}(h:Clo f c F (W++[x]))(m:x∉F):Clo f c (F++[x]) (W++c x):=by
 have g:=h.rW x (Û _ (Zs.mpr rfl));have k:∀y,y∈F\/y∈W++[x]->y∈F++[x]\/y∈W++c x:=λy hy=>by
  rcases hy with hy|hy
  .show .inl (á _ hy)
  .rcases Å.mp hy with hy|hy
   .show .inr (á _ hy)
   .show .inl (Û _ hy)
 show#[?_,λy my=>?_,λy my=>?_,λy my=>k y (h.b y my),λy my z d=>?_]
 .show â.mpr #[h.nd,by simp,λa i b j e=>m ?_];rw[Zs.mp j]at e;rw[<-e];show i
 .rcases Å.mp my with my|my
  .show h.rF y my
  .rw [Zs.mp my];show g
 .rcases Å.mp my with my|my
  .show h.rW y (á _ my)
  .show .step g my
 .rcases Å.mp my with my|my
  .show k z (h.c y my z d)
  .rw [Zs.mp my]at d;show .inr (Û _ d)
theorem Clo.fin{a:ϊ α}{b:α->ϊ α}{F:ϊ α}(h:Clo a b F [])(x:α):x∈F↔Rch a b x:=by
 show#[h.rF x,λr=>?_];induction r with
 |base m=>show(h.b _ m).resolve_right (by simp)
 |step r m ih=>show(h.c _ ih _ m).resolve_right (by simp)
end
end Mm
namespace L2
open PySem
variable{H:Hp}{Q:VK}{a:ό}{us:ϊ (V×PyData)}
def MnE(t:TE):Prop:=∀σ H (Q Q':VK),(∀v H1,Q v H1->Q' v H1)->t σ H Q->t σ H Q'
def MnT(t:TT):Prop:=∀σ H (Q Q':ϑ->Hp->Prop),(∀v H1,Q v H1->Q' v H1)->t σ H Q->t σ H Q'
def MnR(r:R2):Prop:=∀x y H (Q Q':VK),(∀v H1,Q v H1->Q' v H1)->r x y H Q->r x y H Q'
theorem Z2{a:TE}(e:MnR r)(c:MnE a)(d:MnE b):MnE (aL r a b):=λj H Q i h z=>c _ _ _ _ (λx f z=>d _ _ _ _ (λy g z=>e _ _ _ _ _ h z) z) z
theorem Qw(a:MnE t):MnT (aN t):=λd H Q c h z=>a _ _ _ _ (λx b ⟨k,e,z⟩=>#[k,e,h _ _ z]) z
theorem rNeD.nil{H:Hp}{Q:VK}{n:Nat}{a:ό}(e:Dp K H (.ref a) (.list b))(i:Sh n (.list b))(g:n<=64)(h:SqL K H p [])(q:Q (.bl (not (decide (b=[])))) H):rNeD K (.ref a) (.ref p) H Q:=by
 have c:Sh 1 (.list []):=oK (λd f=>by cases f);show#[_,.list [],e,.lst h .nil,i.shaped g,c.shaped (by decide),?_]
 cases b with
 |nil=>rw[eqv_refl _ c.1];show q
 |cons z r=>show q
theorem Qx(K:Ϗ):MnR (rNeD K):=λx y H Q g h ⟨d,e,a,b,c,f,z⟩=>#[d,e,a,b,c,f,h _ _ z]
def iSI(R:It->Hp->Prop):V->Hp->Prop:=λx H1=>∃a kvs,x=.ref a/\((H1 a=!(cB a kvs)/\∀od,R (yH od a kvs) (upd H1 a (.frz od (cB a kvs))))\/∃od,H1 a=!(.frz od (cB a kvs))/\R (yH od a kvs) H1)
section
theorem Z3(c:Rd H a (cB a kvs))(h:∀od H1,Sb [a] H H1->H1 a=!(.frz od (cB a kvs))->R (yH od a kvs) H1):iSI R (.ref a) H:=by
 rcases c with e|⟨od,e⟩
 .show #[a,kvs,rfl,.inl #[e,λod=>h od _ HR aa]]
 .show #[a,kvs,rfl,.inr #[od,e,h od H (λb o _ q=>q) e]]
theorem V8(j:Rd H a (cB a kvs))(b:PySem.Obj->Nat->St->Hp->Prop)(l:∀od H1,Sb [a] H H1->H1 a=!(.frz od (cB a kvs))->b od 0 σ H1)(e:∀od i σ H',b od i σ H'->H' a=!(.frz od (cB a kvs)))
  (s:∀od (i:Nat) z p σ H',kvs[i]?=!z->b od i σ H'->H' p=none->g (.ref p) σ (upd H' p (.tup [.ref z.1,z.2.2])) λd H2=>tb {D with nx:=b od (i+1),ct:=b od (i+1),bk:=D.nx} d H2) (o:∀od σ H',b od ↑kvs σ H'->D.nx σ H'):iSI (qm g tb D σ) (.ref a) H:=by
 show Z3 j λod H1 u h=>#[λi m σ H=>m=↑kvs-i/\i<=↑kvs/\b od i σ H,#[↑kvs,by simp,à _,l od H1 u h],?_]
 rintro i m σ H' ⟨rfl,w,p⟩;by_cases c:i<↑kvs
 .show .inr #[#[e od i σ H' p,c],b od (i+1),λv H' t=>#[↑kvs-(i+1),(),rfl,c,t],λx f y=>?_];let#[q,z,r,n,rfl,rfl]:=y;show s od i z q σ _ n p r
 .have k:i=↑kvs:=()
  subst k;show .inl #[#[e od _ σ H' p,Ä _],o od σ H' p]
def V9{d e tx:TE}(h:d σ H λx H1=>∃a,x=.ref a/\Y6 H1 a/\e σ H1 λy H2=>tx σ H2 λz c=>∃kvs k b,c a=!(.dT kvs)/\y=.ref b/\c b=!(.tup (k.map kV))/\↑kvs<sizeLine/\
 (∀v,bx kvs k=!v->Q v c)/\(bx kvs k=none->Q z (upd c a (.dT (kvs++[(k,z)]))))):Hf d e tx σ H Q:=h
def Va{kvs:ϊ (ϊ Int×V)}(e:H a=!(.dT (kvs.map λp=>(p.1.map Sum.inl,p.2))))(c:kvs≠[])(h:∀b k,H b=!(.tup (k.map V.int))->k∈kvs.map (·.1)->(∀d∈kvs.map (·.1),HT.lexLt d k=false)->Q (.ref b) H):Hh [.ref a] H Q:=#[a,kvs,rfl,e,c,h]
def SGet.ofR(e:Rd H a (cB a kvs))(d:∀p∈kvs,vh H p.1 p.2.1)(c:vh H b k):SGet H a (.ref b) (du kvs k):=#[kvs,k,b,e,d,rfl,c,rfl]
end
def Qy{K:Ϗ}(f:PyData->Int)(e:SqL K H a (us.map (·.1)))(d:us≠[])(c:∀u∈us,Dp K H u.1 u.2/\u.2.canLay0=true/\u.2.depth<=8)(b:∀u∈us,∀v∈us,Nk.CmpD u.2 v.2/\(Nk.Ba u.2 v.2=true->f u.2<=f v.2)/\(Nk.Ba u.2 v.2=false->f v.2<=f u.2))(h:∀u∈us,(∀v∈us,f u.2<=f v.2)->Q u.1 H):uC K [.ref a] H Q:=#[a,us,f,rfl,e,d,c,b,h]
def Ia(e:SqT K H a (ss.map V.str))(b:ss≠[])(h:∀s∈ss,Q (.str s) H):qi K [.ref a] H Q:=#[a,ss,rfl,e,b,h]
abbrev aQ:TE:=fB 0
abbrev bc:TE:=fB 1
abbrev bR:TE:=fB 2
abbrev cC:TE:=fB 3
abbrev cX:TE:=fB 4
abbrev fY:TE:=fB 5
abbrev j6:TE:=fB 6
abbrev oN:TE:=fB 7
abbrev mD:TE:=fB 8
abbrev NQ:TE:=fB 9
abbrev xj:TE:=fB 10
abbrev a1m:TE:=fB 11
abbrev Ib:TE:=fB 12
abbrev Z4:TE:=fB 13
abbrev a1n:TE:=fB 14
abbrev a1o:TE:=fB 15
abbrev Z5:TE:=fB 16
abbrev Z6:TE:=fB 17
abbrev Vb:TE:=fB 18
abbrev tI(n:Int):TE:=tC (V.int n)
abbrev tX(K:Ϗ)(t:TE)(n:Int):TE:=aL (fO K) t (tC (V.int n))
abbrev cj(a:TE):TA:=dY a f9
abbrev cA(a b:TE):TA:=dY a (dY b f9)
abbrev lg(a b c:TE):TA:=dY a (dY b (dY c f9))
abbrev zc(a b c d:TE):TA:=dY a (dY b (dY c (dY d f9)))
abbrev dZ(K:Ϗ)(t:TE):TE:=gW (vU K) (dY t f9)
abbrev bN(sp:Sp)(t:TA):TE:=pF sp [] E0 t
end L2
end
set_option Elab.async false
set_option linter.all false
set_option maxRecDepth 100000
open L2
local macro_rules | `(tactic| walk_at "si") => `(tactic| first | assumption | (with_reducible exact Mm.big_pos) | (with_reducible exact Int.pow_pos (by decide)) | rfl' | (dsimp only; rfl') | exact ⟨by rfl', by rfl'⟩ | exact Or.inr ⟨by rfl', by rfl'⟩ | exact Or.inl ⟨by rfl', by rfl'⟩ | exact ⟨by rfl', by rfl', by rfl'⟩ | exact ⟨by rfl', by rfl', by decide⟩ | (dsimp only; decide) | exact Mm.Qc _ | exact Mm.big_pos | exact Int.pow_pos (by decide))
local macro_rules | `(tactic| walk_at "gp") => `(tactic| repeat (first | walk_at "st" | (with_reducible (refine' s_lenA ?e ?_; case e => assumption))))
local macro_rules | `(tactic| symm) => `(tactic| repeat walk_at "st")
local macro_rules | `(tactic| walk_at "gq") => `(tactic| (intro R h; (with_unfolding_all walk_at "gp"); exact h))
local macro_rules | `(tactic| walk_at "la") => `(tactic| with_unfolding_all first | decide | (simp; rfl') | simp)
local macro_rules | `(tactic| walk_at "ex") => `(tactic| with_unfolding_all first | exact a1c | exact ext2 | exact ext3)
local macro_rules | `(tactic| walk_at "rf") => `(tactic| with_unfolding_all exact rfl)
local macro_rules | `(tactic| walk_at "sw") => `(tactic| with_unfolding_all walk_at "si")
local macro_rules | `(tactic| walk_at "gz") => `(tactic| first | (and_intros <;> walk_at "gq") | (refine' ⟨_, _, _, ?_, ?_, ?_, ?_, ?_⟩ <;> try walk_at "gq"))
local macro_rules | `(tactic| walk_at "sx") => `(tactic| with_reducible first|refine Yn ?_| (refine' Hu ?e ?_; case e => walk_at "rf")|refine s_c ?_|refine s_call ?_|refine Yo ?_|refine Ys ?_| (refine' a1g ?e ?_; case e => walk_at "sw")|refine Yt ?_|refine Yu ?_|refine YL ?_|refine UW ?_|refine a1d ?_|refine Yp ?_|refine Uy ?_| (refine' Qh ?e ?_; case e => walk_at "gz")|refine Yq ?_| (refine' s_ortp ?e ?_; case e => walk_at "gz")|refine a1e ?_| (refine' s_andp ?e ?_; case e => walk_at "gz")|refine UG ?_| (refine' s_orp ?e ?_; case e => walk_at "gz")|refine CP ?_|refine CN ?_|refine Yk ?_|refine Yl ?_|refine Ym ?_|refine Uw ?_|refine a1h ?_| (refine' Hy ?e ?_; case e => walk_at "gz")|refine Qg ?_|refine UJ ?_| (refine' Yr ?e ?_; case e => walk_at "rf")|refine a1f ?_|refine Yz ?_|refine YB ?_| (refine' s_eq ?e ?_; case e => walk_at "rf")|(refine' s_ne ?e ?_; case e => walk_at "rf")|refine YC ?_|refine YG ?_|refine V9 ?_| (refine' Yw ?e ?_; case e => walk_at "la")|refine UT ?_|refine Yx ?_|refine Yy ?_|refine a1i ?_| (refine' Yv ?e ?_; case e => walk_at "ex"))
local macro_rules | `(tactic| walk_at "st") => `(tactic| first | with_reducible refine Ht ?_ | walk_at "sx")
local macro_rules | `(tactic| walk_at "sj") => `(tactic| first | walk_at "sx")
local macro_rules | `(tactic| walk_at "gj") => `(tactic| repeat walk_at "sj")
local macro_rules | `(tactic| walk_at "hp") => `(tactic| first
 | assumption
 | exact aa
 | (refine SqL.of ?_;walk_at "hp")
 | (refine SqT.of ?_;walk_at "hp")
 | (refine jO (by assumption) ?_;walk_at "hp")
 | (refine tup_new (by assumption) ?_;walk_at "hp")
 | (refine az (by assumption) ?_;walk_at "hp")
 | (refine Same.seq (by assumption) ?_;walk_at "hp")
 | (refine Same.tup (by assumption) ?_;walk_at "hp")
 | (refine Same.get (by assumption) ?_;walk_at "hp"))
local macro_rules | `(tactic| walk_at "sm") => `(tactic| first | assumption | exact Same.refl _ | (refine Same.new ?_ (by assumption); walk_at "sm") | (refine Same.trans ?_ (by assumption); walk_at "sm"))
local macro_rules | `(tactic| walk_at "ns") => `(tactic| try dsimp only [L2.start, List.map, List.length, Nat.reduceAdd, Nat.reduceSub, List.reduceReplicate, ť, Ű, List.set])
local macro_rules | `(tactic| apply $e) => `(tactic| (symm; refine $e))
namespace Pg
variable{v:V}{r:Int}{k:ϻ}{ds:L2S}{rs:ϊ Int}{H H1:Hp}{b d q:ό}{w:ϴ}{ls:ϵ}{p:ϳ}{R c c0 ht i j m n room:Nat}{wss:ϲ}{rows:ϊ (Ϲ)}
inductive An2(A0 A1:Prop):Prop
 |mk (a0:A0) (a1:A1):An2 A0 A1
inductive An3(A0 A1 A2:Prop):Prop
 |mk (a0:A0) (a1:A1) (a2:A2):An3 A0 A1 A2
inductive An4(A0 A1 A2 A3:Prop):Prop
 |mk (a0:A0) (a1:A1) (a2:A2) (a3:A3):An4 A0 A1 A2 A3
inductive An5(A0 A1 A2 A3 A4:Prop):Prop
 |mk (a0:A0) (a1:A1) (a2:A2) (a3:A3) (a4:A4):An5 A0 A1 A2 A3 A4
inductive An6(A0 A1 A2 A3 A4 A5:Prop):Prop
 |mk (a0:A0) (a1:A1) (a2:A2) (a3:A3) (a4:A4) (a5:A5):An6 A0 A1 A2 A3 A4 A5
inductive An7(A0 A1 A2 A3 A4 A5 A6:Prop):Prop
 |mk (a0:A0) (a1:A1) (a2:A2) (a3:A3) (a4:A4) (a5:A5) (a6:A6):An7 A0 A1 A2 A3 A4 A5 A6
inductive An8(A0 A1 A2 A3 A4 A5 A6 A7:Prop):Prop
 |mk (a0:A0) (a1:A1) (a2:A2) (a3:A3) (a4:A4) (a5:A5) (a6:A6) (a7:A7):An8 A0 A1 A2 A3 A4 A5 A6 A7
inductive An10(A0 A1 A2 A3 A4 A5 A6 A7 A8 A9:Prop):Prop
 |mk (a0:A0) (a1:A1) (a2:A2) (a3:A3) (a4:A4) (a5:A5) (a6:A6) (a7:A7) (a8:A8) (a9:A9):An10 A0 A1 A2 A3 A4 A5 A6 A7 A8 A9
inductive An11(A0 A1 A2 A3 A4 A5 A6 A7 A8 A9 A10:Prop):Prop
 |mk (a0:A0) (a1:A1) (a2:A2) (a3:A3) (a4:A4) (a5:A5) (a6:A6) (a7:A7) (a8:A8) (a9:A9) (a10:A10):An11 A0 A1 A2 A3 A4 A5 A6 A7 A8 A9 A10
inductive An15(A0 A1 A2 A3 A4 A5 A6 A7 A8 A9 A10 A11 A12 A13 A14:Prop):Prop
 |mk (a0:A0) (a1:A1) (a2:A2) (a3:A3) (a4:A4) (a5:A5) (a6:A6) (a7:A7) (a8:A8) (a9:A9) (a10:A10) (a11:A11) (a12:A12) (a13:A13) (a14:A14):An15 A0 A1 A2 A3 A4 A5 A6 A7 A8 A9 A10 A11 A12 A13 A14
inductive Ex1{α0:Type}(P:α0->Prop):Prop
 |mk (a0:α0) (h:P a0):Ex1 P
inductive Ex2{α0 α1:Type}(P:α0->α1->Prop):Prop
 |mk (a0:α0) (a1:α1) (h:P a0 a1):Ex2 P
inductive Ex3{α0 α1 α2:Type}(P:α0->α1->α2->Prop):Prop
 |mk (a0:α0) (a1:α1) (a2:α2) (h:P a0 a1 a2):Ex3 P
inductive Ex4{α0 α1 α2 α3:Type}(P:α0->α1->α2->α3->Prop):Prop
 |mk (a0:α0) (a1:α1) (a2:α2) (a3:α3) (h:P a0 a1 a2 a3):Ex4 P
inductive Ex5{α0 α1 α2 α3 α4:Type}(P:α0->α1->α2->α3->α4->Prop):Prop
 |mk (a0:α0) (a1:α1) (a2:α2) (a3:α3) (a4:α4) (h:P a0 a1 a2 a3 a4):Ex5 P
inductive Ex6{α0 α1 α2 α3 α4 α5:Type}(P:α0->α1->α2->α3->α4->α5->Prop):Prop
 |mk (a0:α0) (a1:α1) (a2:α2) (a3:α3) (a4:α4) (a5:α5) (h:P a0 a1 a2 a3 a4 a5):Ex6 P
inductive Ex7{α0 α1 α2 α3 α4 α5 α6:Type}(P:α0->α1->α2->α3->α4->α5->α6->Prop):Prop
 |mk (a0:α0) (a1:α1) (a2:α2) (a3:α3) (a4:α4) (a5:α5) (a6:α6) (h:P a0 a1 a2 a3 a4 a5 a6):Ex7 P
open PySem L2
def aK0:ό:=24
def aK5:ό:=37
def aK3:ό:=49
def aK4:ό:=61
def aK2:ό:=73
def aK7:ό:=85
def aK1:ό:=97
def aK6:ό:=109
variable{H:Hp}{E:XK}
theorem a1p{b:ϊ V}(e:H a=!(.tup (v::b)))(h:Q v H):fO K (.ref a) (.int 0) H Q:=cV (SqT.of e) (aM (j:=0) (v:=v) rfl) h
inductive sp_f44(K:Ϗ)(vs:ϊ V)(H:Hp)(Q:VK)(E:XK):Prop
 |mk (x:V) (a:vs=[x]) (b:Thing H x) (c:Q (.bl (isI x)) H)
abbrev Ie K(E:XK)(Eh:XK):=(aP (lG (gW (fU K) (cA aQ (tC (V.ty "int")))) (Et (gW (fU K) (cA aQ (tC (V.ty "bool")))))))
abbrev Ig:ϊ ϐ:=sN ["thing"]
theorem Vc(h:sp_f44 K vs H Q E):RG (Ie K E) Ig vs H Q:=by
 let#[x,rfl,a,q]:=h;show#[E0,?_];symm;rcases a.ty (K:=K)with⟨b,rfl⟩|⟨i,rfl⟩|⟨s,rfl,_⟩|⟨n,ty,hn,e,_⟩
 .show fG (.bl b) (b:=true) rfl ?_;apply fG (.bl b) (b:=true) rfl ?_;apply q
 .show fG (.int i) (b:=true) rfl ?_;apply fG (.int i) (b:=false) rfl ?_;apply q
 .show fG (.str s) (b:=false) rfl ?_;apply q
 .rw [e]at q;show fG ty (b:=false) (by rcases hn with rfl|rfl|rfl|rfl<;>rfl) ?_;apply q
def hgt:V->ϑ
 |.int i=>decide (1<=i)&&decide (i<=60)
 |_=>false
inductive sp_f38(K:Ϗ)(vs:ϊ V)(H:Hp)(Q:VK)(E:XK):Prop
 |mk (x:V) (a:vs=[x]) (b:Thing H x) (c:Q (.bl (hgt x)) H)
abbrev Ih K(E:XK)(Eh:XK):=(aP (lG (bN (sp_f44 K) (cj aQ)) (kI CZ CZ (tI 1) aQ (tI 60))))
abbrev Ii:ϊ ϐ:=sN ["thing"]
theorem Vd(h:sp_f38 K vs H Q E):RG (Ih K E) Ii vs H Q:=by
 let#[x,rfl,a,q]:=h;show#[E0,?_];apply#[x,rfl,a,?_]
 cases x with
 |int i=>
  symm;change if true=true then _ else _
  apply q
 |_=>
  symm;change if false=true then _ else _
  apply q
def sgn:V->ϑ
 |.str s=>decide (↑s=1)&&(not (decide (s.cps.toList<(Str.ofString " ").cps.toList))&&(not (decide ((Str.ofString "~").cps.toList<s.cps.toList))&& not (decide (((s.cps.getD 0 0:Nat):Int)=37))))
 |_=>false
theorem zf(h:Hs.Sg s):sgn (.str s)=true:=by
 let#[n,rfl]:=h;have:∀c∈Hs.yX.cps.toList,sgn (.str (tx [c]))=true:=by ac_nf
 have d:↑Hs.yX.cps.toList=94:=by ac_nf
 have a:0<=n%94:=ġ _ (by decide);have b:n%94<94:=ĕ _ (by decide);show this _ ?_;unfold Hs.lD;rw[Xs,Qr ()];show Ó _
inductive sp_f52(K:Ϗ)(vs:ϊ V)(H:Hp)(Q:VK)(E:XK):Prop
 |mk (x:V) (a:vs=[x]) (b:Thing H x) (c:Q (.bl (sgn x)) H)
abbrev Ij K(E:XK)(Eh:XK):=(aA (bB (Es (lE (jw K (gW (fU K) (cA aQ (tC (V.ty "str")))))) (aN (aL xV (dZ K aQ) (tI 1)))) (aP (tC (V.bl false))) aV)
  (aP (lG (kI pU pU (tC (V.str (Str.ofString " "))) aQ (tC (V.str (Str.ofString "~")))) (aL xV (gW Rg (cj aQ)) (tI 37)))))
abbrev Ik:ϊ ϐ:=sN ["thing"]
theorem Ve(h:sp_f52 K vs H Q E):RG (Ij K E) Ik vs H Q:=by
 let#[x,rfl,g,q]:=h;show#[E0,?_];symm;rcases g.ty (K:=K)with⟨b,rfl⟩|⟨i,rfl⟩|⟨s,rfl,hl⟩|⟨n,ty,hn,_,e⟩
 .show fG (.bl b) (b:=false) rfl ?_;apply q
 .show fG (.int i) (b:=false) rfl ?_;apply q
 .show fG (.str s) (b:=true) rfl ?_;apply kY (dG hl) ?_;apply jW (λc=>?_) λc=>?_
  .have e:sgn (.str s)=false:=by
    change(decide (↑s=1)&&_)=false;rw[Ü (qnD c),Υ]
   rw[e]at q;apply q
  .have a:↑s=1:=by show Qe c
   have e:sgn (.str s)=(not (decide (s.cps.toList<(Str.ofString " ").cps.toList))&&(not (decide ((Str.ofString "~").cps.toList<s.cps.toList))&& not (decide (((s.cps.getD 0 0:Nat):Int)=37)))):=by
    change(decide (↑s=1)&&_)=_;rw[Ù a,Bool.true_and]
   rw[e,<-Bool.and_assoc]at q;apply Hq (λd=>?_) λd=>?_
   .rw [d,Bool.true_and]at q;apply YD a ?_;apply q
   .rw [d,Υ]at q;apply q
 .have f:sgn x=false:=by
   cases x with
   |str s=>show absurd rfl (e s)
   |_=>rfl
  rw[f]at q;show fG ty (b:=false) (by rcases hn with rfl|rfl|rfl|rfl<;>rfl) ?_;apply q
inductive sp_f65(K:Ϗ)(vs:ϊ V)(H:Hp)(Q:VK)(E:XK):Prop
 |mk (n:Nat) (a:vs=[.int n]) (b:Q (.int (Bm.pop n)) H)
abbrev Il(K:Ϗ)(E:XK)(Eh:XK):=(aA (aK (tI 0) (ak 1))
  (aA (gQ (aN (aL uo aQ (tI 0))) (aA (aK (aL Rc aQ (aL pR aQ (tI 1))) (ak 0))
  (O3 1 (tI 1) Al)))
  (aP bc)))
abbrev Im:ϊ ϐ:=sN ["column","dots"]
theorem Vf(h:sp_f65 K vs H Q E):RG (Il K E) Im vs H Q:=by
 let#[n,rfl,q]:=h;show#[E0,?_];show Ht ?_;apply vA (λb f=>(Ex2 λ(m d:Nat)=>(An3 (b=[!(.int (m:Int)),!(.int (d:Int))]) (f=H) (d+Bm.pop m=Bm.pop n)))) (λb _=>match b with|some (.int m)::_=>m.toNat|_=>0) ⟨n,0,rfl,rfl,Eq.trans (ļ 0 _) rfl⟩ ?_ ?_
 .rintro _ _ ⟨m,d,rfl,rfl,e⟩;apply dw (λc=>?_) (λc=>?_)
  .have a:0<m:=by show Uv c
   have p:Builtin.bitAnd (m:Int) ((m:Int)-1)=((m&&&(m-1):Nat):Int):=by
    rw[show(m:Int)-1=((m-1:Nat):Int)by rfl',Bx.iQ]
   symm;rw[p];have t:=Bm.U5 m a;have w:=Bm.Ol m a;show#[#[m&&&(m-1),d+1,rfl,rfl,()],?_];change((m&&&(m-1):Nat):Int).toNat<(m:Int).toNat;show t
  .have a:m=0:=by show qn1 c
   subst a;rw[Bm.jq]at e;symm;rw[show d=Bm.pop n by show e];show q
 .rintro b H Q u r ⟨v,s,i,j,g,l,k,o,z⟩;show#[v,s,i,j,g,l,k,o,r _ _ z]
inductive sp_f30(K:Ϗ)(vs:ϊ V)(H:Hp)(Q:VK)(E:XK):Prop
 |mk (a:ό) (b:ϊ Nat) (c:vs=[.ref a]) (d:SqL K H a (b.map λi:Nat=>V.int (i:Int))) (e:(∀x∈b,x<60)) (f:Q (.int (Bm.lU b:Nat)) H)
abbrev Io K(E:XK)(Eh:XK):=(aA (aK (tI 0) (ak 1))
  (aA (cD (bY K aQ) (ak 2) (aK (aL a0x bc (aL Gg (tI 1) bR)) (ak 1)))
  (aP bc)))
abbrev Ip:ϊ ϐ:=sN ["lines","column","line"]
theorem Vg(h:sp_f30 K vs H Q E):RG (Io K E) Ip vs H Q:=by
 let#[a,c,rfl,e,k,q]:=h;show#[E0,?_];apply fK (λi:Nat=>V.int (i:Int)) e (λi b d=>(An2 (d=H) (Ex1 λo=>b=[!(.ref a),!(.int ((Bm.lU (c.take i):Nat):Int)),o]))) #[rfl,none,rfl] (λi b d z=>z.1▸e) ?_ ?_
 .rintro i y b _ f ⟨rfl,o,rfl⟩;have g:=k y (Yf f);symm;have j:c.take (i+1)=c.take i++[y]:=by rw[Í,f];rfl
  rw[Int.one_mul,Ð,<-Bx.pP,Bx.su,<-Bm.Ot,<-j];show#[rfl,_,rfl]
 .rintro b _ ⟨rfl,o,rfl⟩;symm;rw[Ö];show q
inductive sp_f63(K:Ϗ)(vs:ϊ V)(H:Hp)(Q:VK)(E:XK):Prop
 |mk (a b:Nat) (c:vs=[.int a,.int b]) (d:Q (.int (Bm.pop (a^^^b):Nat)) H)
abbrev Ir K(E:XK)(Eh:XK):=(aP (bN (sp_f65 K) (cj (aL Rf aQ bc))))
abbrev Iu:ϊ ϐ:=sN ["one","other"]
theorem Vh(h:sp_f63 K vs H Q E):RG (Ir K E) Iu vs H Q:=by
 let#[a,b,rfl,q]:=h;show#[E0,?_];symm;rw[Bx.pO];show#[_,rfl,q]
inductive sp_f10(K:Ϗ)(vs:ϊ V)(H:Hp)(Q:VK)(E:XK):Prop
 |mk (p q:ό) (a b:ϊ V) (c:vs=[.ref p,.ref q]) (d:(SqL K H p a\/SqT K H p a)) (e:(SqL K H q b\/SqT K H q b)) (f:↑a=↑b) (g:Q .non H)
abbrev Iv K(E:XK)(Eh:XK):=(bB (aN (aL xV (dZ K aQ) (dZ K bc))) cQ aV)
abbrev Iw:ϊ ϐ:=sN ["one","other"]
theorem Vi(h:sp_f10 K vs H Q E):RG (Iv K E) Iw vs H Q:=by
 let#[g,i,b,j,rfl,d,e,f,q]:=h;show#[E0,?_];have c:∀{H:Hp}{Q:VK}{a:ό}{b:ϊ V},(SqL K H a b\/SqT K H a b)->Q (.int ↑b) H->vU K [.ref a] H Q:=λh q=>h.elim (λh=>cg h q) λh=>cN h q
 apply c d ?_;apply c e ?_;apply gC (by rw[f]) ?_;apply q
inductive sp_f73(K:Ϗ)(vs:ϊ V)(H:Hp)(Q:VK)(E:XK):Prop
 |mk (p q:ό) (a b:ϊ Nat) (c:vs=[.ref p,.ref q]) (d:SqT K H p (nv a)) (e:(SqL K H q (nv b)\/SqT K H q (nv b))) (f:↑a=↑b) (g:↑a<=1000) (h:∀H',Same H H'->Q (.int (Mm.aY a b:Nat)) H')
abbrev Iz K(E:XK)(Eh:XK):=(aA (cG (bN (sp_f10 K) (cA aQ bc)))
  (aP (gW (Pb K) (cj (jr [none,none] (Ro K (cA aQ bc)) (je K 2 (bO (ak 0) (bO (ak 1) jk))) cZ (bN (sp_f63 K) (cA aQ bc)))))))
abbrev zg:ϊ ϐ:=sN ["one","other"]
theorem Vj(h:sp_f73 K vs H Q E):RG (Iz K E) zg vs H Q:=by
 let#[s,m,n,g,rfl,c,a,d,k,q]:=h;show#[E0,?_];apply#[_,_,_,_,rfl,.inr c,a,by rw[Qb,Qb,d],?_];symm;let#[e,a]:∃e,Em K H m (nv g) e:=a.elim (λh=>#[true,h]) λh=>#[false,h]
 show YT (λi:Nat=>V.int (i:Int)) (λi:Nat=>V.int (i:Int)) c a d (dG k) (λx y=>V.int ((Bm.pop (x^^^y):Nat):Int)) ?_ ?_
 .intro i x y p j o r f b A l;show dB (SqT.of b) rfl ?_;apply#[x,y,rfl,l _ (Same.refl _)]
 .intro p j f b;apply Rr (ns:=List.zipWith (λx y=>((Bm.pop (x^^^y):Nat):Int)) n g) (SqL.of ?_) ?_
  .rw [b,List.map_zipWith]
  .rw [Mm.wM];show q _ f
inductive sp_f19(K:Ϗ)(vs:ϊ V)(H:Hp)(Q:VK)(E:XK):Prop
 |mk (p:ό) (a:ϊ Nat) (y:Nat) (b:vs=[.ref p,.int y]) (c:SqL K H p (a.map λi:Nat=>V.int (i:Int))) (d:↑a<=1000) (e:∀H',Same H H'->Q (.str (tx (Mm.gA a y))) H')
abbrev IK K(E:XK)(Eh:XK):=(aP (qT K "str" (rJoin K) (tC (V.str (Str.ofString ""))) (cj (jr [none,!1] (bY K aQ) (ak 0) cZ (XC (jw K (aL Rc (aL Rb aQ bc) (tI 1))) (tC (V.str (Str.ofString "#"))) (tC (V.str (Str.ofString "."))))))))
abbrev zj:ϊ ϐ:=sN ["strip","y"]
theorem Vk(h:sp_f19 K vs H Q E):RG (IK K E) zj vs H Q:=by
 let#[p,a,y,rfl,f,g,q]:=h;show#[E0,?_];apply Hv (λi:Nat=>V.int (i:Int)) f () (λx=>V.str (tx [if x.testBit y=true then 35 else 46])) (λi x j A b=>?_) λk d=>?_
 .symm;rw[Bx.Oz,Ux,Ð];show Hq (λc=>?_) λc=>?_
  .rw [if_pos c]at b;apply b
  .rw [if_neg (by rw[c];decide)]at b;apply b
 .symm;show HD (ys:=(Mm.gA a y).map λc=>tx [c]) (SqL.of ?_) ?_ ?_
  .rw [aa];unfold Mm.gA;rw[Æ,Æ];rfl
  .have e:(((Mm.gA a y).map λc=>tx [c]).map (·.length))=(Mm.gA a y).map λ_=>1:=by
    rw[Æ];show Ā ?_;intro c _;show bH [c]
   rw[e,List.map_const',List.sum_replicate_nat,Qb,Mm.m7];change↑a*1+↑a*0<=_;rfl'
  .rw [join_ones];show q _ (aq d _)
inductive sp_f69(K:Ϗ)(vs:ϊ V)(H:Hp)(Q:VK)(E:XK):Prop
 |mk (h:Nat) (p:ό) (a:ϊ Nat) (b:vs=[.int h,.ref p]) (c:SqL K H p (a.map λi:Nat=>V.int (i:Int))) (d:↑a<=1000) (e:h<=60) (f:∀r H',H r=none->Same H H'->H' r=!(.lst ((Mm.draw h a).map λl=>V.str (tx l)))->Q (.ref r) H')
abbrev IV K(E:XK)(Eh:XK):=(aP (jr [none,!1] (eZ (cj aQ)) (ak 0) cZ (bN (sp_f19 K) (cA bc aQ))))
abbrev zm:ϊ ϐ:=sN ["height","strip"]
theorem Vl(h:sp_f69 K vs H Q E):RG (IV K E) zm vs H Q:=by
 let#[k,p,c,rfl,e,g,f,q]:=h;show#[E0,?_];apply Rt k () () () (λy=>V.str (tx (Mm.gA c y))) (λi b o a A l=>?_) λr b d a j=>?_
 .symm;show#[_,c,i,rfl,a.seq e,g,λn m=>l _ m]
 .show q r b d a ?_;rw[j];unfold Mm.draw;rw[Æ];rfl
inductive sp_f27(K:Ϗ)(vs:ϊ V)(H:Hp)(Q:VK)(E:XK):Prop
 |mk (l:ϊ Nat) (w:Nat) (a:vs=[.str (tx l),.int w]) (b:↑l<=100000) (d:↑l=w) (e:(∀c∈l,c=35\/c=46)) (f:Q .non H)
abbrev IW K(E:XK)(Eh:XK):=(aA (bB (aN (aL xV (dZ K aQ) bc)) cQ aV)
  (cD (CV aQ) (ak 2) (bB (qU (aN (aL xV bR (tC (V.str (Str.ofString "#"))))) (aN (aL xV bR (tC (V.str (Str.ofString ".")))))) cQ aV)))
abbrev J0:ϊ ϐ:=sN ["line","wide","sign"]
theorem Vm(h:sp_f27 K vs H Q E):RG (IW K E) J0 vs H Q:=by
 let#[l,w,rfl,g,j,b,q]:=h;show#[E0,?_];apply kY (by rw[bH];show dG g) ?_;symm;rw[bH];show gC (by rw[j]) ?_;apply Hw (λi d e=>(An2 (H=e) (Ex1 λo=>d=[!(.str (tx l)),!(.int (w:Int)),o]))) #[rfl,_,rfl] ?_ ?_
 .rintro i c d _ f ⟨rfl,o,rfl⟩;have a:l[i]?=!c:=by
   have:=f;rw[<-û]at this;show this
  symm;rcases b c (Yf a)with rfl|rfl
  .show if false=true then _ else _
   apply#[rfl,_,rfl]
  .show if false=true then _ else _
   apply#[rfl,_,rfl]
 .rintro d _ ⟨rfl,o,rfl⟩;show q
inductive sp_f34(K:Ϗ)(vs:ϊ V)(H:Hp)(Q:VK)(E:XK):Prop
 |mk (p:ό) (a:ϊ (ϊ Nat)) (x:Nat) (b:vs=[.ref p,.int x]) (c:SqL K H p (a.map λl=>V.str (tx l))) (d:↑a<=60) (e:(∀l∈a,x<↑l/\↑l<=100000)) (f:∀H',Same H H'->Q (.int (Mm.Bg a x:Nat)) H')
abbrev J1 K(E:XK)(Eh:XK):=(aP (bN (sp_f30 K) (cj (jr [none,none,!1] (Am K (cj aQ)) (je K 2 (bO (ak 0) (bO (ak 1) jk))) (aN (aL pB (aL tY bc bR) (tC (V.str (Str.ofString "#"))))) aQ))))
abbrev zp:ϊ ϐ:=sN ["lines","x"]
theorem Vn(h:sp_f34 K vs H Q E):RG (J1 K E) zp vs H Q:=by
 let#[p,b,x,rfl,o,w,r,q]:=h;show#[E0,?_];apply a1k (λl=>V.str (tx l)) o () (λy=>if decide ((b.getD y []).getD x 0=35)=true then !(V.int (y:Nat))else none) ?_ ?_
 .intro i l t k e j a A B f g;let#[d,u]:=r l (Yf e);have n:(b.getD i []).getD x 0=l[x]:=by
   have m:b.getD i []=l:=by rw[Xs,e];rfl
   rw[m,Xs,Qr d];rfl
  show dB (SqT.of a) rfl ?_;apply wW (by rw[bH];rfl') (aM (v:=l[x]) (by rw[HB];show Qr d)) ?_;symm;rw[show decide ((#[([l[x]].toArray)]:ϐ)=Str.ofString "#")=decide (l[x]=35)from decide_eq_decide.mpr (show tx [l[x]]=tx [35]↔_ by rw[jE];simp)];rw[n]at f g;show Hq (λc=>?_) λc=>?_
  .symm;show f _ _ (Same.refl _) (by rw[if_pos c])
  .show g _ (Same.refl _) (by rw[c];rfl)
 .intro t k j a;symm;rw[Mm.Yi]at a;show#[_,_,rfl,SqL.of a,λy s=>?_,q _ j];have:=(ö.mp s).1;have:y<↑b:=by simpa using this
  rfl'
inductive sp_f49(K:Ϗ)(vs:ϊ V)(H:Hp)(Q:VK)(E:XK):Prop
 |mk (p:ό) (a:ϊ (ϊ Nat)) (b:vs=[.ref p]) (c:SqL K H p (a.map λl=>V.str (tx l))) (d:(∀l∈a,↑l<=100000)) (e:Mm.Good a) (f:∀r H',H r=none->Same H H'->H' r=!(.lst ((Mm.yO a).map λi:Nat=>V.int (i:Int)))->Q (.ref r) H')
abbrev J2 K(E:XK)(Eh:XK):=(aA (bB (lE (jw K (bN (sp_f38 K) (cj (dZ K aQ))))) cQ aV)
  (aA (aK (dZ K (aL (cu K) aQ (tI 0))) (ak 1))
  (aA (cD (bY K aQ) (ak 2) (cG (bN (sp_f27 K) (cA bR bc))))
  (aP (jr [none,!0] (eZ (cj bc)) (ak 0) cZ (bN (sp_f34 K) (cA bc aQ)))))))
abbrev zq:ϊ ϐ:=sN ["lines","wide","line"]
theorem Vo(h:sp_f49 K vs H Q E):RG (J2 K E) zq vs H Q:=by
 let#[p,k,rfl,c,f,y,q]:=h;show#[E0,?_];let#[u,J,s,w]:=id y;apply cg c ?_;symm;rw[Qb];show⟨_,rfl,True.intro,?_⟩;rw[show hgt (V.int (↑k:Int))=true from by change(decide _&&decide _)=_;rw[Ù (),Ù ()];rfl];symm;let#[a,F,rfl]:∃l r,k=l::r:=by
  cases k with
  |nil=>cases u
  |cons l r=>show#[l,r,rfl]
 apply dF c (aM (j:=0) (v:=V.str (tx a)) rfl) ?_;symm;have g:=f a É;show kY (by rw[bH];show dG g) ?_;rw[bH];apply fK (λl=>V.str (tx l)) c (λi e b=>(An2 (H=b) (Ex1 λo=>e=[!(.ref p),!(.int (↑a:Nat)),o]))) #[rfl,_,rfl] (λi e b z=>z.1▸c) ?_ ?_
 .rintro i l e _ d ⟨rfl,o,rfl⟩;have m:=Yf d;apply#[l,↑a,rfl,f l m,s l m,w l m,?_];apply#[rfl,_,rfl]
 .rintro e _ ⟨rfl,o,rfl⟩;apply Rt ↑a () () () (λx=>V.int ((Mm.Bg (a::F) x:Nat):Int)) (λi b B n A D=>?_) λr b t n C=>?_
  .symm;show#[_,_,i,rfl,n.seq c,(),λl d=>#[by rw[s l d];show B,f l d],λI G=>D _ G]
  .show q r b t n ?_;rw[C];unfold Mm.yO;rw[Æ];rfl
abbrev Wz:=ό×ϐ×ϊ Nat×Int
def WyT(H:Hp)(z:Wz):Prop:=∃ca,H z.1=!(.tup [.str z.2.1,.ref ca,.int z.2.2.2])/\H ca=!(.tup (nv z.2.2.1))
theorem WyT.same(h:WyT H z)(s:Same H H'):WyT H' z:=by
 let#[a,b,c]:=h;show#[a,s.get b,s.get c]
def LdT(H:Hp)(p:ό)(ws:ϳ):Prop:=∃zs:ϊ Wz,zs.map (·.2)=ws/\H p=!(.lst (zs.map λz:Wz=>V.ref z.1))/\∀z∈zs,WyT H z
theorem LdT.same{p:ό}(h:LdT H p a)(s:Same H H'):LdT H' p a:=by
 let#[f,b,c,d]:=h;show#[f,b,s.get c,λz e=>(d z e).same s]
def aG(ls:ϵ)(ps:L1S):ϳ:=ps.filterMap λp=>(Fo.lk ls p.1).map λco=>(p.1,co,p.2)
theorem tK(a:ϵ)(b:L1S)(p:ϐ×Int):aG a (b++[p])=aG a b++(match Fo.lk a p.1 with|none=>[]|some co=>[(p.1,co,p.2)]):=by
 unfold aG;rw[ω];congr 1;rw[Đ,List.filterMap_nil]
 cases Fo.lk a p.1<;>rfl
inductive sp_f42(K:Ϗ)(vs:ϊ V)(H:Hp)(Q:VK)(E:XK):Prop
 |mk (d c:ό) (b:ϊ Lz) (a:L1S) (e:vs=[.ref d,.ref c]) (f:H d=!(.dK (b.map λz:Lz=>((Sum.inr z.2.1:Key),V.ref z.2.2.1)))) (g:(∀z∈b,H z.2.2.1=!(.tup (nv z.2.2.2)))) (h:DrG K H c a) (i:↑a<=1000) (j:∀p H',Same H H'->H p=none->LdT H' p (aG (b.map λz:Lz=>(z.2.1,z.2.2.2)) a)->Q (.ref p) H')
abbrev J3 K(E:XK)(Eh:XK):=(aP (jr [none,none,!0] (ph K bc) (je K 2 (bO (ak 0) (bO (ak 1) jk))) (tB (Oh aQ bR)) (cU (lg aQ (gm bR aQ) bc))))
abbrev zr:ϊ ϐ:=sN ["letters","doors"]
theorem Vp(h:sp_f42 K vs H Q E):RG (J3 K E) zr vs H Q:=by
 let#[R,Y,l,B,rfl,r,X,#[L,o,O,U],I,q]:=h;show#[E0,?_];have w:↑L=↑B:=by rw[<-o,Qb]
 apply V1 (λz:ό×ϐ×Int=>V.ref z.1) (zs:=L) O (dG (oG w I)) (λi C n=>(Ex1 λ(j:ϊ Wz)=>(An5 (C=j.map (λz:Wz=>V.ref z.1)) (j.map (·.2)=aG (l.map λz:Lz=>(z.2.1,z.2.2.2)) (B.take i)) (↑j<=i) (Same H n) (∀z∈j,WyT n z)))) #[[],rfl,rfl,by simp,Same.refl _,by simp] ?_ ?_ ?_ ?_
 .rintro i C n ⟨j,rfl,_,_,d,_⟩;show d.tup O
 .rintro i C n ⟨j,rfl,_,x,_⟩;rw[Qb];show x
 .rintro i ⟨b,s,a⟩ C n P ⟨j,rfl,v,x,d,D⟩;have G:B[i]?=!(s,a):=by rw[<-o,Jn,P];rfl
  have u:B.take (i+1)=B.take i++[(s,a)]:=by rw[Í,G];rfl
  have S:=d.get (U _ (Yf P));dsimp only at S;show dB (SqT.of S) rfl ?_;apply#[R,_,rfl,DGet.k (k:=Sum.inr s) (d.get r),?_]
  cases hlk:Fo.lk (l.map λz:Lz=>(z.2.1,z.2.2.2)) s with
  |none=>
   have W:bx (l.map λz:Lz=>((Sum.inr z.2.1:Key),V.ref z.2.2.1)) (Sum.inr s)=none:=fj (f:=λz:Lz=>(Sum.inr z.2.1:Key)) (g:=λz:Lz=>V.ref z.2.2.1) λm=>by
    let#[z,A,e]:=Zl.mp m;let#[c,N]:=Fo.yZ (ls:=l.map λz:Lz=>(z.2.1,z.2.2.2)) (s:=s) (by rw[Æ];show Zl.mpr #[z,A,ě e]);rw[hlk]at N
    cases N
   rw[W];symm;change if false=true then _ else _
   apply#[j,rfl,by rw[u,tK,v];change _=_++(match Fo.lk (l.map λz:Lz=>(z.2.1,z.2.2.2)) s with|none=>[]|some co=>[(s,co,a)]);rw[hlk,ô],Xo x _,d,D]
  |some co=>
   let#[z,A,T,M]:=HN hlk;rw[M];symm;change if true=true then _ else _
   apply#[R,.ref z.2.2.1,rfl,by rw[<-M];show DGet.k (k:=Sum.inr s) (d.get r),?_];symm;intro t J;show#[j++[(t,s,co,a)],by simp,?_,by simp;show x,d.new J,λy my=>?_]
   .rw [u,tK,Wp,v];change _=_++(match Fo.lk (l.map λz:Lz=>(z.2.1,z.2.2.2)) s with|none=>[]|some co=>[(s,co,a)]);rw[hlk];rfl
   .rcases Å.mp my with my|my
    .show (D y my).same (aq J _)
    .rw [Zs.mp my];show#[z.2.2.1,aa,by rw[<-T];show az J (d.get (X z A))]
 .rintro C n ⟨j,rfl,v,x,d,D⟩ p F;rw[è (oG (w.symm) (Ä _))]at v;show q p _ (d.new F) (d.free F) #[j,v,aa,λz A=>(D z A).same (aq F _)]
def WsT(H:Hp)(p:ό)(wss:ϲ):Prop:=∃rs:ϊ (ό×ϊ (ϴ)),rs.map (·.2)=wss/\H p=!(.lst (rs.map λr=>V.ref r.1))/\∀r∈rs,LdT H r.1 r.2
theorem WsT.same{p:ό}(h:WsT H p wss)(s:Same H H'):WsT H' p wss:=by
 let#[e,a,b,c]:=h;show#[e,a,s.get b,λr d=>(c r d).same s]
inductive sp_f56(K:Ϗ)(vs:ϊ V)(H:Hp)(Q:VK)(E:XK):Prop
 |mk (f c:ό) (h:Nat) (b:ϵ) (a:L2S) (d:ϊ Int) (e:vs=[.ref f,.ref c]) (g:FnF K H f h b) (i:Fo.Wf h b) (j:HsG K H c a d) (k:↑a<=1000) (l:(∀ps∈a,↑ps<=1000)) (m:∀p H',Same H H'->H p=none->WsT H' p (a.map (aG b))->Q (.ref p) H')
abbrev J4 K(E:XK)(Eh:XK):=(aA (aK (gW (jM K) (cj (tX K aQ 1))) (ak 2))
  (aP (jr [none,!2] (ph K (tX K bc 0)) (ak 0) cZ (bN (sp_f42 K) (cA bc aQ)))))
abbrev zu:ϊ ϐ:=sN ["font","house","letters"]
theorem Vq(h:sp_f56 K vs H Q E):RG (J4 K E) zu vs H Q:=by
 let#[f,ha,h,J,x,es,rfl,hF,U,#[d,e,S,W,M,N,X,a5],B,F,q]:=h;show#[E0,?_];let#[l,ob,a,Y,A,D,Z,O]:=id hF;have hl:↑a=↑J:=by rw[<-A,Qb]
 have s:↑S=↑x:=by rw[<-M,Qb]
 have C:(a.map (·.2.1)).Nodup:=by
  have:=dW U.up;rw[<-A,Æ]at this;show this
 apply dh Y ?_;apply qz (zs:=a.map λz:Lz=>(z.1,z.2.1,V.ref z.2.2.1)) D (by rw[Æ];show Z) (λz m=>?_) (by rw[Æ];show C) (by rw[Qb];have:=U.le;show dG (oG hl this)) λt G=>?_
 .obtain ⟨y,my,rfl⟩:=Zl.mp m;show SqT.of (O y my).1
 rw[Æ];have g:Same H (upd H t (HO.dK (a.map ((λz:ό×ϐ×V=>((Sum.inr z.2.1:Key),z.2.2))∘λz:Lz=>(z.1,z.2.1,V.ref z.2.2.1))))):=aq G _;have n:upd H t (HO.dK (a.map ((λz:ό×ϐ×V=>((Sum.inr z.2.1:Key),z.2.2))∘λz:Lz=>(z.1,z.2.1,V.ref z.2.2.1)))) t=!(.dK (a.map λz:Lz=>((Sum.inr z.2.1:Key),V.ref z.2.2.1))):=aa;generalize upd H t (HO.dK (a.map ((λz:ό×ϐ×V=>((Sum.inr z.2.1:Key),z.2.2))∘λz:Lz=>(z.1,z.2.1,V.ref z.2.2.1))))=H1 at g n;apply fH (g.get W) ?_;show V1 (λr:ό×L1S=>V.ref r.1) (zs:=S) (g.tup N) (dG (oG s B)) (λi u j=>(Ex1 λ(b:ϊ (ό×ϊ (ϴ)))=>(An4 (u=b.map (λr=>V.ref r.1)) (b.map (·.2)=(x.take i).map (aG J)) (Same H1 j) (∀r∈b,LdT j r.1 r.2)))) #[[],rfl,rfl,Same.refl _,by simp] ?_ ?_ ?_ ?_
 .rintro i u j ⟨b,rfl,_,c,_⟩;show c.tup (g.tup N)
 .rintro i u j ⟨b,rfl,k,_⟩;have:=Ý List.length k;rw[Qb,Qb,Ô]at this;rw[Qb];show qlM this
 .rintro i ⟨ra,w⟩ u j R ⟨b,rfl,k,c,I⟩;have o:x[i]?=!w:=by rw[<-M,Jn,R];rfl
  have L:=g.trans c;apply#[t,ra,a,w,rfl,c.get n,λz mz=>L.get (O z mz).2,(X _ (Yf R)).same L,F w (Yf o),λp H2 T v P=>?_];symm;rw[A]at P;show#[b++[(p,aG J w)],by simp,by rw[Wp,k,Í,o,Wp];rfl,c.trans T,λr mr=>?_];rcases Å.mp mr with mr|mr
  .show (I r mr).same T
  .rw [Zs.mp mr];show P
 .rintro u j ⟨b,rfl,k,c,I⟩ p v;rw[è (oG (s.symm) (Ä _))]at k;show q p _ ((g.trans c).new v) ((g.trans c).free v) #[b,k,aa,λr mr=>(I r mr).same (aq v _)]
def cst(ys co:ϊ Nat):Nat:=Mm.aY (co.take (min ↑co ↑ys)) (ys.take (min ↑co ↑ys))
def Bo(ys:ϊ Nat)(ls:ϵ):ϊ (ϐ×Nat):=ls.map λp=>(p.1,cst ys p.2)
def Bp(cs:ϊ (ϐ×Nat)):ϊ (Key×V):=cs.map λp=>(Sum.inr p.1,V.int (p.2:Nat))
theorem zx{b:ϊ Nat}:∀{ls:ϵ},Fo.lk ls s=!b->bx (Bp (Bo a ls)) (Sum.inr s)=!(V.int (cst a b:Nat))
 |[],h=>by cases h
 |p::r,h=>by
  rw[Fo.j5]at h;change bx ((Sum.inr p.1,V.int (cst a p.2:Nat))::Bp (Bo a r)) (Sum.inr s)=_;by_cases e:p.1=s
  .rw [if_pos e]at h
   cases h;rw[bZ (by change Sum.inr _=Sum.inr _;rw[e])]
  .rw [if_neg e]at h;rw[bL (by intro z;show e (ě z))];show zx h
inductive sp_f15(K:Ϗ)(vs:ϊ V)(H:Hp)(Q:VK)(E:XK):Prop
 |mk (f o:ό) (h:Nat) (a:ϵ) (b:ϊ Nat) (c:vs=[.ref f,.ref o]) (d:FnT K H f h a) (e:Fo.Wf h a) (g:SqT K H o (nv b)) (i:↑b<=1000) (j:∀r H',Same H H'->H r=none->H' r=!(.dK (Bp (Bo b a)))->Q (.ref r) H')
abbrev J5 K(E:XK)(Eh:XK):=(aA (aK kJ (ak 2))
  (aA (cD (ph K (tX K aQ 1)) (je K 2 (bO (ak 3) (bO (ak 4) jk))) (aA (aK (gW Gh (cA (dZ K cX) (dZ K bc))) (ak 5))
  (jb bR cC (bN (sp_f73 K) (cA (FJ (wB K) cX iI (gh fY)) (FJ (wB K) bc iI (gh fY)))))))
  (aP bR)))
abbrev J6:ϊ ϐ:=sN ["font","over","costs","sign","columns","wide"]
theorem Vr(h:sp_f15 K vs H Q E):RG (J5 K E) J6 vs H Q:=by
 let#[f,o,h,a,c,rfl,hF,R,X,ac,q]:=h;show#[E0,?_];have I:(a.map (·.1)).Nodup:=R.up.imp λG e=>by subst e;show Ő _ G
 let#[l,zs,t1,v,t3,t4]:=id hF;have L:↑zs=↑a:=by rw[<-v,Qb]
 have F:=R.le;symm;intro r x;apply dh (az x t1) ?_;have d:∀p'∈[r],H p'=none:=λp' J=>by rw[Zs.mp J];show x
 walk_at "ns";show tG (λz:Lz=>V.ref z.1) ((aq x _).tup t3) (λi B n=>(An3 (Sb [r] H n) (n r=!(.dK (Bp (Bo c (a.take i))))) (Ex3 λM N O=>B=[!(.ref f),!(.ref o),!(.ref r),M,N,O]))) #[Sb.of (aq x _),aa,_,_,_,rfl] ?_ ?_ ?_
 .rintro i B n ⟨t,_⟩;show(t.off d).tup t3
 .rintro i ⟨za,s,ca,b⟩ B n Y ⟨t,A,M,N,O,rfl⟩;have S:=t.off d;have mz:=Yf Y;let#[u1,P]:=t4 _ mz;dsimp only at u1 P;have j:a[i]?=!(s,b):=by rw[<-v,Jn,Y];rfl
  have c1:=R.c1 _ (Yf j);dsimp only at c1;have ab:i<↑a:=(À.mp j).1;have u:a.take (i+1)=a.take i++[(s,b)]:=by rw[Í,j];rfl
  have w:s∉(a.take i).map (·.1):=by
   have W:((a.take (i+1)).map (·.1)).Nodup:=Č ((ī _ _).map _) I;rw[u,Wp,â]at W;showλm=>W.2.2 s m s (by simp) rfl
  show dB (SqT.of (S.get u1)) rfl ?_;apply cN (SqT.of (S.get P)) ?_;rw[Qb];apply cN (S.tup X) ?_;rw[Qb];symm;rw[show(if(↑c:Int)<(↑b:Int)then(↑c:Int)else(↑b:Int))=((min ↑b ↑c:Nat):Int)by split<;>rfl'];walk_at "ns";show Ru (SqT.of (S.get P)) λp1 H1 s1 U=>?_
  rw[yQ (Rp (min _ _)),Ð,nv,<-Β]at U;apply Ru ((S.trans s1).tup X) λp2 H2 s2 C=>?_
  rw[yQ (Rp (min _ _)),Ð,nv,<-Β]at C;apply#[p1,p2,b.take (min ↑b ↑c),c.take (min ↑b ↑c),rfl,s2.tup U,by first|show C|show .inr C,by rw[Ô,Ô];rfl',by rw[Ô];rfl',λH3 s3=>?_];have T:=(s1.trans s2).trans s3;have D:=T.get A;have hv:bx (Bp (Bo c (a.take i))) (Sum.inr s)=none:=fj (f:=λp:ϐ×Nat=>(Sum.inr p.1:Key)) (g:=λp:ϐ×Nat=>V.int (p.2:Nat)) λm=>by
   let#[p,Z,e]:=Zl.mp m;let#[y,my,rfl]:=Zl.mp Z;show w (Zl.mpr #[y,my,ě e])
  apply#[r,_,rfl,DPut.k (k:=Sum.inr s) D (Õ (by unfold Bp Bo;rw[Qb,Qb,Ô];show Xp F:_<=40) (by decide)),?_];rw[dJ _ hv];apply#[(t.same T).set (by simp),?_,_,_,_,rfl];rw[aa,u];unfold Bo Bp;rw[Wp,Wp];rfl
 .rintro B n ⟨t,A,M,N,O,rfl⟩;rw[L,Ö]at A;apply q r n (t.off d) x A
section
variable{α:Type}[DecidableEq α]
def jh(L qs:ϊ α):ϊ α:=qs.foldl (λL q=>if q∈L then L else L++[q]) L
def qH(L:ϊ α):jh L []=L:=rfl
theorem DY(L a:ϊ α)(q:α):jh L (a++[q])=if q∈jh L a then jh L a else jh L a++[q]:=by
 unfold jh;rw[Ŀ];rfl
theorem qI:∀(qs L:ϊ α),∃E,jh L qs=L++E
 |[],L=>#[[],by rw[qH,ô]]
 |q::qs,L=>by
  change∃E,jh (if q∈L then L else L++[q]) qs=L++E;split
  .show qI qs L
  .obtain ⟨E,e⟩:=qI qs (L++[q]);show#[q::E,by rw[e,ð];rfl]
theorem ir:∀{qs L:ϊ α}{x:α},x∈jh L qs↔x∈L\/x∈qs
 |[],L,x=>by rw[qH];simp
 |q::qs,L,x=>by
  change x∈jh (if q∈L then L else L++[q]) qs↔_;rw[ir];split
  .rename_i h;constructor
   .rintro (m|m)
    .show .inl m
    .show .inr (Ì _ m)
   .rintro (m|m)
    .show .inl m
    .rcases Ç.mp m with rfl|m
     .show .inl h
     .show .inr m
  .rw [Å,Zs,Ç,or_assoc]
theorem oO:∀{qs L:ϊ α},L.Nodup->(jh L qs).Nodup
 |[],L,h=>h
 |q::qs,L,h=>by
  change(jh (if q∈L then L else L++[q]) qs).Nodup;split
  .show oO h
  .rename_i c;show oO (â.mpr #[h,by simp,λa m b d e=>c ?_]);rw[Zs.mp d]at e;rw[<-e];show m
def cR(nx:α->ϊ α)(st:α):Nat->ϊ α
 |0=>[st]
 |k+1=>match(cR nx st k)[k]?with
  |none=>cR nx st k
  |some p=>jh (cR nx st k) (nx p)
theorem iu{a:α->ϊ α}{b:α}{k:Nat}{p:α}(h:(cR a b k)[k]?=!p):cR a b (k+1)=jh (cR a b k) (a p):=by
 rw[cR,h]
theorem J7{a:α->ϊ α}{b:α}{k:Nat}(h:↑(cR a b k)<=k):cR a b (k+1)=cR a b k:=by
 rw[cR,ë h]
theorem tL(a:α->ϊ α)(b:α)(k:Nat):∃E,cR a b (k+1)=cR a b k++E:=by
 cases h:(cR a b k)[k]?with
 |none=>show#[[],by rw[cR,h,ô]]
 |some p=>rw[iu h];show qI _ _
theorem qJ(a:α->ϊ α)(b:α)(k:Nat):∀j,∃E,cR a b (k+j)=cR a b k++E
 |0=>#[[],by rw[Nat.add_zero,ô]]
 |j+1=>by
  let#[E,e]:=qJ a b k j;let#[F,f]:=tL a b (k+j);show#[E++F,by rw[<-Ľ,f,e,ð]]
theorem gM(a:α->ϊ α)(b:α):∀k,(cR a b k).Nodup
 |0=>by rw[cR];simp
 |k+1=>by
  cases h:(cR a b k)[k]?with
  |none=>rw[cR,h];show gM a b k
  |some p=>rw[iu h];show oO (gM a b k)
theorem jQ{nx:α->ϊ α}{st:α}{k:Nat}(h:↑(cR nx st k)<=k):∀j,cR nx st (k+j)=cR nx st k
 |0=>rfl
 |j+1=>by
  have e:=jQ h j;rw[<-Ľ,J7 (by rw[e];show Xo h _),e]
theorem xm{a:α->ϊ α}{b:α}:∀{k j:Nat}{p q:α},j<k->(cR a b k)[j]?=!p->q∈a p->q∈cR a b k:=λ{k j p q} h d g=>by
 let#[i,rfl]:∃i,k=(j+1)+i:=#[k-(j+1),()];let#[E,e]:=qJ a b (j+1) i;let#[F,f]:=tL a b j;rw[e];show á _ ?_;by_cases c:j<↑(cR a b j)
 .have:(cR a b j)[j]?=!p:=by
   rw[e,f,ð,ê c]at d;show d
  rw[iu this];show ir.mpr (.inr g)
 .have:=jQ (nx:=a) (st:=b) (k:=j) (Ho c) (1+i);rw[<-Ľ]at this;rw[this,ë (Ho c)]at d
  cases d
theorem fu{c:α->ϊ α}{d:α}{P:α->Prop}(a:P d)(b:∀p q,P p->q∈c p->P q):∀k,∀p∈cR c d k,P p
 |0,p,m=>by rw[cR,Zs]at m;rw[m];show a
 |k+1,p,m=>by
  cases h:(cR c d k)[k]?with
  |none=>rw[cR,h]at m;show fu a b k p m
  |some p'=>
   rw[iu h]at m;rcases ir.mp m with m|m
   .show fu a b k p m
   .show b p' p (fu a b k p' (Yf h)) m
end
theorem jF(a b:ϐ):↑(a++b)=↑a+↑b:=by
 change↑(Str.append a b)=_;simp[Str.append,Str.length]
theorem eO{c:Type}[DecidableEq c]:∀{l m:ϊ c},l.Nodup->(∀x∈l,x∈m)->↑l<=↑m
 |[],m,_,_=>à _
 |x::l,m,hn,hs=>by
  have a:=hs x É;let#[d,f]:=é.mp hn;have:=eO (l:=l) (m:=m.erase x) f λy b=>(List.mem_erase_of_ne (λ(e:y=x)=>d (by rw[<-e];show b))).mpr (hs y (Ì _ b))
  rw[List.length_erase_of_mem a]at this;have:=ů a;rw[í];rfl'
def cF(wss:ϲ)(k:Nat):ϊ Int:=cR (λr=>(wss.getD r.toNat []).map (·.2.2)) 0 k
theorem uK:∀{ps:ϊ (Int×ϐ)}{r:Int},r∈ps.map (·.1)->∃t,(r,t)∈ps/\bx (ps.map λp=>((Sum.inl p.1:Key),V.str p.2)) (Sum.inl r)=!(V.str t)
 |p::ps,r,m=>by
  rw[È];by_cases e:p.1=r
  .show #[p.2,by rw[<-e];show É,by rw[bZ (by rw[e])]]
  .obtain ⟨t,a,b⟩:=uK (ps:=ps) (r:=r) (by rcases Ç.mp m with z|z;show absurd z.symm e;show z);show#[t,Ì _ a,by rw[bL (by intro z;show e (Sum.inl.inj z))];show b]
theorem QB{ps:ϊ (Int×ϐ)}(h:r∉ps.map (·.1)):bx (ps.map λp=>((Sum.inl p.1:Key),V.str p.2)) (Sum.inl r)=none:=fj (f:=λp:Int×ϐ=>(Sum.inl p.1:Key)) (g:=λp=>V.str p.2) λm=>by
 let#[p,a,e]:=Zl.mp m;show h (Zl.mpr #[p,a,Sum.inl.inj e])
inductive sp_f2(K:Ϗ)(vs:ϊ V)(H:Hp)(Q:VK)(E:XK):Prop
 |mk (b:ό) (a:ϲ) (d:vs=[.ref b]) (e:WsT H b a) (f:0<↑a) (g:↑a<=100) (h:(∀c∈a,↑c<=1000/\∀w∈c,↑w.1<=1/\0<=w.2.2/\w.2.2<↑a)) (i:∀r H' (N:Nat) (ps:ϊ (Int×ϐ)),Same H H'->H r=none->ps.map (·.1)=cF a N->H' r=!(.dK (ps.map λp=>((Sum.inl p.1:Key),V.str p.2)))->↑(cF a N)<=N->(∀p∈ps,↑p.2<=↑ps)->Q (.ref r) H')
abbrev QC K:=(aA (aK (qT K "list" yf bR (cj (tI 0))) (ak 3))
  (cD (bY K (aL (cu K) aQ cC)) (je K 3 (bO (ak 4) (bO (ak 5) (bO (ak 6) jk)))) (bB (tB (iM j6 bc)) (aA (jb bc j6 (aL fW (gm bc cC) cX))
  (cG (qT K "list" cI bR (cj j6)))) aV)))
abbrev Rv K(E:XK)(Eh:XK):=(aA (aK (R8 [((tC (V.int 0)),(tC (V.str (Str.ofString ""))))]) (ak 1))
  (aA (aK (fC (cj (tI 0))) (ak 2))
  (aA (gQ (aN (aL uo (dZ K bR) (tI 0))) (QC K))
  (aP bc))))
abbrev Rw:ϊ ϐ:=sN ["ways","texts","waiting","here","sign","columns","room"]
theorem Z7(h:sp_f2 K vs H Q E):RG (Rv K E) Rw vs H Q:=by
 let#[wa,a,rfl,hW,a8,a9,av,q]:=h;show#[E0,?_];have ai:∀k,∀r∈cF a k,0<=r/\r<↑a:=λk=>fu (P:=λr:Int=>0<=r/\r<↑a) #[by decide,Xq a8] (λp q' hp hq=>by
  let#[w,mw,rfl]:=Zl.mp hq;have:a.getD p.toNat []∈a:=by rw[Xs,Qr (Xn hp)];show Ó _
  show((av _ this).2 w mw).2) k
 have Y:∀k,↑(cF a k)<=↑a:=λk=>by
  have:=eO (l:=cF a k) (m:=(List.range ↑a).map λi:Nat=>(i:Int)) (gM _ _ k) λr mr=>by
   let#[h0,h1]:=ai k r mr;show Zl.mpr #[r.toNat,ñ.mpr (Yj h0 h1),DP h0]
  rw[Qb,ú]at this;show this
 let#[rs,ae,a1,a2]:=id hW;have a7:↑rs=↑a:=by rw[<-ae,Qb]
 symm;intro d M;apply#[aa,[(Sum.inl 0,V.str (Str.ofString ""))],rfl,by simp,?_];have ab:Sb [d] H (upd (upd H d (HO.dK [])) d (HO.dK (jo [] [(Sum.inl 0,V.str (Str.ofString ""))]))):=(Sb.of (aq M _)).set (by simp);have F:upd (upd H d (HO.dK [])) d (HO.dK (jo [] [(Sum.inl 0,V.str (Str.ofString ""))])) d=!(.dK ([((0:Int),(Str.ofString ""))].map λp=>((Sum.inl p.1:Key),V.str p.2))):=by rw[aa];rfl
 generalize upd (upd H d (HO.dK [])) d (HO.dK (jo [] [(Sum.inl 0,V.str (Str.ofString ""))]))=H0 at ab F;symm;intro t N;have n1:d≠t:=aU F N;have as:H t=none:=(ab.off λp hp=>by rw[Zs.mp hp];show M).free N;have L:∀p∈[d,t],H p=none:=λp hp=>by
  simp only[Ç,Þ,ć]at hp;rcases hp with rfl|rfl
  .show M
  .show as
 symm;walk_at "ns";show uG (λT A=>(An2 (Sb [d,t] H A) (Ex6 λ(k:Nat) (B:ϊ (Int×ϐ)) (o1 o2 o3 o4:ύ V)=>(An6 (k<=↑(cF a k)) (B.map (·.1)=cF a k) (∀p∈B,↑p.2<=↑B) (A d=!(.dK (B.map λp=>((Sum.inl p.1:Key),V.str p.2)))) (A t=!(.lst (((cF a k).drop k).map V.int))) (T=[!(.ref wa),!(.ref d),!(.ref t),o1,o2,o3,o4]))))) (λ_ A=>match A t with|some (.lst l)=>(match A d with|some (.dK m)=>1000-(↑m-↑l)|_=>0)|_=>0) ⟨(Sb.more ab (by simp)).new N,0,[(0,Str.ofString "")],_,_,_,_,à _,rfl,λp mp=>by rw[Zs.mp mp];decide,az N F,aa,rfl⟩ ?_ ?_
 .rintro T A ⟨sb,k,B,o1,o2,o3,o4,hk,J,ag,W,G,rfl⟩;have S':=sb.off L;have bg:↑B=↑(cF a k):=by rw[<-J,Qb]
  have bk:=Y k;apply cg (SqL.of G) ?_;rw[Qb,î];apply dw (λc1=>?_) λc1=>?_
  .have X:k<↑(cF a k):=()
   let#[r,hr]:∃r,(cF a k)[k]?=!r:=#[_,Qr X];have a3:(cF a k).drop k=r::(cF a k).drop (k+1):=by rw[ĳ X,(À.mp hr).2]
   have mr:=Yf hr;let#[r0,r1]:=ai k r mr;let#[j,rfl]:∃j:Nat,r=(j:Int):=#[r.toNat,Eq.symm (DP r0)];let#[C,Z]:∃C,rs[j]?=!C:=#[_,Qr (En (Uv r1) a7)];have ar:a[j]?=!C.2:=by rw[<-ae,Jn,Z];rfl
   have a4:a.getD j []=C.2:=by rw[Xs,ar];rfl
   have af:cF a (k+1)=jh (cF a k) (C.2.map (·.2.2)):=by
    have:=iu hr;change cR _ _ (k+1)=_;rw[this];change jh _ ((a.getD ((j:Int)).toNat []).map _)=_;rw[Ð,a4];rfl
   let#[aw,bd]:=av C.2 (Yf ar);let#[zs,ez,ad,hz]:=a2 C (Yf Z);have bb:↑zs=↑C.2:=by rw[<-ez,Qb]
   apply d9 (SqL.of G) ?_;symm;rw[a3,È]at G;show V6 G ?_;symm;have n2:t≠d:=n1.symm;have O:upd A t (HO.lst (((cF a k).drop (k+1)).map V.int)) d=!(.dK (B.map λp=>((Sum.inl p.1:Key),V.str p.2))):=by rw[ao n1];show W
   have ac:=sb.set (p:=t) (o:=HO.lst (((cF a k).drop (k+1)).map V.int)) (by simp);have S1:=ac.off L;have R:upd A t (HO.lst (((cF a k).drop (k+1)).map V.int)) t=!(.lst (((cF a k).drop (k+1)).map V.int)):=aa;generalize upd A t (HO.lst (((cF a k).drop (k+1)).map V.int))=H1 at ac S1 O R;show qt (S1.get a1) Z ?_;walk_at "ns";show fK (λz:Wz=>V.ref z.1) (zs:=zs) (SqL.of (S1.get ad)) (λi T I=>(An2 (Sb [d,t] H I) (Ex5 λ(b:ϊ (Int×ϐ)) (E:ϊ Int) (o2 o3 o4:ύ V)=>(An6 (b.map (·.1)=jh (cF a k) ((C.2.map (·.2.2)).take i)) (b.map (·.1)=cF a k++E) (∀p∈b,↑p.2<=↑b) (I d=!(.dK (b.map λp=>((Sum.inl p.1:Key),V.str p.2)))) (I t=!(.lst (((cF a k).drop (k+1)++E).map V.int))) (T=[!(.ref wa),!(.ref d),!(.ref t),!(.int (j:Nat)),o2,o3,o4]))))) #[ac,B,[],_,_,_,by rw[List.take_zero,qH];show J,by rw[ô];show J,ag,O,by rw[ô];show R,rfl] ?_ ?_ ?_
   .rintro i T I ⟨y,_⟩;show SqL.of ((y.off L).get ad)
   .rintro i ⟨za,s,co,c⟩ T I hi ⟨y,b,E,o2,o3,o4,D,U,u,f,g,rfl⟩;have S2:=y.off L;let#[ca,v1,v2]:=hz _ (Yf hi);dsimp only at v1 v2;have ap:C.2[i]?=!(s,co,c):=by rw[<-ez,Jn,hi];rfl
    have al:=(bd _ (Yf ap)).1;dsimp only at al;have ax:(C.2.map (·.2.2)).take (i+1)=(C.2.map (·.2.2)).take i++[c]:=by rw[Í,Jn,ap];rfl
    have ah:↑b<=100:=by
     have h1:=eO (l:=b.map (·.1)) (m:=cF a (k+1)) (by rw[D];show oO (gM _ _ k)) λx mx=>by
      rw[D]at mx;rw[af];rcases ir.mp mx with m|m
      .show ir.mpr (.inl m)
      .show ir.mpr (.inr (Ş m))
     have h2:=Y (k+1);rw[Qb]at h1;show Î h1 (Î h2 a9)
    rw[ax,DY];show dB (SqT.of (S2.get v1)) rfl ?_;apply#[d,_,rfl,DGet.k (k:=Sum.inl c) f,?_];by_cases m:c∈jh (cF a k) ((C.2.map (·.2.2)).take i)
    .obtain ⟨tt,_,ev⟩:=uK (ps:=b) (r:=c) (by rw[D];show m);rw[ev,if_pos m];symm;change if(not true)=true then _ else _
     apply#[y,b,E,_,_,_,D,U,u,f,g,rfl]
    .have ev:=QB (ps:=b) (r:=c) (by rw[D];show m);rw[ev,if_neg m];let#[tj,be,ay]:=uK (ps:=b) (r:=(j:Int)) (by rw[U];show á _ mr);have am:=u _ be;dsimp only at am;symm;change if(not false)=true then _ else _
     apply#[d,V.str tj,rfl,by rw[<-ay];show DGet.k (k:=Sum.inl (j:Int)) f,?_];apply qp () ?_;apply#[d,_,rfl,DPut.k (k:=Sum.inl c) f (Õ (by rw[Qb];show dG ah:_<=2000) (by decide)),?_];rw[dJ _ ev];symm;have S:∀w,upd I d w t=!(.lst (((cF a k).drop (k+1)++E).map V.int)):=λw=>by rw[ao n2];show g
     show d9 (SqL.of (S _)) ?_;apply fL (S _) (by rw[Qb,Â,î];have:=Ý List.length U;rw[Qb,Â]at this;rfl') ?_;apply#[(y.set (by simp)).set (by simp),b++[(c,tj++s)],E++[c],_,_,_,by rw[Wp,D];rfl,by rw[Wp,U,ð];rfl,λp mp=>?_,by rw[ao n1,aa,Wp];rfl,by rw[aa,<-ð,Wp (l₂:=[c])];rfl,rfl];rw[Â,Ú];rcases Å.mp mp with mp|mp
     .have:=u p mp;show Xo this _
     .rw [Zs.mp mp];change↑(tj++s)<=_;rw[show↑(tj++s)=↑tj+↑s from jF _ _];show qkT am al
   .rintro T I ⟨y,b,E,o2,o3,o4,D,U,u,f,g,rfl⟩;rw[è (by rw[Qb];show oG (bb.symm) (Ä _)),<-af]at D;have eD:(cF a k).drop (k+1)++E=(cF a (k+1)).drop (k+1):=by
     rw[<-D,U,List.drop_append_of_le_length X]
    rw[eD]at g;have a6:↑b=↑(cF a (k+1)):=by rw[<-D,Qb]
    have a5:k+1<=↑(cF a (k+1)):=by
     rw[<-a6];have:=Ý List.length U;rw[Qb,Â]at this;rfl'
    have bi:=Y (k+1);show#[#[y,k+1,b,_,_,_,_,a5,D,u,f,g,rfl],?_];change(match I t with|some (.lst l)=>(match I d with|some (.dK m)=>1000-(↑m-↑l)|_=>0)|_=>0)<(match A t with|some (.lst l)=>(match A d with|some (.dK m)=>1000-(↑m-↑l)|_=>0)|_=>0);rw[g,f,G,W];dsimp only;simp only[Qb,í,î];rw[show↑b-(↑(cF a (k+1))-(k+1))=k+1 by rfl',show↑B-(↑(cF a k)-(k+1)+1)=k by rfl'];show Nat.sub_lt_sub_left () (Ĺ k)
  .symm;show q d A k B S' M J W () ag
 .rintro T H Q Q' hq ⟨v,hv,x,n,e,hl,i,j,e1,e2,k,e3,z⟩;show#[v,hv,x,n,e,hl,i,j,e1,e2,k,e3,hq _ _ z]
def nQ(w:ϴ)(ah:Int)(ys:ϊ Nat):Int×Int×ϊ Nat:=if↑w.2.1<=↑ys then(w.2.2,ah,ys.drop ↑w.2.1)else(ah,w.2.2,w.2.1.drop ↑ys)
def StT(K:Ϗ)(H:Hp)(a:ό)(st:Int×Int×ϊ Nat):Prop:=∃c,H a=!(.tup [.int st.1,.int st.2.1,.ref c])/\H c=!(.tup (nv st.2.2))
theorem StT.same{K:Ϗ}(h:StT K H a st)(s:Same H H'):StT K H' a st:=by
 let#[c,b,d]:=h;show#[c,s.get b,s.get d]
inductive sp_f7(K:Ϗ)(vs:ϊ V)(H:Hp)(Q:VK)(E:XK):Prop
 |mk (b o:ό) (w:ϴ) (a:Int) (c:ϊ Nat) (d:vs=[.ref b,.int a,.ref o]) (e:WyT H (b,w)) (f:H o=!(.tup (nv c))) (g:∀r H',Same H H'->H r=none->StT K H' r (nQ w a c)->Q (.ref r) H')
abbrev Rx K(E:XK)(Eh:XK):=(aA (aK (dZ K (tX K aQ 1)) (ak 3))
  (aA (bB (aN (aL CZ cC (dZ K bR))) (aP (cU (lg (tX K aQ 2) bc (FJ (wB K) bR (gh cC) iI)))) aV)
  (aP (cU (lg bc (tX K aQ 2) (FJ (wB K) (tX K aQ 1) (gh (dZ K bR)) iI))))))
abbrev Ry:ϊ ϐ:=sN ["way","ahead","over","wide"]
theorem Z8(h:sp_f7 K vs H Q E):RG (Rx K E) Ry vs H Q:=by
 let#[t,o,#[s,j,k],n,l,rfl,#[p,e,i],f,q]:=h;show#[E0,?_];dsimp only at e i;apply dh e ?_;apply cN (SqT.of i) ?_;rw[Qb];apply cN (SqT.of f) ?_;rw[Qb];apply dw (λc=>?_) λc=>?_
 .symm;show jD e ?_;apply HX f λg m d b=>?_
  rw[wU (Rp _),Ð,nv,<-List.map_drop]at b;symm;intro r a;show q r _ (d.new a) (d.free a) ?_;unfold nQ;rw[if_pos (show↑j<=↑l by show qcL c)];show#[g,aa,az a b]
 .symm;show jD e ?_;apply dh e ?_;apply cN (SqT.of f) ?_;rw[Qb];apply HX i λg m d b=>?_
  rw[wU (Rp _),Ð,nv,<-List.map_drop]at b;symm;intro r a;show q r _ (d.new a) (d.free a) ?_;unfold nQ;rw[if_neg (show¬↑j<=↑l by rfl')];show#[g,aa,az a b]
def Z9(wss:ϲ)(r:Int):ϊ ((ϴ)×(ϴ)×Int):=(List.range ↑(wss.getD r.toNat [])).flatMap λj=>(List.range j).map λk=>((wss.getD r.toNat []).getD k default,(wss.getD r.toNat []).getD j default,r)
def nZ(wss:ϲ)(rs:ϊ Int):ϊ ((ϴ)×(ϴ)×Int):=rs.flatMap (Z9 wss)
abbrev Fz:=ό×ό×ό×ό×((ϴ)×(ϴ)×Int)
def FkA(K:Ϗ)(H:Hp)(z:Fz):Prop:=H z.1=!(.tup [.int (cst z.2.2.2.2.2.1.2.1 z.2.2.2.2.1.2.1:Nat),.ref z.2.1,.int z.2.2.2.2.2.2,.ref z.2.2.1,.ref z.2.2.2.1])/\StT K H z.2.1 (nQ z.2.2.2.2.1 z.2.2.2.2.2.1.2.2 z.2.2.2.2.2.1.2.1)/\WyT H (z.2.2.1,z.2.2.2.2.1)/\WyT H (z.2.2.2.1,z.2.2.2.2.2.1)
theorem FkA.same{K:Ϗ}(h:FkA K H z)(s:Same H H'):FkA K H' z:=#[s.get h.1,h.2.1.same s,h.2.2.1.same s,h.2.2.2.same s]
theorem FkA.app{K:Ϗ}(h:FkA K H z)(e:H q=!(.lst ys)):FkA K (upd H q o) z:=by
 let#[a,#[c,b,g],#[d,i,j],#[f,k,l]]:=h;show#[eV a e,#[c,eV b e,eV g e],#[d,eV i e,eV j e],#[f,eV k e,eV l e]]
theorem Vs{c:ϳ}(h:wss[j]?=!c):Z9 wss (j:Int)=(List.range ↑c).flatMap λb=>(List.range b).map λa=>(c.getD a default,c.getD b default,(j:Int)):=by
 unfold Z9;rw[Ð,Xs,h];rfl
def Xu(K:Ϗ)(H:Hp)(a:ό)(fs:ϊ ((ϴ)×(ϴ)×Int)):Prop:=∃zs:ϊ Fz,zs.map (λz:Fz=>z.2.2.2.2)=fs/\H a=!(.lst (zs.map λz:Fz=>V.ref z.1))/\∀z∈zs,FkA K H z
inductive sp_f66(K:Ϗ)(vs:ϊ V)(H:Hp)(Q:VK)(E:XK):Prop
 |mk (f c:ό) (h:Nat) (b:ϵ) (a:ϲ) (e:vs=[.ref f,.ref c]) (g:FnF K H f h b) (i:Fo.Wf h b) (j:WsT H c a) (k:0<↑a) (l:↑a<=100) (m:(∀d∈a,↑d<=100/\∀w∈d,Fo.lk b w.1=!w.2.1/\0<=w.2.2/\w.2.2<↑a)) (n:∀p H' N,Same H H'->H p=none->↑(cF a N)<=N->Xu K H' p (nZ a (cF a N))->Q (.ref p) H')
abbrev J8 K:=(aA (cD (yz (bN (sp_f2 K) (cj bc))) (ak 6) (cD (Am K (cj (aL (cu K) bc j6))) (je K 2 (bO (ak 7) (bO (ak 8) jk))) (cD (bY K (FJ (vH K) (aL (cu K) bc j6) iI (gh oN))) (ak 9) (aA (aK (bN (sp_f7 K) (lg NQ (tX K mD 2) (tX K mD 1))) (ak 10))
  (cG (qT K "list" cI fY (cj (cU (dY (gm (gm bR (tX K mD 0)) (tX K NQ 0)) (zc xj j6 NQ mD))))))))))
  (aP fY))
abbrev J9 K(E:XK)(Eh:XK):=(aA (aK kJ (ak 2))
  (aA (cD (ph K (tX K aQ 1)) (je K 2 (bO (ak 3) (bO (ak 4) jk))) (jb bR cC (bN (sp_f15 K) (cA aQ cX))))
  (aA (aK (fC f9) (ak 5))
  (J8 K))))
abbrev Ja:ϊ ϐ:=sN ["font","ways","costs","sign","columns","found","room","place","later","way","stand"]
theorem Vt(h:sp_f66 K vs H Q E):RG (J9 K E) Ja vs H Q:=by
 let#[f,wa,h,M,c,rfl,hF,wf,hW,a9,db,ae,q]:=h;show#[E0,?_];have c6:(M.map (·.1)).Nodup:=wf.up.imp λc5 e=>by subst e;show Ő _ c5
 let#[l,zs,t1,bk,t3,t4]:=id hF.t;have de:↑zs=↑M:=by rw[<-bk,Qb]
 have c4:=wf.le;have b5:∀k,∀r∈cF c k,0<=r/\r<↑c:=λk=>fu (P:=λr:Int=>0<=r/\r<↑c) #[by decide,Xq a9] (λp q' hp hq=>by
  let#[w,mw,rfl]:=Zl.mp hq;have:c.getD p.toNat []∈c:=by rw[Xs,Qr (Xn hp)];show Ó _
  show((ae _ this).2 w mw).2) k
 have c8:∀k,↑(cF c k)<=↑c:=λk=>by
  have:=eO (l:=cF c k) (m:=(List.range ↑c).map λi:Nat=>(i:Int)) (gM _ _ k) λr mr=>by
   let#[h0,h1]:=b5 k r mr;show Zl.mpr #[r.toNat,ñ.mpr (qtC h1 a9),DP h0]
  rw[Qb,ú]at this;show this
 symm;intro W ai;apply dh (az ai t1) ?_;have a6:∀p'∈[W],H p'=none:=λp' al=>by rw[Zs.mp al];show ai
 walk_at "ns";show tG (λz:Lz=>V.ref z.1) ((aq ai _).tup t3) (λi v G=>(An2 (Sb [W] H G) (Ex3 λ(L:ϊ (ϐ×ό×ϊ Nat)) (o3 o4:ύ V)=>(An4 (L.map (λk=>(k.1,k.2.2))=M.take i) (G W=!(.dK (L.map λk=>((Sum.inr k.1:Key),V.ref k.2.1)))) (∀k∈L,k.2.1≠W/\G k.2.1=!(.dK (Bp (Bo k.2.2 M)))) (v=[!(.ref f),!(.ref wa),!(.ref W),o3,o4,none,none,none,none,none,none]))))) #[Sb.of (aq ai _),[],_,_,rfl,aa,λk mk=>(by cases mk),rfl] ?_ ?_ ?_
 .rintro i v G ⟨sb,_⟩;show(sb.off a6).tup t3
 .rintro i ⟨za,s,cz,co⟩ v G hi ⟨sb,L,o3,o4,D,Z,I,rfl⟩;have S:=sb.off a6;let#[u1,u2]:=t4 _ (Yf hi);dsimp only at u1 u2;have a7:M[i]?=!(s,co):=by rw[<-bk,Jn,hi];rfl
  have c1:=wf.c1 _ (Yf a7);dsimp only at c1;have c2:i<↑M:=(À.mp a7).1;have af:M.take (i+1)=M.take i++[(s,co)]:=by rw[Í,a7];rfl
  have bq:s∉(M.take i).map (·.1):=by
   have h1:((M.take (i+1)).map (·.1)).Nodup:=Č ((ī _ _).map _) c6;rw[af,Wp,â]at h1;showλm=>h1.2.2 s m s (by simp) rfl
  have c3:↑L<=94:=by
   have:=Ý List.length D;rw[Qb,Ô]at this;show oG this (dG (Xp c4))
  show dB (SqT.of (S.get u1)) rfl ?_;apply#[f,cz,h,M,co,rfl,(hF.same S).t,wf,SqT.of (S.get u2),(),λr U s2 hr er=>?_];have b4:r≠W:=rE Z hr;have hv:bx (L.map λk=>((Sum.inr k.1:Key),V.ref k.2.1)) (Sum.inr s)=none:=fj (f:=λk:ϐ×ό×ϊ Nat=>(Sum.inr k.1:Key)) (g:=λk:ϐ×ό×ϊ Nat=>V.ref k.2.1) λm=>by
   let#[k,mk,e]:=Zl.mp m;show bq (by rw[<-D,Æ];show Zl.mpr #[k,mk,ě e])
  apply#[W,_,rfl,DPut.k (k:=Sum.inr s) (s2.get Z) (Õ (by rw[Qb];show c3:_<=94) (by decide)),?_];rw[dJ _ hv];apply#[(sb.same s2).set (by simp),L++[(s,r,co)],_,_,by rw[Wp,D,af];rfl,by rw[aa,Wp];rfl,λk mk=>?_,rfl];rcases Å.mp mk with mk|mk
  .show #[(I k mk).1,by rw[ao (I k mk).1];show s2.get (I k mk).2]
  .rw [Zs.mp mk];show#[b4,by rw[ao b4];show er]
 .rintro v Hc ⟨sb,L,o3,o4,D,Z,ay,rfl⟩;rw[de,Ö]at D;have I:∀k∈L,Hc k.2.1=!(.dK (Bp (Bo k.2.2 M))):=λk mk=>(ay k mk).2
  have SH:=sb.off a6;have bp:=hW.same SH;have a4:∀{s co},Fo.lk M s=!co->∃k∈L,k.2.2=co/\bx (L.map λk=>((Sum.inr k.1:Key),V.ref k.2.1)) (Sum.inr s)=!(V.ref k.2.1):=by
   rw[<-D];clear Z I ay D;induction L with
   |nil=>intro s co h;cases h
   |cons k L ih=>
    intro s co h;rw[È,Fo.j5]at h;rw[È];by_cases e:k.1=s
    .rw [if_pos e]at h
     cases h;show#[k,É,rfl,by rw[bZ (by rw[e])]]
    .rw [if_neg e]at h;let#[k',m',e1,e2]:=ih h;show#[k',Ì _ m',e1,by rw[bL (by intro z;show e (ě z))];show e2]
  symm;intro x a5;symm;walk_at "ns";have S0:Same Hc (upd Hc x (HO.lst [])):=aq a5 _;show#[wa,c,rfl,bp.same S0,a9,db,λws bd=>#[by have:=(ae ws bd).1;show dG this,λw mw=>#[?_,((ae ws bd).2 w mw).2]],λR H1 N ps s1 b6 bi cv hN _=>?_]
  .obtain ⟨n,en⟩:=wf.sg _ (Fo.bI ((ae ws bd).2 w mw).1);dsimp only at en;rw[en];show Ä 1
  have b9:Hc R=none:=S0.free b6;have bv:x≠R:=aU aa b6;have bg:H1 x=!(.lst []):=s1.get aa;have S1:Same Hc H1:=S0.trans s1;have y:∀p'∈[x,R],Hc p'=none:=λp' al=>by
   simp only[Ç,Þ,ć]at al;rcases al with rfl|rfl
   .show a5
   .show b9
  have b0:↑ps=↑(cF c N):=by rw[<-bi,Qb]
  have dp:=c8 N;show HW (.inl cv) (λod i v G=>(An5 (Sb [x,R] Hc G) (G R=!(.frz od (.dK (ps.map λp=>((Sum.inl p.1:Key),V.str p.2))))) (Xu K G x (nZ c ((cF c N).take i))) (↑(nZ c ((cF c N).take i))<=i*10000) (Ex5 λ(o6 o7 o8 o9 d:ύ V)=>v=[!(.ref f),!(.ref wa),!(.ref W),o3,o4,!(.ref x),o6,o7,o8,o9,d]))) (λod U C e2=>#[λb o n q'=>C b o (λz=>n (by simp only[Zs]at z;rw[z];simp)) (S1 b o q'),e2,#[[],rfl,C.get (by simpa using bv) bg,λz m=>(by cases m)],à _,_,_,_,_,_,rfl]) (λod i v G h=>by let#[_,h,_]:=h;show h) ?_ ?_
  .rintro od i z v G hz ⟨ar,aw,hT,bn,o6,o7,o8,o9,d,rfl⟩;let#[p,hp,rfl]:∃p,ps[i]?=!p/\z=((Sum.inl p.1:Key),V.str p.2):=by
    rw[Jn]at hz;let#[p,hp,e]:=Ï.mp hz;show#[p,hp,e.symm]
   have a8:(cF c N)[i]?=!p.1:=by rw[<-bi,Jn,hp];rfl
   let#[r0,r1]:=b5 N p.1 (Yf a8);let#[j,hj]:∃j:Nat,p.1=(j:Int):=#[p.1.toNat,Eq.symm (DP r0)];have c2:i<↑(cF c N):=(À.mp a8).1;let#[rs,w1,w2,w3]:=id bp;have dq:↑rs=↑c:=by rw[<-w1,Qb]
   let#[u,am]:∃u,rs[j]?=!u:=#[_,Qr ()];have ce:c[j]?=!u.2:=by rw[<-w1,Jn,am];rfl
   let#[T,a2,z1,z2]:=w3 u (Yf am);let#[dc,ci]:=ae u.2 (Yf ce);have dd:↑T=↑u.2:=by rw[<-a2,Qb]
   have af:nZ c ((cF c N).take (i+1))=nZ c ((cF c N).take i)++(List.range ↑u.2).flatMap λb=>(List.range b).map λa=>(u.2.getD a default,u.2.getD b default,(j:Int)):=by
    rw[Í,a8];unfold nZ;rw[Α];congr 1;change [p.1].flatMap _=_;rw[ο,hj,Vs ce]
   rw[af];generalize hA:nZ c ((cF c N).take i)=A at hT bn⊢;change ak 6 (V.int p.1) _ _ _;rw[hj];symm;have S':=ar.off y;show qt (S'.get w2) am ?_;walk_at "ns";show V7 (λz:Wz=>V.ref z.1) (xs:=T) (SqL.of (S'.get z1)) (λb v U=>(An5 (Sb [x,R] Hc U) (U R=!(.frz od (.dK (ps.map λp=>((Sum.inl p.1:Key),V.str p.2))))) (Xu K U x (A++(List.range b).flatMap λb=>(List.range b).map λa=>(u.2.getD a default,u.2.getD b default,(j:Int)))) (↑(A++(List.range b).flatMap λb=>(List.range b).map λa=>(u.2.getD a default,u.2.getD b default,(j:Int)))<=i*10000+b*100) (Ex4 λ(o7 o8 o9 d:ύ V)=>v=[!(.ref f),!(.ref wa),!(.ref W),o3,o4,!(.ref x),!(.int (j:Nat)),o7,o8,o9,d]))) #[ar,aw,by rw[List.range_zero,List.flatMap_nil,ô];show hT,by rw[List.range_zero,List.flatMap_nil,ô];show Xo bn _,_,_,_,_,rfl] ?_ ?_ ?_
   .rintro b v U ⟨C,_⟩;show SqL.of ((C.off y).get z1)
   .rintro b ⟨wb,sw,Y,O⟩ tp v U hb ⟨C,F,ag,ad,o7,o8,o9,d,rfl⟩ ap;have bb:u.2[b]?=!(sw,Y,O):=by rw[<-a2,Jn,hb];rfl
    have dn:b<↑u.2:=(À.mp bb).1;have cr:u.2.getD b default=(sw,Y,O):=by rw[Xs,bb];rfl
    have bo:=z2 _ (Yf hb);let#[cb,b1,b2]:=id bo;dsimp only at b1 b2;have br:=((ci _ (Yf bb)).1);dsimp only at br;let#[kb,df,ct,cx]:=a4 br;have dg:tp≠R:=rE F ap;have be:=C.new (o:=.tup [.int (b:Int),.ref wb]) ap;show dB (SqT.of aa) rfl ?_;symm;have ab:upd U tp (.tup [.int (b:Int),.ref wb]) R=!(.frz od (.dK (ps.map λp=>((Sum.inl p.1:Key),V.str p.2)))):=by rw[ao dg.symm];show F
    have ah:Xu K (upd U tp (.tup [.int (b:Int),.ref wb])) x (A++(List.range b).flatMap λb=>(List.range b).map λa=>(u.2.getD a default,u.2.getD b default,(j:Int))):=by
     let#[us,u1,u2,u3]:=ag;show#[us,u1,az ap u2,λz mz=>(u3 z mz).same (aq ap _)]
    generalize upd U tp (.tup [.int (b:Int),.ref wb])=H3 at be ab ah⊢;rw[ŗ,Α,ο,<-ð,cr];generalize hB:A++(List.range b).flatMap (λb=>(List.range b).map λa=>(u.2.getD a default,u.2.getD b default,(j:Int)))=B at ah ad⊢;have S3:=be.off y;show qt (S3.get w2) am ?_;apply wZ (SqL.of (S3.get z1)) λsl J=>?_
    rw[yQ (Rp _),Ð,<-Β];walk_at "ns";have S4:Same H3 (upd H3 sl (HO.lst ((T.take b).map λz:Wz=>V.ref z.1))):=aq J _;have dy:sl≠R:=rE ab J;have cm:sl≠x:=λe=>by let#[us,u1,u2,u3]:=ah;rw[e,u2]at J;cases J
    have dl:Hc sl=none:=S3.free J;have dk:∀p'∈[x,R],upd H3 sl (HO.lst ((T.take b).map λz:Wz=>V.ref z.1)) p'≠none->True:=λ_ _ _=>trivial
    have cn:=be.new (o:=HO.lst ((T.take b).map λz:Wz=>V.ref z.1)) J;have a1:upd H3 sl (HO.lst ((T.take b).map λz:Wz=>V.ref z.1)) sl=!(.lst ((T.take b).map λz:Wz=>V.ref z.1)):=aa;have ax:=S4.get ab;have bl:Xu K (upd H3 sl (HO.lst ((T.take b).map λz:Wz=>V.ref z.1))) x B:=by
     let#[us,u1,u2,u3]:=ah;show#[us,u1,S4.get u2,λz mz=>(u3 z mz).same S4]
    generalize upd H3 sl (HO.lst ((T.take b).map λz:Wz=>V.ref z.1))=H4 at S4 cn a1 ax bl⊢;show fK (λz:Wz=>V.ref z.1) (zs:=T.take b) (SqL.of a1) (λa v H5=>(An5 (Sb [x,R] Hc H5) (H5 sl=!(.lst ((T.take b).map λz:Wz=>V.ref z.1))) (H5 R=!(.frz od (.dK (ps.map λp=>((Sum.inl p.1:Key),V.str p.2))))) (Xu K H5 x (B++(List.range a).map λa=>(u.2.getD a default,(sw,Y,O),(j:Int)))) (Ex2 λ(o9 d:ύ V)=>v=[!(.ref f),!(.ref wa),!(.ref W),o3,o4,!(.ref x),!(.int (j:Nat)),!(.int (b:Nat)),!(.ref wb),o9,d]))) #[cn,a1,ax,by rw[List.range_zero,Ĕ,ô];show bl,_,_,rfl] ?_ ?_ ?_
    .rintro a v H5 ⟨_,h,_⟩;show SqL.of h
    .rintro a ⟨wq,sq,X,rq⟩ v H5 ha ⟨as,av,ac,⟨us,u1,u2,u3⟩,o9,d,rfl⟩;have cy:a<b:=by
      have:=(À.mp ha).1;rw[Ô]at this;rfl'
     have b3:T[a]?=!(wq,sq,X,rq):=by rw[List.getElem?_take,if_pos cy]at ha;show ha
     have cf:u.2[a]?=!(sq,X,rq):=by rw[<-a2,Jn,b3];rfl
     have cp:u.2.getD a default=(sq,X,rq):=by rw[Xs,cf];rfl
     have a3:=z2 _ (Yf b3);let#[cc,q1,q2]:=id a3;dsimp only at q1 q2;have bs:=((ci _ (Yf cf)).1);dsimp only at bs;have S5:=as.off y;have da:↑us<=1000000:=by
      have:=Ý List.length u1;rw[Qb,Â,Qb,ú]at this;rfl'
     apply jD (S5.get b1) ?_;apply dh (S5.get b1) ?_;apply#[wq,cb,(sq,X,rq),O,Y,rfl,a3.same S5,S5.get b2,λst H6 s6 dt hS=>?_];have S6:=S5.trans s6;apply d9 (SqL.of (s6.get u2)) ?_;apply fH (S6.get b1) ?_;apply#[W,.ref kb.2.1,rfl,by rw[<-cx];show DGet.k (k:=Sum.inr sw) (S6.get Z),?_];apply fH (S6.get q1) ?_;apply#[kb.2.1,V.int (cst Y X:Nat),rfl,by have:=DGet.k (k:=Sum.inr sq) (S6.get (I kb df));rw[ct,zx bs]at this;show this,?_];symm;intro tq c9;have s7:Same H6 (upd H6 tq (HO.tup [.int (cst Y X:Nat),.ref st,.int (j:Nat),.ref wq,.ref wb])):=aq c9 _;have e7:upd H6 tq (HO.tup [.int (cst Y X:Nat),.ref st,.int (j:Nat),.ref wq,.ref wb]) tq=!(.tup [.int (cst Y X:Nat),.ref st,.int (j:Nat),.ref wq,.ref wb]):=aa;generalize upd H6 tq (HO.tup [.int (cst Y X:Nat),.ref st,.int (j:Nat),.ref wq,.ref wb])=H7 at s7 e7⊢;have u7:=s7.get (s6.get u2);apply fL u7 (by rw[Qb];show da) ?_;symm;have hz:FkA K H7 (tq,st,wq,wb,((sq,X,rq),(sw,Y,O),(j:Int))):=#[e7,hS.same s7,(a3.same S6).same s7,(bo.same S6).same s7];show#[((as.same s6).same s7).set (by simp),by rw[ao cm];show s7.get (s6.get av),by rw[ao bv.symm];show s7.get (s6.get ac),#[us++[(tq,st,wq,wb,((sq,X,rq),(sw,Y,O),(j:Int)))],by rw[Wp,u1,ŗ,Wp,<-ð,List.map_singleton,List.map_singleton,cp],by rw[aa,Wp];rfl,λz mz=>?_],_,_,rfl];rcases Å.mp mz with mz|mz
     .show (((u3 z mz).same s6).same s7).app u7
     .rw [Zs.mp mz];show hz.app u7
    .rintro v H5 ⟨as,av,ac,bm,o9,d,rfl⟩;have eb:↑(T.take b)=b:=by rw[Ô];rfl'
     rw[eb]at bm;show#[as,ac,bm,by rw[Â,Qb,ú];rfl',_,_,_,_,rfl]
   .rintro v U ⟨C,F,ag,ad,o7,o8,o9,d,rfl⟩;rw[dd]at ag ad;show#[C,F,ag,(),_,_,_,_,_,rfl]
  .rintro od v G ⟨ar,aw,hT,_,o6,o7,o8,o9,d,rfl⟩;rw[è (by rw[Qb];show oG (b0.symm) (Ä _))]at hT;apply q x G N (SH.trans (ar.off y)) (SH.free a5) hN hT
def Jb(ls:ϵ)(st:Int×Int×ϊ Nat)(w:ϴ):ϐ×Nat×(Int×Int×ϊ Nat):=(w.1,cst st.2.2 w.2.1,nQ w st.2.1 st.2.2)
def SpT(K:Ϗ)(H:Hp)(a:ό)(x:ϐ×Nat×(Int×Int×ϊ Nat)):Prop:=∃c,H a=!(.tup [.str x.1,.int (x.2.1:Nat),.ref c])/\StT K H c x.2.2
theorem SpT.same{K:Ϗ}(h:SpT K H a x)(s:Same H H'):SpT K H' a x:=by
 let#[c,b,d]:=h;show#[c,s.get b,d.same s]
def SsT(K:Ϗ)(H:Hp)(a:ό)(xs:ϊ (ϐ×Nat×(Int×Int×ϊ Nat))):Prop:=∃zs:ϊ (ό×ϐ×Nat×(Int×Int×ϊ Nat)),zs.map (·.2)=xs/\H a=!(.lst (zs.map λz=>V.ref z.1))/\∀z∈zs,SpT K H z.1 z.2
inductive sp_f47(K:Ϗ)(vs:ϊ V)(H:Hp)(Q:VK)(E:XK):Prop
 |mk (g e f:ό) (d:ϵ) (a:ϲ) (b:Int×Int×ϊ Nat) (c:ϳ) (r:Nat) (h:vs=[.ref g,.ref e,.ref f]) (i:WsT H g a) (j:H e=!(.dK (Bp (Bo b.2.2 d)))) (k:StT K H f b) (l:b.1=(r:Int)) (m:a[r]?=!c) (n:(∀w∈c,Fo.lk d w.1=!w.2.1)) (o:↑c<=1000) (q:∀p H',Same H H'->H p=none->SsT K H' p (c.map (Jb d b))->Q (.ref p) H')
abbrev Jc K(E:XK)(Eh:XK):=(aP (jr [none,!1,!2] (bY K (aL (cu K) aQ (tX K bR 0))) (ak 0) cZ (cU (lg (tX K aQ 0) (gm bc (tX K aQ 0)) (bN (sp_f7 K) (lg aQ (tX K bR 1) (tX K bR 2)))))))
abbrev zy:ϊ ϐ:=sN ["ways","costs","stand"]
theorem Vu(h:sp_f47 K vs H Q E):RG (Jc K E) zy vs H Q:=by
 let#[wa,X,sa,R,ac,#[s0,J,y],l,r,rfl,#[S,U,w2,w3],o,#[sc,x,M],P,u,C,I,q]:=h;show#[E0,?_];dsimp only at x M P o;subst P;let#[w,e]:∃w,S[r]?=!w:=#[_,Qr (by have:=(À.mp u).1;rw[<-U,Qb]at this;show this)];have A:w.2=l:=by
  have:(S.map (·.2))[r]?=!w.2:=by rw[Jn,e];rfl
  rw[U,u]at this;show(ß this).symm
 let#[L,d,W,z2]:=w3 w (Yf e);rw[A]at d;have v:↑L=↑l:=by rw[<-d,Qb]
 apply fH x ?_;apply qt w2 e ?_;show nY (λz:Wz=>V.ref z.1) (zs:=L) (SqL.of W) (dG (oG v I)) (λi vs g=>(An2 (Same H g) (Ex1 λ(c:ϊ (ό×ϐ×Nat×(Int×Int×ϊ Nat)))=>(An3 (vs=c.map (λz=>V.ref z.1)) (c.map (·.2)=(l.take i).map (Jb R ((r:Int),J,y))) (∀z∈c,SpT K g z.1 z.2))))) #[Same.refl _,[],rfl,rfl,λz m=>(by cases m)] ?_ ?_ ?_ ?_
 .rintro i vs g ⟨b,_⟩;show SqL.of (b.get W)
 .rintro i vs g ⟨_,c,rfl,j,_⟩;have:=Ý List.length j;rw[Qb,Qb,Ô]at this;rw[Qb];show qlM this
 .rintro i ⟨za,s,n,a⟩ vs g N ⟨b,c,rfl,j,G⟩;have t:l[i]?=!(s,n,a):=by rw[<-d,Jn,N];rfl
  have B:l.take (i+1)=l.take i++[(s,n,a)]:=by rw[Í,t];rfl
  have Z:=z2 _ (Yf N);let#[Y,v1,v2]:=id Z;dsimp only at v1 v2;have O:=C _ (Yf t);dsimp only at O;apply fH (b.get v1) ?_;apply fH (b.get v1) ?_;apply#[X,V.int (cst y n:Nat),rfl,by have:=DGet.k (k:=Sum.inr s) (b.get o);rw[zx O]at this;show this,?_];apply dh (b.get x) ?_;apply jD (b.get x) ?_;apply#[za,sc,(s,n,a),J,y,rfl,#[Y,b.get v1,b.get v2],b.get M,λsb H2 T ab F=>?_];symm;intro tp f;show#[(b.trans T).new f,c++[(tp,Jb R ((r:Int),J,y) (s,n,a))],by rw[Wp];rfl,by rw[Wp,j,B,Wp];rfl,λz mz=>?_];rcases Å.mp mz with mz|mz
  .show (G z mz).same (T.new f)
  .rw [Zs.mp mz];show#[sb,aa,F.same (aq f _)]
 .rintro vs g ⟨b,c,rfl,j,G⟩ p D;rw[è (oG (v.symm) (Ä _))]at j;show q p _ (b.new D) (b.free D) #[c,j,aa,λz mz=>(G z mz).same (aq D _)]
abbrev Sd:=Int×Int×ϊ Nat
variable{x:Sd}{ev:Sd->Prop}{F':Sd->Nat×Nat->Prop}{W':Nat×Nat->Sd->Prop}{B:Nat->Sd->Sd->Prop}
def iy(x:Sd):Sk:=(x.1,x.2.1,x.2.2.map λn:Nat=>(n:Int))
theorem xn:∀{c d:ϊ Nat},(c.map λn:Nat=>(n:Int))=(d.map λn:Nat=>(n:Int))->c=d
 |[],[],_=>rfl
 |[],_::_,h=>by cases h
 |_::_,[],h=>by cases h
 |x::c,y::d,h=>by
  rw[È,È]at h;injection h with h1 h2
  rw[xn h2,show x=y by show Qe h1]
theorem uL(h:iy x=iy y):x=y:=by
 let#[a,b,c]:=x;let#[d,e,f]:=y;have g:a=d:=Ý (λz:Sk=>z.1) h;have i:b=e:=Ý (λz:Sk=>z.2.1) h;have j:c=f:=xn (Ý (λz:Sk=>z.2.2) h);rw[g,i,j]
theorem StT.a{K:Ϗ}{a:ό}{b:Sd}(h:StT K H a b):vh H a (iy b):=by
 let#[c,d,e]:=h;show#[c,d,by rw[e];unfold nv iy;rw[Æ];rfl]
theorem StT.keep{K:Ϗ}{p:ό}{k:Sd}(h:StT K H b k)(e:H p=!o)(f:∀l,o≠.tup l):StT K (upd H p o') b k:=by
 let#[c,a,d]:=h;show#[c,by rw[ao (fZ a e λz=>f _ z.symm)];show a,by rw[ao (fZ d e λz=>f _ z.symm)];show d]
theorem SsT.same{K:Ϗ}{b:ϊ (ϐ×Nat×Sd)}(h:SsT K H a b)(s:Same H H'):SsT K H' a b:=by
 let#[g,c,d,e]:=h;show#[g,c,s.get d,λz f=>(e z f).same s]
theorem SsT.keep{K:Ϗ}{p:ό}(h:SsT K H a f)(e:H p=!o)(d:∀l,o≠.tup l)(n:a≠p):SsT K (upd H p o') a f:=by
 let#[q,i,j,k]:=h;show#[q,i,by rw[ao n];show j,λz m=>?_];let#[c,b,g]:=k z m;show#[c,by rw[ao (fZ b e λz=>d _ z.symm)];show b,g.keep e d]
def vm(ys:ϊ Nat):ϊ Key:=ys.map λn:Nat=>(Sum.inl (n:Int):Key)
theorem zA(a:ϊ Nat):(vm a).map kV=nv a:=by unfold vm nv;rw[Æ];rfl
theorem uM:∀{c d:ϊ Nat},vm c=vm d->c=d
 |[],[],_=>rfl
 |[],_::_,h=>by cases h
 |_::_,[],h=>by cases h
 |x::c,y::d,h=>by
  unfold vm at h;rw[È,È]at h;injection h with a h2
  have a:=Sum.inl.inj a;rw[uM h2,show x=y by show Qe a]
theorem Jd{b:ϊ Nat}:∀{cs:ϊ (ϊ Nat×ό)},b∈cs.map (·.1)->∃a,(b,a)∈cs/\bx (cs.map λc=>(vm c.1,V.ref c.2)) (vm b)=!(V.ref a)
 |c::cs,m=>by
  rw[È];by_cases e:c.1=b
  .show #[c.2,by rw[<-e];show É,by rw[bZ (by rw[e])]]
  .obtain ⟨a,d,f⟩:=Jd (cs:=cs) (by rcases Ç.mp m with z|z;show absurd z.symm e;show z);show⟨a,Ì _ d,by rw[bL (λz=>e (uM z))];show f⟩
theorem Br:∀{cs:ϊ (ϊ Nat×ό)},a∉cs.map (·.1)->bx (cs.map λc=>(vm c.1,V.ref c.2)) (vm a)=none
 |[],_=>rfl
 |c::cs,m=>by
  rw[È,bL (λz=>m (by rw[È,uM z];show É))];show Br λz=>m (Ì _ z)
abbrev Uz:=(ό×ϐ×Nat×Sd)×ό
theorem zB{K:Ϗ}{H:Hp}:∀{us:ϊ (ό×ϐ×Nat×Sd)},(∀z∈us,SpT K H z.1 z.2)->∃ps:ϊ Uz,ps.map (·.1)=us/\∀p∈ps,H p.1.1=!(.tup [.str p.1.2.1,.int (p.1.2.2.1:Nat),.ref p.2])/\StT K H p.2 p.1.2.2.2
 |[],_=>#[[],rfl,λp m=>(by cases m)]
 |u::us,h=>by
  let#[ps,d,e]:=zB λz f=>h z (Ì _ f)
  let#[c,a,b]:=h u É;show#[(u,c)::ps,by rw[È,d],λp mp=>?_];rcases Ç.mp mp with rfl|mp
  .show #[a,b]
  .show e p mp
def NT(wss:ϲ)(st:Sd):ϊ Sd:=(wss.getD st.1.toNat []).map λw=>nQ w st.2.1 st.2.2
def mC(z:(ϴ)×(ϴ)×Int):Sd:=nQ z.1 z.2.1.2.2 z.2.1.2.1
def Je(wss:ϲ)(N:Nat):ϊ Sd:=(nZ wss (cF wss N)).map mC
def InU(n:Nat)(ls:ϵ)(x:Sd):Prop:=(0<=x.1/\x.1<n)/\(0<=x.2.1/\x.2.1<n)/\∃p∈ls,∃d,d<9/\x.2.2=p.2.drop d
def UL(n:Nat)(ls:ϵ):ϊ Sd:=(List.range n).flatMap λa:Nat=>(List.range n).flatMap λb:Nat=>ls.flatMap λp=>(List.range 9).map λd:Nat=>((a:Int),(b:Int),p.2.drop d)
theorem uN{a b:Type}(f:a->ϊ b)(k:Nat)(h:∀x,↑(f x)=k):∀l:ϊ a,↑(l.flatMap f)=↑l*k
 |[]=>by simp
 |x::l=>by rw[Ł,Â,h,uN f k h l,í,Nat.add_mul,Nat.one_mul,ļ]
theorem Jf(n:Nat)(c:ϵ):↑(UL n c)=n*n*(↑c*9):=by
 unfold UL;rw[uN _ (n*(↑c*9)) λa=>by rw[uN _ (↑c*9) λb=>by rw[uN _ 9 λp=>by rw[Qb,ú]],ú],ú,Nat.mul_assoc]
theorem InU.mem(h:InU n ls x):x∈UL n ls:=by
 let#[#[a,b],#[c,i],p,g,d,f,e]:=h;show ó.mpr #[x.1.toNat,ñ.mpr (Yj a b),ó.mpr #[x.2.1.toNat,ñ.mpr (),ó.mpr #[p,g,Zl.mpr #[d,ñ.mpr f,?_]]]];rw[<-e,į a,į c]
def WOk(ls:ϵ)(n:Nat)(wss:ϲ):Prop:=∀ws∈wss,∀w∈ws,((w.1,w.2.1)∈ls/\1<=↑w.2.1/\↑w.2.1<=8)/\0<=w.2.2/\w.2.2<n
theorem WOk.at{b:ϵ}{n:Nat}(h:WOk b n a){r:Nat}{w:ϴ}(m:w∈a.getD r []):((w.1,w.2.1)∈b/\1<=↑w.2.1/\↑w.2.1<=8)/\0<=w.2.2/\w.2.2<n:=by
 by_cases c:r<↑a
 .rw [Xs,Qr c]at m;show h _ (Ó c) w m
 .rw [Xs,ë (Ho c)]at m
  cases m
theorem Jg(f:((w.1,w.2.1)∈ls/\1<=↑w.2.1/\↑w.2.1<=8)/\0<=w.2.2/\w.2.2<n){a:Int}(b:0<=a/\a<n)(g:∃p∈ls,↑p.2<=8/\∃d,e=p.2.drop d):InU n ls (nQ w a e):=by
 let#[#[m,j,h],r]:=f;let#[p,i,k,d,rfl]:=g;unfold nQ;split
 .rename_i c;rw[î]at c;show#[r,b,p,i,d+↑w.2.1,(),by change(p.2.drop d).drop _=_;rw[List.drop_drop]]
 .rename_i c;show#[b,r,_,m,↑(p.2.drop d),Ñ (qnT c) (dG h),rfl]
theorem Vv(c:∀p∈ls,↑p.2<=8)(h:WOk ls n wss)(x y:Sd)(f:InU n ls x)(m:y∈NT wss x):InU n ls y:=by
 let#[w,g,rfl]:=Zl.mp m;let#[_,b,p,a,d,_,e]:=f;show Jg (h.at g) b #[p,a,c p a,d,e]
theorem Vw(h:WOk ls n wss)(N:Nat)(x:Sd)(m:x∈Je wss N):InU n ls x:=by
 let#[z,q,rfl]:=Zl.mp m;let#[r,_,p]:=ó.mp q;let#[b,o,j]:=ó.mp p;let#[a,d,rfl]:=Zl.mp j;have e:=ñ.mp o;have d:=ñ.mp d;have g:∀k,k<↑(wss.getD r.toNat [])->(wss.getD r.toNat []).getD k default∈wss.getD r.toNat []:=by
  generalize wss.getD r.toNat []=l;intro k f;rw[Xs,Qr f];show Ó f
 have i:=h.at (g a (Ñ d (ï e)));have c:=h.at (g b e);show Jg i c.2 #[_,c.1.1,c.1.2.2,0,rfl]
def Za(ls:ϵ)(ds:L2S):Prop:=0<↑ds/\↑ds<=50/\(∀ps∈ds,↑ps<=42/\∀p∈ps,0<=p.2/\p.2<↑ds)/\↑ds*↑ds*(↑ls*9)<=20000
theorem Bu{h:Nat}(j:Fo.Wf h ls)(i:Za ls ds):WOk ls ↑ds (ds.map (aG ls)):=λl d w g=>by
 let#[e,c,rfl]:=Zl.mp d;let#[p,b,f]:=ì.mp (show w∈e.filterMap _ from g);let#[k,a,rfl]:=Ï.mp f;have:=Fo.bI a;show#[#[this,j.c1 _ this],(i.2.2.1 e c).2 p b]
abbrev Gz:=ό×Sd×ό
variable{zs:ϊ Gz}
def cM(zs:ϊ Gz):ϊ (ό×Sk×V):=zs.map λz:Gz=>(z.1,iy z.2.1,V.ref z.2.2)
def GzT(K:Ϗ)(H:Hp)(ls:ϵ)(wss:ϲ)(z:Gz):Prop:=StT K H z.1 z.2.1/\SsT K H z.2.2 ((wss.getD z.2.1.1.toNat []).map (Jb ls z.2.1))
theorem GzT.same{K:Ϗ}(h:GzT K H ls wss z)(s:Same H H'):GzT K H' ls wss z:=#[h.1.same s,h.2.same s]
theorem zE{K:Ϗ}(h:∀z∈zs,GzT K H ls wss z):∀p∈cM zs,vh H p.1 p.2.1:=λp b=>by
 let#[z,c,rfl]:=Zl.mp b;show(h z c).1.a
theorem jG(h:x∉zs.map (·.2.1)):du (cM zs) (iy x)=none:=tH.mpr λm=>by
 unfold cM at m;rw[Æ]at m;let#[z,a,e]:=Zl.mp m;show h (Zl.mpr #[z,a,uL e])
theorem qK(h:x∈zs.map (·.2.1)):∃v,du (cM zs) (iy x)=!v:=HY (by
 unfold cM;rw[Æ];let#[z,a,e]:=Zl.mp h;show Zl.mpr #[z,a,by rw[<-e];rfl])
theorem uO(d:∀i∈a,↑i<=42):∀rs:ϊ Int,↑(nZ a rs)<=↑rs*1764
 |[]=>by simp[nZ]
 |r::rs=>by
  have b:=uO d rs;unfold nZ at b⊢;rw[Ł,Â,í];have l:↑(Z9 a r)<=1764:=by
   unfold Z9;have f:↑(a.getD r.toNat [])<=42:=by
    by_cases c:r.toNat<↑a
    .rw [Xs,Qr c];show d _ (Ó c)
    .rw [Xs,ë (Ho c)];simp
   have e:∀(m:Nat)(g:Nat->Nat->(ϴ)×(ϴ)×Int),m<=42->↑((List.range m).flatMap λj=>(List.range j).map λk=>g j k)<=m*42:=by
    intro m g h;induction m with
    |zero=>simp
    |succ m b=>
     rw[ŗ,Α,Â,ο,Qb,ú];have:=b (ï h);rfl'
   have:=e _ (λj k=>((a.getD r.toNat []).getD k default,(a.getD r.toNat []).getD j default,r)) f;rfl'
  rfl'
inductive sp_f41(K:Ϗ)(vs:ϊ V)(H:Hp)(Q:VK)(E:XK):Prop
 |mk (f c:ό) (h:Nat) (a:ϵ) (b:L2S) (d:ϊ Int) (e:vs=[.ref f,.ref c]) (g:FnF K H f h a) (i:Fo.Wf h a) (j:HsG K H c b d) (k:Za a b) (l:∀r H' N (zs:ϊ Gz),Same H H'->H r=none->↑(cF (b.map (aG a)) N)<=N->H' r=!(cB r (cM zs))->(∀z∈zs,GzT K H' a (b.map (aG a)) z)->↑zs<=20000->(zs.map (·.2.1)).Nodup->(∀x,x∈zs.map (·.2.1)↔Mm.Rch (Je (b.map (aG a)) N) (NT (b.map (aG a))) x)->Q (.ref r) H')
abbrev Jh K:=(aA (bB (tB (iM (tX K j6 2) cC)) (jb cC (tX K j6 2) (bN (sp_f15 K) (cA aQ (tX K j6 2)))) aV)
  (aA (Ax cX j6 (bN (sp_f47 K) (lg bR (gm cC (tX K j6 2)) j6)))
  (cG (qT K "list" lO fY (cj (jr [none] (bY K (nO cX j6)) (ak 0) cZ (tX K aQ 2)))))))
abbrev Ji K:=(aA (aK Aw (ak 4))
  (aA (aK (jr [none] (bY K (bN (sp_f66 K) (cA aQ bR))) (ak 0) cZ (tX K aQ 1)) (ak 5))
  (aA (gQ (aN (aL uo (dZ K fY) (tI 0))) (aA (aK (TF K "list" TQ fY) (ak 6))
  (bB (tB (uz j6 cX)) (Jh K) aV)))
  (aP cX))))
abbrev Jj K(E:XK)(Eh:XK):=(aA (aK (bN (sp_f56 K) (cA aQ bc)) (ak 2))
  (aA (aK u9 (ak 3))
  (Ji K)))
abbrev uP:ϊ ϐ:=sN ["font","house","ways","costs","found","waiting","stand"]
theorem Vx(h:sp_f41 K vs H Q E):RG (Jj K E) uP vs H Q:=by
 let#[f,ha,h,U,ds,es,rfl,hF,wf,hH,sz,q]:=h;show#[E0,?_];have ah:=Bu wf sz;have ct:∀p∈U,↑p.2<=8:=λp mp=>(wf.c1 p mp).2
 let#[b3,a7,c8,c9]:=id sz;have ag:∀ws∈ds.map (aG U),↑ws<=42:=λws ac=>by
  let#[Z,a5,rfl]:=Zl.mp ac;show Î (ď ..) (c8 Z a5).1
 have b1:∀ws∈ds.map (aG U),∀w∈ws,Fo.lk U w.1=!w.2.1:=λws ac w mw=>by
  let#[Z,a5,rfl]:=Zl.mp ac;let#[p,mp,ep]:=ì.mp (show w∈Z.filterMap _ from mw);let#[O,ai,rfl]:=Ï.mp ep;show ai
 apply#[f,ha,h,U,ds,es,rfl,hF,wf,hH,dG a7,λZ a5=>by have:=(c8 Z a5).1;show dG this,λwa H1 s1 dz hW=>?_];have cy:↑(ds.map (aG U))=↑ds:=Qb _;generalize ds.map (aG U)=wss at ah ag hW q cy b1;rw[<-cy]at ah b3 a7 c9;symm;intro O br;symm;intro g bs;have S1:Same H1 (upd (upd H1 O (HO.dT [])) g (cB g [])):=(aq br _).new bs;have F:upd (upd H1 O (HO.dT [])) g (cB g []) O=!(.dT []):=az bs aa;have G:upd (upd H1 O (HO.dT [])) g (cB g []) g=!(cB g []):=aa;have bi:H1 g=none:=(aq br _).free bs;generalize upd (upd H1 O (HO.dT [])) g (cB g [])=H2 at S1 F G;apply#[f,wa,h,U,wss,rfl,(hF.same s1).same S1,wf,hW.same S1,b3,dG a7,λws ac=>#[by have:=ag ws ac;show dG this,λw mw=>#[b1 ws ac w mw,(ah ws ac w mw).2]],λfk H3 N s3 dt hN hT=>?_];let#[fz,cb,da,cf]:=hT;have dd:↑(cF wss N)<=↑wss:=by
  have de:∀k,∀r∈cF wss k,0<=r/\r<↑wss:=λk=>fu (P:=λr:Int=>0<=r/\r<↑wss) #[by decide,Xq b3] (λp q' hp hq=>by
   let#[w,mw,rfl]:=Zl.mp hq;show(ah.at mw).2) k
  have:=eO (l:=cF wss N) (m:=(List.range ↑wss).map λi:Nat=>(i:Int)) (gM _ _ N) λr mr=>by
   let#[h0,h1]:=de N r mr;show Zl.mpr #[r.toNat,ñ.mpr (Yj h0 h1),DP h0]
  rw[Qb,ú]at this;show this
 have cp:↑fz<=88200:=by
  have h1:=uO ag (cF wss N);rw[<-cb,Qb]at h1;have:=Nat.mul_le_mul_right 1764 (Î dd a7);show Î h1 this
 show Hv (λz:Fz=>V.ref z.1) (zs:=fz) (SqL.of da) (dG cp) (λz:Fz=>V.ref z.2.1) ?_ λD aw=>?_
 .rintro i z hi A hA;let#[z1,_]:=cf z (Yf hi);apply cV (SqT.of z1) (aM (j:=1) (v:=.ref z.2.1) rfl) hA
 have S3:=(S1.trans s3).new (o:=HO.lst (fz.map λz:Fz=>V.ref z.2.1)) aw;have a8:upd H3 D (HO.lst (fz.map λz:Fz=>V.ref z.2.1)) O=!(.dT []):=az aw (s3.get F);have bb:upd H3 D (HO.lst (fz.map λz:Fz=>V.ref z.2.1)) g=!(cB g []):=az aw (s3.get G);have am:upd H3 D (HO.lst (fz.map λz:Fz=>V.ref z.2.1)) D=!(.lst ((fz.map λz:Fz=>(z.2.1,mC z.2.2.2.2)).map λz:ό×Sd=>V.ref z.1)):=by rw[aa,Æ];rfl
 have ar:∀z∈fz.map λz:Fz=>(z.2.1,mC z.2.2.2.2),StT K (upd H3 D (HO.lst (fz.map λz:Fz=>V.ref z.2.1))) z.1 z.2:=λz mz=>by
  let#[y,my,rfl]:=Zl.mp mz;show(cf y my).2.1.same (aq aw _)
 have cz:H1 D=none:=(S1.trans s3).free aw;generalize upd H3 D (HO.lst (fz.map λz:Fz=>V.ref z.2.1))=H4 at S3 a8 bb am ar;have b9:(fz.map λz:Fz=>(z.2.1,mC z.2.2.2.2)).map (·.2)=Je wss N:=by rw[Æ];unfold Je;rw[<-cb,Æ];rfl
 have b6:↑(fz.map λz:Fz=>(z.2.1,mC z.2.2.2.2))<=88200:=by rw[Qb];show cp
 generalize fz.map (λz:Fz=>(z.2.1,mC z.2.2.2.2))=fs at am ar b9 b6;symm;walk_at "ns";have bv:∀p∈[O,g,D],H1 p=none:=λp hp=>by
  simp only[Ç,Þ,ć]at hp;rcases hp with rfl|rfl|rfl
  .show br
  .show bi
  .show cz
 have SH:=s1;show qG (λm σ W=>(An2 (Sb [O,g,D] H1 W) (Ex4 λ(C:ϊ Gz) (fs:ϊ (ό×Sd)) (cs:ϊ (ϊ Nat×ό)) (o6:ύ V)=>(An11 (W g=!(cB g (cM C))) (∀z∈C,z.2.2≠D/\GzT K W U wss z) (W D=!(.lst (fs.map λz:ό×Sd=>V.ref z.1))) (∀z∈fs,StT K W z.1 z.2) (W O=!(.dT (cs.map λc=>(vm c.1,V.ref c.2)))) (∀c∈cs,W c.2=!(.dK (Bp (Bo c.1 U)))) (Mm.Clo (Je wss N) (NT wss) (C.map (·.2.1)) (fs.map (·.2))) (↑cs<=↑C) (↑fs<=88200+42*↑C) (m=(20000-↑C)*43+↑fs) (σ=[!(.ref f),!(.ref ha),!(.ref wa),!(.ref O),!(.ref g),!(.ref D),o6]))))) _ #[Sb.of S3,[],fs,[],none,bb,λz m=>(by cases m),am,ar,a8,λc m=>(by cases m),by rw[b9];show Mm.Clo.start _ _,Ä _,Xo b6 _,rfl,rfl] ?_ ?_
 .rintro m σ W Nx ⟨sb,C,fs,cs,o6,a3,ax,L,cq,ai,cn,hC,a4,bk,rfl,rfl⟩ bq;have S':=sb.off bv;have b0:∀x,Mm.Rch (Je wss N) (NT wss) x->InU ↑wss U x:=λx hx=>Mm.Rch.all (Vw ah N) (Vv ct ah) hx
  have c2:↑C<=20000:=by
   have:=eO hC.nd λx mx=>(b0 x (hC.rF x mx)).mem
   rw[Jf,Qb]at this;show Î this c9
  apply wV L ?_;apply dw (λc1=>?_) λc1=>?_
  .obtain ⟨R,⟨S,s⟩,rfl⟩:∃(R:ϊ (ό×Sd))(y:ό×Sd),fs=R++[y]:=#[fs.dropLast,fs.getLast (λe=>by rw[e]at c1;simp at c1),(List.dropLast_concat_getLast _).symm];rw[Wp]at hC L;rw[Â,Ú]at bk bq c1;have cx:=cq _ (Û _ (Zs.mpr rfl));have db:∀z∈R,StT K W z.1 z.2:=λz mz=>cq z (á _ mz)
   dsimp only at cx;have bn:=b0 s (hC.rW s (Û _ (Zs.mpr rfl)));apply d9 (SqL.of L) ?_;apply s_pop L ?_;symm;have n1:g≠D:=jf a3 L;have n2:O≠D:=jf ai L;have n3:O≠g:=jf ai a3;have a2:=sb.set (p:=D) (o:=HO.lst (R.map λz:ό×Sd=>V.ref z.1)) (by simp);have G:upd W D (HO.lst (R.map λz:ό×Sd=>V.ref z.1)) g=!(cB g (cM C)):=by rw[ao n1];show a3
   have F:upd W D (HO.lst (R.map λz:ό×Sd=>V.ref z.1)) O=!(.dT (cs.map λc=>(vm c.1,V.ref c.2))):=by rw[ao n2];show ai
   have ad:upd W D (HO.lst (R.map λz:ό×Sd=>V.ref z.1)) D=!(.lst (R.map λz:ό×Sd=>V.ref z.1)):=aa;have nt:∀{xs:ϊ V} l,HO.lst xs≠.tup l:=λl z=>by cases z
   have J:∀z∈C,z.2.2≠D/\GzT K (upd W D (HO.lst (R.map λz:ό×Sd=>V.ref z.1))) U wss z:=λz mz=>#[(ax z mz).1,(ax z mz).2.1.keep L nt,(ax z mz).2.2.keep L nt (ax z mz).1]
   have Y:StT K (upd W D (HO.lst (R.map λz:ό×Sd=>V.ref z.1))) S s:=cx.keep L nt;have af:∀z∈R,StT K (upd W D (HO.lst (R.map λz:ό×Sd=>V.ref z.1))) z.1 z.2:=λz mz=>(db z mz).keep L nt
   have ae:∀c∈cs,upd W D (HO.lst (R.map λz:ό×Sd=>V.ref z.1)) c.2=!(.dK (Bp (Bo c.1 U))):=λc mc=>by rw[ao (jf (cn c mc) L)];show cn c mc
   generalize upd W D (HO.lst (R.map λz:ό×Sd=>V.ref z.1))=H5 at a2 G F ad J Y af ae⊢;have S5:=a2.off bv;show#[g,_,rfl,SGet.of G (zE λz mz=>(J z mz).2) Y.a,?_];by_cases m:s∈C.map (·.2.1)
   .obtain ⟨v,ev⟩:=qK m;rw[ev];symm;change if(not true)=true then _ else _
    apply bq _ _ _ (Xr rfl) #[a2,C,R,cs,_,G,J,ad,af,F,ae,hC.skip m,a4,ï bk,rfl,rfl]
   .have ev:=jG m;rw[ev];symm;change if(not false)=true then _ else _
    rw[if_pos (show(not false)=true from rfl)];have dk:↑s.2.2<=8:=by
     let#[_,_,p,mp,d,_,e]:=bn;rw[e,î];have:=ct p mp;show Î (Nat.sub_le _ _) this
    walk_at "ns";with_reducible show qu (λσ H6=>(An2 (Sb [O,g,D] H1 H6) (Ex2 λ(cs:ϊ (ϊ Nat×ό)) (ca:ό)=>(An11 (H6 g=!(cB g (cM C))) (∀z∈C,z.2.2≠D/\GzT K H6 U wss z) (H6 D=!(.lst (R.map λz:ό×Sd=>V.ref z.1))) (∀z∈R,StT K H6 z.1 z.2) (StT K H6 S s) (H6 O=!(.dT (cs.map λc=>(vm c.1,V.ref c.2)))) (∀c∈cs,H6 c.2=!(.dK (Bp (Bo c.1 U)))) (↑cs<=↑C+1) ((s.2.2,ca)∈cs) (bx (cs.map λc=>(vm c.1,V.ref c.2)) (vm s.2.2)=!(V.ref ca)) (σ=[!(.ref f),!(.ref ha),!(.ref wa),!(.ref O),!(.ref g),!(.ref D),!(.ref S)]))))) ?_ ?_
    .rintro σ H6 ⟨c5,bo,ca,b5,ay,bd,cr,as,B,be,cm,b2,ab,rfl⟩;have S6:=c5.off bv;let#[sc,e1,e2]:=id as;let#[#[i1,i2],_,_]:=id bn;let#[r,hr]:∃r:Nat,s.1=(r:Int):=#[s.1.toNat,()];have cw:wss[r]?=!(wss.getD s.1.toNat []):=by
      rw[hr,Ð,Xs,Qr ()];rfl
     have c3:=Yf cw;have dn:=ag _ c3;apply jD e1 ?_;apply#[O,.ref ca,rfl,by rw[<-ab];show DGet.t (k:=vm s.2.2) B (by rw[zA];show e2),?_];apply#[wa,ca,S,U,wss,s,_,r,rfl,hW.same S6,be _ b2,as,hr,cw,b1 _ c3,(),λX H7 s7 df ci=>?_];symm;have I:=s7.get b5;have ce:=s7.get bd;have b4:=s7.get B;have bm:=as.same s7;have dl:X≠D:=rE bd df;show#[g,_,rfl,SPut.of I (zE λz mz=>(ay z mz).2.same s7) bm.a (by unfold cM;rw[Qb];rfl'),?_];rw[qF ev];have a1:∀{P:PySem.Heap->Prop} l,HO.ext P≠.tup l:=λl z=>by cases z
     have cc:cM C++[(S,iy s,V.ref X)]=cM (C++[(S,s,X)]):=by unfold cM;rw[Wp];rfl
     have c6:=(c5.same s7).set (p:=g) (o:=cB g (cM C++[(S,iy s,V.ref X)])) (by simp);have al:upd H7 g (cB g (cM C++[(S,iy s,V.ref X)])) g=!(cB g (cM C++[(S,iy s,V.ref X)])):=aa;have ap:upd H7 g (cB g (cM C++[(S,iy s,V.ref X)])) D=!(.lst (R.map λz:ό×Sd=>V.ref z.1)):=by rw[ao n1.symm];show ce
     have a9:upd H7 g (cB g (cM C++[(S,iy s,V.ref X)])) O=!(.dT (bo.map λc=>(vm c.1,V.ref c.2))):=by rw[ao n3];show b4
     have av:StT K (upd H7 g (cB g (cM C++[(S,iy s,V.ref X)]))) S s:=bm.keep I a1;have bl:∀z∈R,StT K (upd H7 g (cB g (cM C++[(S,iy s,V.ref X)]))) z.1 z.2:=λz mz=>((cr z mz).same s7).keep I a1
     have bg:∀c∈bo,upd H7 g (cB g (cM C++[(S,iy s,V.ref X)])) c.2=!(.dK (Bp (Bo c.1 U))):=λc mc=>by
      have:=s7.get (be c mc);rw[ao (jf this I)];show this
     have c4:∀{a xs},SsT K H7 a xs->a≠g:=λh=>by
      let#[us,_,u2,_]:=h;show jf u2 I
     have M:∀z∈C++[(S,s,X)],z.2.2≠D/\GzT K (upd H7 g (cB g (cM C++[(S,iy s,V.ref X)]))) U wss z:=λz mz=>by
      rcases Å.mp mz with mz|mz
      .have h7:=(ay z mz).2.same s7;show#[(ay z mz).1,h7.1.keep I a1,h7.2.keep I a1 (c4 h7.2)]
      .rw [Zs.mp mz];show#[dl,av,ci.keep I a1 (c4 ci)]
     generalize upd H7 g (cB g (cM C++[(S,iy s,V.ref X)]))=H8 at c6 al ap a9 av bl bg M⊢;apply d9 (SqL.of ap) ?_;apply#[g,.ref X,rfl,by rw[<-DX (b:=S) (v:=V.ref X) ev];show SGet.of al (by rw[cc];show zE λz mz=>(M z mz).2) av.a,?_];symm;let#[us,u1,u2,u3]:=(M _ (Û _ (Zs.mpr rfl))).2.2;dsimp only at u1 u2;have dy:↑us=↑(wss.getD s.1.toNat []):=by
      have:=Ý List.length u1;rw[Qb,Qb]at this;show this
     let#[Z,ep,cv]:=zB u3;have dp:↑Z=↑us:=by rw[<-ep,Qb]
     show Hv (λp:Uz=>V.ref p.1.1) (zs:=Z) (SqL.of (by rw[u2,<-ep,Æ];rfl)) () (λp:Uz=>V.ref p.2) ?_ λnl dc=>?_
     .rintro i p hi A hA;apply cV (SqT.of (cv p (Yf hi)).1) (aM (j:=2) (v:=.ref p.2) rfl) hA
     have s9:Same H8 (upd H8 nl (HO.lst (Z.map λp:Uz=>V.ref p.2))):=aq dc _;have e9:upd H8 nl (HO.lst (Z.map λp:Uz=>V.ref p.2)) nl=!(.lst (Z.map λp:Uz=>V.ref p.2)):=aa;generalize upd H8 nl (HO.lst (Z.map λp:Uz=>V.ref p.2))=H9 at s9 e9⊢;have T:=s9.get ap;apply qw T e9 (by rw[Qb,Qb];rfl') ?_;symm;have dg:(Z.map λp:Uz=>(p.2,p.1.2.2.2)).map (·.2)=NT wss s:=by
      rw[Æ];have:Z.map ((λx:ό×Sd=>x.2)∘λp:Uz=>(p.2,p.1.2.2.2))=(Z.map (·.1)).map (λu:ό×ϐ×Nat×Sd=>u.2.2.2):=by rw[Æ];rfl
      rw[this,ep];have:=Ý (List.map λx:ϐ×Nat×Sd=>x.2.2) u1;rw[Æ,Æ]at this;show this
     show bq ((20000-↑(C++[(S,s,X)]))*43+↑(R++Z.map λp:Uz=>(p.2,p.1.2.2.2))) _ _ ?_ #[(c6.same s9).set (by simp),C++[(S,s,X)],R++Z.map (λp:Uz=>(p.2,p.1.2.2.2)),bo,_,by rw[ao n1,<-cc];show s9.get al,λz mz=>#[(M z mz).1,((M z mz).2.1.same s9).keep T nt,((M z mz).2.2.same s9).keep T nt (M z mz).1],by rw[aa,Wp,Æ];rfl,λz mz=>?_,by rw[ao n2];show s9.get a9,λc mc=>by have:=s9.get (bg c mc);rw[ao (jf this T)];show this,?_,by rw[Â,Ú];show cm,?_,rfl,rfl]
     .rw [Â,Ú,Â,Qb];have:↑C<20000:=by
       have h1:=eO (hC.take m).nd λx mx=>(b0 x ((hC.take m).rF x mx)).mem
       rw[Jf,Â,Ú,Qb]at h1;rfl'
      rfl'
     .rcases Å.mp mz with mz|mz
      .show ((bl z mz).same s9).keep T nt
      .obtain ⟨p,mp,rfl⟩:=Zl.mp mz;show((cv p mp).2.same s9).keep T nt
     .rw [Wp,Wp,dg];show hC.take m
     .rw [Â,Qb,Â,Ú];rfl'
    .intro Nj hJ;let#[sc,e1,e2]:=id Y;apply jD e1 ?_;apply#[O,_,rfl,DGet.t (k:=vm s.2.2) F (by rw[zA];show e2),?_];by_cases mc:s.2.2∈cs.map (·.1)
     .obtain ⟨ca,b2,ab⟩:=Jd mc;rw[ab];symm;change if(not true)=true then _ else _
      apply hJ _ _ #[a2,cs,ca,G,J,ad,af,Y,F,ae,Xo a4 _,b2,ab,rfl]
     .have bp:=Br mc;rw[bp];symm;change if(not false)=true then _ else _
      apply jD e1 ?_;apply#[f,sc,h,U,s.2.2,rfl,((hF.same s1).same S5).t,wf,SqT.of e2,dG dk,λca H6 s6 dq ab=>?_];apply jD (s6.get e1) ?_;symm;have B:=s6.get F;have a6:∀{xs:ϊ (ϊ Key×V)} l,HO.dT xs≠.tup l:=λl z=>by cases z
      show#[O,_,rfl,DPut.t (k:=vm s.2.2) B (by rw[zA];show s6.get e2) (Õ (by rw[Qb];show Î a4 c2:_<=20000) (by decide)),?_];rw[dJ _ bp];apply hJ _ _ #[(a2.same s6).set (by simp),cs++[(s.2.2,ca)],ca,by rw[ao n3.symm];show s6.get G,λz mz=>#[(J z mz).1,((J z mz).2.1.same s6).keep B a6,((J z mz).2.2.same s6).keep B a6 ?_],by rw[ao n2.symm];show s6.get ad,λz mz=>((af z mz).same s6).keep B a6,(Y.same s6).keep B a6,by rw[aa,Wp];rfl,λc mc'=>?_,by rw[Â,Ú];show Ķ a4,by simp,by rw[Wp];show(rT _ _ _ _ bp).trans (if_pos rfl),rfl]
      .obtain ⟨us,_,u2,_⟩:=(J z mz).2.2;show jf (s6.get u2) B
      .rcases Å.mp mc' with mc'|mc'
       .have:=s6.get (ae c mc');rw[ao (jf this B)];show this
       .rw [Zs.mp mc'];rw[ao (jf ab B)];show ab
  .have e0:fs=[]:=List.eq_nil_of_length_eq_zero (qn1 c1);subst e0;apply q g W N C (s1.trans S') (s1.free bi) hN a3 (λz mz=>(ax z mz).2) c2 hC.nd hC.fin
 .rintro σ H Q Q' hq ⟨v,hv,x,n,e,hl,i,j,e1,e2,k,e3,z⟩;show#[v,hv,x,n,e,hl,i,j,e1,e2,k,e3,hq _ _ z]
abbrev Jk(st:Sd->ϊ (ϐ×Nat×Sd))(xs:ϊ Sd)(c:Nat)(x y:Sd):Prop:=x∈xs/\∃s,(s,c,y)∈st x
abbrev Rz(ls:ϵ)(wss:ϲ)(x:Sd):ϊ (ϐ×Nat×Sd):=(wss.getD x.1.toNat []).map (Jb ls x)
abbrev Bq:=ό×Nat×ό×Sd
variable{u:Bq}
def BqT(K:Ϗ)(H:Hp)(b:Bq):Prop:=H b.1=!(.tup [.int (b.2.1:Nat),.ref b.2.2.1])/\StT K H b.2.2.1 b.2.2.2
theorem gV{a b:Type}{f:a->b}:∀{l:ϊ a}{x y:a},(l.map f).Nodup->x∈l->y∈l->f x=f y->x=y
 |z::l,x,y,h,mx,my,e=>by
  rw[È,é]at h;rcases Ç.mp mx with ex|mx<;>rcases Ç.mp my with ey|my
  .rw [ex,ey]
  .show absurd (Zl.mpr #[y,my,by rw[<-e,ex]]) h.1
  .show absurd (Zl.mpr #[x,mx,by rw[e,ey]]) h.1
  .show gV h.2 mx my e
theorem fJ{p:ό}(s:Sb a H H1)(h:p∈a\/H p=none):Sb a H (upd H1 p o):=λb u c e=>by
 rw[ao (λz=>by
  rcases h with h|h
  .show c (z▸h)
  .rw [z,h]at e;cases e)]
 show s b u c e
structure BkC(K:Ϗ)(H H':Hp)(ba:ό)(gz bz:ϊ Gz)(U:ό->ϊ Bq)(P:Nat->Sd->Sd->Prop)(m:Nat):Prop where
 d:H' ba=!(cB ba (cM bz))
 k:bz.map (λb=>(b.1,b.2.1))=gz.map (λz=>(z.1,z.2.1))
 n:(bz.map (·.2.2)).Nodup
 f:∀b∈bz,H b.2.2=none/\b.2.2≠ba
 c:∀b∈bz,H' b.2.2=!(.lst ((U b.2.2).map λu=>V.ref u.1))/\(∀u∈U b.2.2,BqT K H' u)/\∀c x,(c,x)∈(U b.2.2).map (λu=>(u.2.1,u.2.2.2))↔P c x b.2.1
 s:(bz.map λb=>↑(U b.2.2)).sum<=m
theorem BqT.same{K:Ϗ}(h:BqT K H u)(s:Same H H'):BqT K H' u:=#[s.get h.1,h.2.same s]
theorem BqT.keep{K:Ϗ}{p:ό}(h:BqT K H u)(e:H p=!o)(a:∀l,o≠.tup l):BqT K (upd H p o') u:=
 #[by rw[ao (λz=>by have:=h.1;rw[z,e]at this;show a _ (ß this))];show h.1,h.2.keep e a]
theorem BkC.same{K:Ϗ}(h:BkC K H H1 ba gz bz U P m)(s:Same H1 H2):BkC K H H2 ba gz bz U P m:=
 ⟨s.get h.d,h.k,h.n,h.f,λb e=>by
  let#[a,c,d]:=h.c b e;show⟨s.get a,λu f=>(c u f).same s,d⟩,h.s⟩
theorem BkC.imp{K:Ϗ}{a:Nat}(h:BkC K H H1 ba gz bz U P m)(j:∀c x,∀b∈bz,P c x b.2.1↔P' c x b.2.1)(i:m<=a):BkC K H H1 ba gz bz U P' a:=
 ⟨h.d,h.k,h.n,h.f,λb d=>by
  let#[e,f,g]:=h.c b d;show⟨e,f,λc x=>(g c x).trans (j c x b d)⟩,Î h.s i⟩
theorem Jl{a:Type}{f:a->Nat}:∀{l:ϊ a}{x:a},x∈l->f x<=(l.map f).sum
 |z::l,x,m=>by
  rw[È,ĩ];rcases Ç.mp m with e|m
  .rw [e];show Nat.le_add_right _ _
  .have:=Jl (f:=f) m;show qsR this _
theorem Bv{d:Type}{U:ό->ϊ d}{u:d}:∀{bz:ϊ Gz},(bz.map (·.2.2)).Nodup->(bz.map λb=>↑(if b.2.2=a then U b.2.2++[u]else U b.2.2)).sum<=(bz.map λb=>↑(U b.2.2)).sum+1/\(a∉bz.map (·.2.2)->(bz.map λb=>↑(if b.2.2=a then U b.2.2++[u]else U b.2.2)).sum=(bz.map λb=>↑(U b.2.2)).sum)
 |[],_=>#[by simp,λ_=>rfl]
 |v::bz,h=>by
  rw[È,é]at h;let#[f,c]:=Bv (U:=U) (u:=u) (a:=a) h.2;simp only[È,ĩ];by_cases e:v.2.2=a
  .have:=c (by rw[<-e];show h.1);rw[if_pos e,Â,Ú];show#[(),λn=>absurd (Ç.mpr (.inl e.symm)) n]
  .rw [if_neg e];show#[(),λn=>by rw[c (λm=>n (Ì _ m))]]
theorem BkC.add{K:Ϗ}(h:BkC K H H1 ba gz bz U P m)(A:(bz.map (·.2.1)).Nodup){b:Gz}(d:b∈bz)(t:BqT K H1 u):
  BkC K H (upd H1 b.2.2 (.lst (((U b.2.2).map λu=>V.ref u.1)++[V.ref u.1]))) ba gz bz (λa=>if a=b.2.2 then U a++[u]else U a) (λc x y=>P c x y\/(c=u.2.1/\x=u.2.2.2/\y=b.2.1)) (m+1):=by
 let#[f,j,k]:=h.c b d;show#[by rw[ao (Ne.symm (h.f b d).2)];show h.d,h.k,h.n,h.f,λv g=>?_,Î (Bv h.n).1 (ş h.s 1)];by_cases e:v=b
 .subst e;rw[if_pos rfl];show#[by rw[aa,Wp];rfl,λw mw=>?_,λc x=>?_]
  .rcases Å.mp mw with mw|mw
   .show (j w mw).keep f (λl q=>by cases q)
   .rw [Zs.mp mw];show t.keep f (λl q=>by cases q)
  .rw [Wp,Å,k];constructor
   .rintro (h|h)
    .show .inl h
    .rw [È,Ĕ,Zs]at h;show .inr #[congrArg Prod.fst h,Ý Prod.snd h,rfl]
   .rintro (h|⟨r,s,_⟩)
    .show .inl h
    .show .inr (by rw[r,s];simp)
 .obtain ⟨n,o,p⟩:=h.c v g;have i:v.2.2≠b.2.2:=λz=>e (gV h.n g d z)
  rw[if_neg i];show#[by rw[ao i];show n,λw mw=>(o w mw).keep f (λl q=>by cases q),λc x=>?_];rw[p];show#[.inl,λh=>h.elim id λh=>absurd (gV A g d h.2.2) e]
theorem BkC.key{K:Ϗ}(h:BkC K H H1 ba gz bz U P m){b:Gz}(c:b∈bz):∃y∈gz,y.1=b.1/\y.2.1=b.2.1:=by
 have:(b.1,b.2.1)∈gz.map (λz=>(z.1,z.2.1)):=by rw[<-h.k];show Zl.mpr #[b,c,rfl]
 let#[y,d,a]:=Zl.mp this;show#[y,d,(Prod.mk.inj a).1,(Prod.mk.inj a).2]
theorem BkC.sb{K:Ϗ}{o:ό}{x:HO}(h:BkC K H H1 ba gz bz U P m)(s:Sb [o] H1 H2)(e:H1 o=!(.frz g x)):BkC K H H2 ba gz bz U P m:=by
 have d:∀{a:ό}{u:HO},(∀g x,u≠.frz g x)->H1 a=!u->H2 a=!u:=λq f=>s.get (λm=>by
  rw[Zs.mp m,e]at f;show q _ _ (ß f).symm) f
 show#[d (λ_ _ z=>by cases z) h.d,h.k,h.n,h.f,λb r=>?_,h.s];let#[i,j,k]:=h.c b r;show#[d (λ_ _ z=>by cases z) i,λu t=>?_,k];let#[l,c,n,p]:=j u t;show#[d (λ_ _ z=>by cases z) l,c,d (λ_ _ z=>by cases z) n,d (λ_ _ z=>by cases z) p]
theorem zF(h:(cM zs)[i]?=!z):∃g,zs[i]?=!g/\z=(g.1,iy g.2.1,V.ref g.2.2):=by
 unfold cM at h;rw[Jn]at h
 cases e:zs[i]?with
 |none=>rw[e]at h;cases h
 |some g=>rw[e]at h;show#[g,rfl,(ß h).symm]
theorem Zb{y z:Gz}(h:(zs.map (·.2.1)).Nodup)(f:zs[i]?=!y)(g:zs[j]?=!z)(e:y.2.1=z.2.1):i=j:=by
 let#[a,b]:=À.mp f;let#[c,d]:=À.mp g;have:=(List.nodup_iff_pairwise_ne.mp h);rcases ŷ i j with l|l|l
 .show absurd (by rw[õ,õ,b,d];show e) (ı.mp h i j (by rw[Qb];show a) (by rw[Qb];show c) l)
 .show l
 .show absurd (by rw[õ,õ,b,d];show e.symm) (ı.mp h j i (by rw[Qb];show c) (by rw[Qb];show a) l)
theorem jR(f:(zs.map (·.2.1)).Nodup)(d:z∈zs):du (cM zs) (iy z.2.1)=!(V.ref z.2.2):=by
 let#[v,c]:=qK (Zl.mpr #[z,d,rfl]);let#[b,g]:=DW c;let#[y,h,a]:=Zl.mp g;have e:y=z:=gV f h d (uL (Ý (λp:ό×Sk×V=>p.2.1) a));subst e;rw[c];show Ý some (Ý (λp:ό×Sk×V=>p.2.2) a).symm
inductive sp_f24(K:Ϗ)(vs:ϊ V)(H:Hp)(Q:VK)(E:XK):Prop
 |mk (b:ό) (a:ϊ Gz) (c:Sd->ϊ (ϐ×Nat×Sd)) (d:vs=[.ref b]) (f:Rd H b (cB b (cM a))) (g:(∀z∈a,StT K H z.1 z.2.1/\SsT K H z.2.2 (c z.2.1)/\↑(c z.2.1)<=42)) (h:(a.map (·.2.1)).Nodup) (i:↑a<=20000) (j:(∀z∈a,∀e∈c z.2.1,e.2.2∈a.map (·.2.1))) (k:∀od ba H' (bz:ϊ Gz) (U:ό->ϊ Bq),Sb [b] H H'->H' b=!(.frz od (cB b (cM a)))->H ba=none->BkC K H H' ba a bz U (Jk c (a.map (·.2.1))) 900000->Q (.ref ba) H')
abbrev Jm K:=(aA (cD (yG aQ) (ak 2) (Ax bc bR (fC f9)))
  (aA (cD (Az aQ) (je K 2 (bO (ak 2) (bO (ak 3) jk))) (cD (bY K cC) (je K 3 (bO (ak 4) (bO (ak 5) (bO (ak 6) jk)))) (cG (qT K "list" cI (nO bc j6) (cj (cU (cA fY bR)))))))
  (aP bc)))
abbrev Jo K(E:XK)(Eh:XK):=(aA (aK Aw (ak 1))
  (Jm K))
abbrev Jp:ϊ ϐ:=sN ["onward","backward","stand","steps","sign","cost","later"]
theorem Vy(h:sp_f24 K vs H Q E):RG (Jo K E) Jp vs H Q:=by
 let#[k,t,st,rfl,hO,hG,hN,hL,hC,q]:=h;show#[E0,?_];symm;intro D Z;symm;have S0:Same H (upd H D (cB D [])):=aq Z _;have a8:Rd (upd H D (cB D [])) k (cB k (cM t)):=by
  rcases hO with e|⟨F,e⟩
  .show .inl (S0.get e)
  .show .inr #[F,S0.get e]
 have a2:k≠D:=λz=>by
  rcases hO with e|⟨F,e⟩<;>(rw[z,Z]at e;cases e)
 have al:∀{d:Hp},Sb [k] H d->∀{a:ό}{l:ϊ V},H a=!(.tup l)->d a=!(.tup l):=λC a l e=>C.get (λm=>by
  rw[Zs.mp m]at e;rcases hO with g|⟨F,g⟩<;>(rw[g]at e;cases e)) e
 have S:∀{d:Hp},Sb [k] H d->∀{a:ό}{x:Sd},StT K H a x->StT K d a x:=λC a x h=>by
  let#[c,L,e2]:=h;show#[c,al C L,al C e2]
 have ag:∀{d:Hp}{o:HO},Sb [k] H d->d k=!o->∀{p:ό},d p=none->H p=none:=λ{d o} C eo {p} M=>by
  cases e:H p with
  |none=>rfl
  |some u=>
   by_cases z:p=k
   .rw [z,eo]at M;cases M
   .rw [C.get (by simpa using z) e]at M;cases M
 show HW a8 (λF i I d=>(Ex1 λ(B:ϊ Gz)=>(An4 (BkC K H d D (t.take i) B (λ_=>[]) (λ_ _ _=>False) 0) (Sb [k] H d) (d k=!(.frz F (cB k (cM t)))) (Ex5 λN O R o4 o5=>I=[!(.ref k),!(.ref D),N,O,R,o4,o5])))) ?_ ?_ ?_ ?_
 .intro F H1 C L;show#[[],#[?_,rfl,by simp,by simp,by simp,by simp],λb o nb e=>C b o nb (S0.get e),L,_,_,_,_,_,rfl];show C.get (by simpa using Ne.symm a2) aa
 .rintro F i I d ⟨B,_,_,e,_⟩;show e
 .rintro F i z I d hi ⟨B,A,C,eo,N,O,R,o4,o5,rfl⟩;let#[g,hg,rfl]:=zF hi;have mg:=Yf hg;symm;intro p M;symm;have ab:=ag C eo M;have T:Same d (upd d p (.lst [])):=aq M _;have a9:i<↑t:=(À.mp hg).1;have a5:↑B<=20000:=by
   have:=Ý List.length A.k;rw[Qb,Qb,Ô]at this;show oG this (Xp hL)
  have ah:∀b∈B,StT K H b.1 b.2.1:=λb mb=>by
   let#[y,my,ey]:=A.key mb;have:=(hG y (Ş my)).1;rw[ey.1,ey.2]at this;show this
  have ev:du (cM B) (iy g.2.1)=none:=jG λm=>by
   let#[b,mb,eb]:=Zl.mp m;let#[y,my,ey]:=A.key mb;let#[n,hn,bb]:=List.mem_take_iff_getElem.mp my;have h1:t[n]?=!y:=by rw[Qr (),bb]
   have:=Zb hN h1 hg (ey.2.trans eb);rfl'
  show#[D,_,rfl,SPut.of (T.get A.d) (λq mq=>?_) ((S C (hG g mg).1).same T).a (by unfold cM;rw[Qb];show dG a5),?_]
  .obtain ⟨b,mb,rfl⟩:=Zl.mp mq;show((S C (ah b mb)).same T).a
  rw[qF ev];have a3:p≠D:=rE A.d M;have a6:cM B++[(g.1,iy g.2.1,V.ref p)]=cM (B++[(g.1,g.2.1,p)]):=by unfold cM;rw[Wp];rfl
  have af:t.take (i+1)=t.take i++[g]:=by rw[Í,hg];rfl
  have bk:∀{P:PySem.Heap->Prop} l,HO.ext P≠.tup l:=λl z=>by cases z
  apply#[B++[(g.1,g.2.1,p)],#[by rw[aa,a6],?_,?_,λb mb=>?_,λb mb=>?_,by rw[Wp,List.sum_append];show Î (ş A.s _) (by simp)],fJ (fJ C (.inr ab)) (.inr Z),by rw[ao a2];show T.get eo,_,_,_,_,_,rfl]
  .rw [af,Wp,Wp,A.k];rfl
  .rw [Wp,â];show#[A.n,by simp,λa ma c mc e=>?_];let#[b,mb,rfl]:=Zl.mp ma;let#[L,_]:=A.c b mb;rw[È,Ĕ,Zs]at mc;rw[e,mc,M]at L;cases L
  .rcases Å.mp mb with mb|mb
   .show A.f b mb
   .rw [Zs.mp mb];show#[ab,a3]
  .rcases Å.mp mb with mb|mb
   .obtain ⟨L,e2,e3⟩:=A.c b mb;show#[by rw[ao (A.f b mb).2];show T.get L,λu mu=>((e2 u mu).same T).keep (T.get A.d) bk,e3]
   .rw [Zs.mp mb];show#[by rw[ao a3,aa];rfl,λu mu=>(by cases mu),λc x=>by simp]
 .rintro F I d ⟨B,A,C,eo,N,O,R,o4,o5,rfl⟩;symm;have ad:t.take ↑(cM t)=t:=by unfold cM;rw[Qb];show Ö
  rw[ad]at A;have hk:=A.k;have av:(B.map (·.2.1)).Nodup:=by
   have:=Ý (List.map Prod.snd) hk;rw[Æ,Æ]at this;rw[show B.map (·.2.1)=t.map (·.2.1)from this];show hN
  have ah:∀b∈B,StT K H b.1 b.2.1:=λb mb=>by
   let#[y,my,ey]:=A.key mb;have:=(hG y my).1;rw[ey.1,ey.2]at this;show this
  show V8 (.inr #[F,eo]) (λF i I d=>(Ex1 λU=>(An4 (BkC K H d D t B U (Jk st ((t.take i).map (·.2.1))) (42*i)) (Sb [k] H d) (d k=!(.frz F (cB k (cM t)))) (Ex5 λN O R o4 o5=>I=[!(.ref k),!(.ref D),N,O,R,o4,o5])))) ?_ ?_ ?_ ?_
  .intro ac H1 G L;show#[_,(A.sb G eo).imp (λc x b mb=>by simp) (Ä _),λb o nb e=>G b o nb (C b o nb e),L,_,_,_,_,_,rfl]
  .rintro F i I d ⟨_,_,_,e,_⟩;show e
  .rintro ac i z p I H1 hi ⟨U,Y,G,W,N,O,R,o4,o5,rfl⟩ M;let#[g,hg,rfl]:=zF hi;have mg:=Yf hg;have ab:=ag G W M;have T:Same H1 (upd H1 p (.tup [.ref g.1,.ref g.2.2])):=aq M _;have ar:=Y.same T;have ai:Sb [k] H (upd H1 p (.tup [.ref g.1,.ref g.2.2])):=fJ G (.inr ab);have am:=T.get W;show dB (SqT.of aa) rfl ?_;symm;let#[us,u1,u2,u3]:=(hG g mg).2.1;let#[ps,ep,bd]:=zB u3;have ae:ps.map (λp:Uz=>p.1.2)=st g.2.1:=by
    rw[<-u1,<-ep,Æ];rfl
   have bl:↑ps<=42:=by
    have:=Ý List.length ae;rw[Qb]at this;have:=(hG g mg).2.2;rfl'
   have bi:g.2.2≠k:=λz=>by
    rw[z]at u2;rcases hO with e|⟨F,e⟩<;>(rw[e]at u2;cases u2)
   have aw:∀{d:Hp},Sb [k] H d->SqL K d g.2.2 (ps.map λp:Uz=>V.ref p.1.1):=λC=>SqL.of (by
    rw[C.get (by simpa using bi) u2,<-ep,Æ];rfl)
   generalize upd H1 p (.tup [.ref g.1,.ref g.2.2])=H2 at ar ai am⊢;have af:t.take (i+1)=t.take i++[g]:=by rw[Í,hg];rfl
   show fK (λp:Uz=>V.ref p.1.1) (zs:=ps) (aw ai) (λj I d=>(Ex1 λU=>(An4 (BkC K H d D t B U (λc x y=>(x∈(t.take i).map (·.2.1)/\∃s,(s,c,y)∈st x)\/(x=g.2.1/\∃s,(s,c,y)∈(ps.take j).map (λp:Uz=>p.1.2))) (42*i+j)) (Sb [k] H d) (d k=!(.frz ac (cB k (cM t)))) (Ex3 λN O R=>I=[!(.ref k),!(.ref D),!(.ref g.1),!(.ref g.2.2),N,O,R]))))
    #[_,ar.imp (λc x b mb=>by simp) (Ä _),ai,am,_,_,_,rfl] ?_ ?_ ?_
   .rintro j I H3 ⟨_,_,v,_⟩;show aw v
   .rintro j u I H3 hj ⟨U,J,v,X,N,O,R,rfl⟩;let#[p1,p2]:=bd u (Yf hj);show dB (SqT.of (al v p1)) rfl ?_;symm;have bm:j<↑ps:=(À.mp hj).1;have a9:i<↑t:=(À.mp hg).1;have mu:u.1.2∈st g.2.1:=by rw[<-ae];show Zl.mpr #[u,Yf hj,rfl]
    let#[b,mb,eb]:∃b∈B,b.2.1=u.1.2.2.2:=by
     have hm:=hC g mg _ mu;have:=Ý (List.map Prod.snd) hk;rw[Æ,Æ]at this;rw[<-show B.map (·.2.1)=t.map (·.2.1)from this]at hm;let#[b,mb,eb]:=Zl.mp hm;show#[b,mb,eb]
    show⟨D,.ref b.2.2,rfl,by rw[<-jR av mb,eb];show SGet.of J.d (λq mq=>by
     let#[b',a1,rfl]:=Zl.mp mq;show(S v (ah b' a1)).a) (S v p2).a,?_⟩
    let#[v1,v2,v3]:=J.c b mb;have v4:=Î (Jl (f:=λb:Gz=>↑(U b.2.2)) mb) J.s;show d9 (SqL.of v1) ?_;symm;intro r hr;have be:=ag v X hr;have S4:Same H3 (upd H3 r (.tup [.int (u.1.2.2.1:Nat),.ref g.1])):=aq hr _;have as:=J.same S4;have ax:BqT K (upd H3 r (.tup [.int (u.1.2.2.1:Nat),.ref g.1])) (r,u.1.2.2.1,g.1,g.2.1):=#[aa,(S v (hG g mg).1).same S4];have ay:=S4.get v1;have a4:Sb [k] H (upd H3 r (.tup [.int (u.1.2.2.1:Nat),.ref g.1])):=fJ v (.inr be);have ap:=S4.get X;generalize upd H3 r (.tup [.int (u.1.2.2.1:Nat),.ref g.1])=H4 at as ax ay a4 ap⊢;apply fL ay (by rw[Qb];rfl') ?_;symm;have bg:k≠b.2.2:=λz=>by
     have:=(A.f b mb).1;rw[<-z]at this;rcases hO with e|⟨F,e⟩<;>(rw[this]at e;cases e)
    have a7:ps.take (j+1)=ps.take j++[u]:=by rw[Í,hj];rfl
    show#[_,(as.add av mb ax).imp (λc x b' a1=>?_) (Ä _),fJ a4 (.inr (A.f b mb).1),by rw[ao bg];show ap,_,_,_,rfl];rw[a7,Wp,or_assoc];show or_congr Iff.rfl ?_;simp only[Å,È,Ĕ,Zs];constructor
    .rintro (⟨h1,s,h2⟩|⟨h1,h2,h3⟩)
     .show #[h1,s,.inl h2]
     .show #[h2,u.1.2.1,.inr (by rw[h1,h3,eb])]
    .rintro ⟨h1,s,h2|h2⟩
     .show .inl #[h1,s,h2]
     .have L:=Ý (λw:ϐ×Nat×Sd=>w.2.1) h2;have e2:=Ý (λw:ϐ×Nat×Sd=>w.2.2) h2;show .inr #[L,h1,e2.trans eb.symm]
   .rintro I H3 ⟨U,J,v,X,N,O,R,rfl⟩;apply#[U,J.imp (λc x b mb=>?_) (),v,X,_,_,_,_,_,rfl];change _↔(x∈(t.take (i+1)).map (·.2.1)/\∃s,(s,c,b.2.1)∈st x);rw[Ö,ae,af,Wp,Å,È,Ĕ,Zs,or_and_right];show or_congr Iff.rfl #[λh=>#[h.1,by rw[h.1];show h.2],λh=>#[h.1,by rw[<-h.1];show h.2]]
  .rintro ac I H1 ⟨U,Y,G,W,N,O,R,o4,o5,rfl⟩;symm;rw[ad]at Y;show q ac D H1 B U G W Z (Y.imp (λ_ _ _ _=>Iff.rfl) (by unfold cM;rw[Qb];rfl'))
def nR(es:ϊ Int)(st:Sd):ϑ:=decide (↑st.2.2=0)&&(decide (st.1∈es)&&decide (st.2.1∈es))
inductive sp_f55(K:Ϗ)(vs:ϊ V)(H:Hp)(Q:VK)(E:XK):Prop
 |mk (c a:ό) (d:Sd) (b:ϊ Int) (e:vs=[.ref c,.ref a]) (f:StT K H c d) (g:SqT K H a (b.map V.int)) (h:Q (.bl (nR b d)) H)
abbrev Jq K(E:XK)(Eh:XK):=(aP (lG (aL pB (dZ K (tX K aQ 2)) (tI 0)) (lG (aL (El K false) (tX K aQ 0) bc) (aL (El K false) (tX K aQ 1) bc))))
abbrev Jr:ϊ ϐ:=sN ["stand","ends"]
theorem Vz(h:sp_f55 K vs H Q E):RG (Jq K E) Jr vs H Q:=by
 let#[k,j,a,b,rfl,#[c,f,i],g,q]:=h;show#[E0,?_];apply jD f ?_;apply cN (SqT.of i) ?_;rw[show↑(nv a.2.2)=↑a.2.2 from Qb _];symm;by_cases d:↑a.2.2=0
 .show jX (Eq.trans (qdE d) rfl) ?_;apply fH f ?_;apply HF (.inr g) rfl (jC _) ?_;rw[oH];by_cases e:a.1∈b
  .rw [Ù e];apply dh f ?_;apply HF (.inr g) rfl (jC _) ?_;rw[oH];have:nR b a=decide (a.2.1∈b):=by unfold nR;rw[Ù d,Ù e];rfl
   rw[<-this];show q
  .rw [Ü e];symm;have:nR b a=false:=by unfold nR;rw[Ù d,Ü e];rfl
   rw[<-this];show q
 .show jB () ?_;have:nR b a=false:=by unfold nR;rw[Ü d];rfl
  rw[<-this];show q
abbrev Qz:=(ϻ)×ό×ϊ (ό×Sd)
def jd(k:ϻ):ϊ Key:=[Sum.inl (k.1:Int),Sum.inl (k.2:Int)]
theorem uQ(h:jd k=jd l):k=l:=by
 let#[a,b]:=k;let#[c,d]:=l;unfold jd at h;injection h with h1 h2
 injection h2 with h3 _
 injection h1 with h1
 injection h3 with h3
 dsimp only at h1 h3;rw[show a=c by show Qe h1,show b=d by show Qe h3]
def mX(ws:ϊ Qz):ϊ (ϊ Key×V):=ws.map λw=>(jd w.1,V.ref w.2.1)
structure WtT(K:Ϗ)(H:Hp)(wa:ό)(ws:ϊ Qz):Prop where
 d:H wa=!(.dT (mX ws))
 l:∀w∈ws,H w.2.1=!(.lst (w.2.2.map λz=>V.ref z.1))
 n:(ws.map (·.2.1)).Nodup
 k:(ws.map (·.1)).Nodup
 s:∀w∈ws,∀z∈w.2.2,StT K H z.1 z.2
def Wait(ws:ϊ Qz)(k:ϻ)(x:Sd):Prop:=∃w∈ws,w.1=k/\x∈w.2.2.map (·.2)
def xq(ws:ϊ Qz)(k:ϻ)(z:ό×Sd):ϊ Qz:=ws.map λw=>if w.1=k then(w.1,w.2.1,w.2.2++[z])else w
theorem VB(a:ϊ Qz)(k:ϻ)(z:ό×Sd):mX (xq a k z)=mX a:=by
 unfold mX xq;rw[Æ];show Ā λw _=>?_
 change(jd (if w.1=k then(w.1,w.2.1,w.2.2++[z])else w).1,V.ref (if w.1=k then(w.1,w.2.1,w.2.2++[z])else w).2.1)=_;split<;>rfl
theorem mY(a:ϊ Qz)(k:ϻ)(z:ό×Sd):(xq a k z).map (·.1)=a.map (·.1)/\(xq a k z).map (·.2.1)=a.map (·.2.1):=by
 unfold xq;rw[Æ,Æ];show#[List.map_congr_left λw _=>by change(if w.1=k then(w.1,w.2.1,w.2.2++[z])else w).1=_;split<;>rfl,Ā λw _=>by change(if w.1=k then(w.1,w.2.1,w.2.2++[z])else w).2.1=_;split<;>rfl]
theorem Ea{b:ϊ Qz}(h:k∈b.map (·.1))(l:ϻ)(x:Sd):Wait (xq b k z) l x↔Wait b l x\/(l=k/\x=z.2):=by
 constructor
 .rintro ⟨w,a,rfl,mx⟩;let#[v,c,rfl]:=Zl.mp a;by_cases e:v.1=k
  .rw [if_pos e]at mx⊢;rw[Wp,Å]at mx;rcases mx with mx|mx
   .show .inl #[v,c,rfl,mx]
   .show .inr #[e,by simpa using mx]
  .rw [if_neg e]at mx⊢;show .inl #[v,c,rfl,mx]
 .rintro (⟨w,a,rfl,mx⟩|⟨rfl,rfl⟩)
  .show #[_,Zl.mpr #[w,a,rfl],?_,?_]
   .split<;>rfl
   .split
    .rw [Wp,Å];show .inl mx
    .show mx
  .obtain ⟨w,a,rfl⟩:=Zl.mp h;show#[_,Zl.mpr #[w,a,rfl],by rw[if_pos rfl],by rw[if_pos rfl,Wp];simp]
theorem oR{k:ϻ}:∀{a:ϊ Qz}{w:Qz},(a.map (·.1)).Nodup->w∈a->w.1=k->bx (mX a) (jd k)=!(V.ref w.2.1)
 |v::a,w,hn,m,e=>by
  rw[È,é]at hn;change bx ((jd v.1,V.ref v.2.1)::mX a) (jd k)=_;by_cases h:v.1=k
  .rcases Ç.mp m with rfl|m
   .rw [h];simp[bx]
   .show absurd (Zl.mpr #[w,m,e.trans h.symm]) hn.1
  .rcases Ç.mp m with rfl|m
   .show absurd e h
   .have:=oR hn.2 m e;rw[<-this];have b:jd v.1≠jd k:=λz=>h (uQ z)
    simp[bx,b]
theorem xr{k:ϻ}:∀{a:ϊ Qz},k∉a.map (·.1)->bx (mX a) (jd k)=none
 |[],_=>rfl
 |v::a,h=>by
  rw[È,Ç,not_or]at h;change bx ((jd v.1,V.ref v.2.1)::mX a) (jd k)=_;have:=xr h.2;rw[<-this];have b:jd v.1≠jd k:=λz=>h.1 (uQ z).symm
  simp[bx,b]
inductive sp_f45(K:Ϗ)(vs:ϊ V)(H:Hp)(Q:VK)(E:XK):Prop
 |mk (e g f:ό) (c:ϊ Qz) (r:ϻ) (d:ϊ Bq) (h:vs=[.ref e,.ref g,.ref f]) (i:WtT K H e c) (j:H g=!(.tup [.int (r.1:Nat),.int (r.2:Nat)])) (k:H f=!(.lst (d.map λb=>V.ref b.1))) (n:f∉c.map (·.2.1)) (o:(∀b∈d,BqT K H b)) (p:↑c+↑d<=1000000) (q:(∀w∈c,↑w.2.2+↑d<=1000000)) (s:∀H' (a:ϊ Qz),WtT K H' e a->Sb (e::c.map (·.2.1)) H H'->(∀w∈a,w.2.1∈c.map (·.2.1)\/H w.2.1=none)->(∀l x,Wait a l x↔Wait c l x\/∃b∈d,l=(r.1+b.2.1,r.2+1)/\x=b.2.2.2)->↑a<=↑c+↑d->(∀m,(∀w∈c,↑w.2.2<=m)->∀w∈a,↑w.2.2<=m+↑d)->Q .non H')
abbrev Js K(E:XK)(Eh:XK):=(cD (bY K bR) (je K 2 (bO (ak 3) (bO (ak 4) jk))) (cG (qT K "list" cI (Hf aQ (cU (cA (aL bQ (tX K bc 0) cC) (aL bQ (tX K bc 1) (tI 1)))) (fC f9)) (cj cX))))
abbrev Jt:ϊ ϐ:=sN ["waiting","rest","backs","cost","earlier"]
theorem VD(h:sp_f45 K vs H Q E):RG (Js K E) Jt vs H Q:=by
 let#[t,ra,ba,u,r,C,rfl,hw,hr,hb,nb,hB,ah,ab,q]:=h;show#[E0,?_];symm;have Z:∀{j:Hp},Sb (t::u.map (·.2.1)) H j->∀{a:ό}{l:ϊ V},H a=!(.tup l)->j a=!(.tup l):=λs a l e=>s.get (λm=>by
  rcases Ç.mp m with rfl|m
  .rw [hw.d]at e;cases e
  .obtain ⟨w,mw,rfl⟩:=Zl.mp m;rw[hw.l w mw]at e;cases e) e
 have ad:ba≠t:=jf hb hw.d;have I:∀{j:Hp},Sb (t::u.map (·.2.1)) H j->j ba=!(.lst (C.map λb=>V.ref b.1)):=λs=>s.get (λm=>(Ç.mp m).elim ad nb) hb
 show fK (λb:Bq=>V.ref b.1) (zs:=C) (SqL.of hb) (λi σ j=>(Ex1 λ(g:ϊ Qz)=>(An8 (WtT K j t g) (Sb (t::u.map (·.2.1)) H j) (∀w∈g,w.2.1∈u.map (·.2.1)\/H w.2.1=none) (∀l x,Wait g l x↔Wait u l x\/∃b∈C.take i,l=(r.1+b.2.1,r.2+1)/\x=b.2.2.2) (↑g<=↑u+i) (∀m,(∀w∈u,↑w.2.2<=m)->∀w∈g,↑w.2.2<=m+i) (∀w∈u,w.2.1∈g.map (·.2.1)) (Ex2 λo1 o2=>σ=[!(.ref t),!(.ref ra),!(.ref ba),o1,o2]))))
  #[u,hw,Sb.of (Same.refl _),λw m=>.inl (Zl.mpr #[w,m,rfl]),λl x=>by simp,Ä _,λm h w mw=>h w mw,λw m=>Zl.mpr #[w,m,rfl],none,none,rfl] ?_ ?_ ?_
 .rintro i σ j ⟨g,_,s,_⟩;show SqL.of (I s)
 .rintro i b σ j hi ⟨g,f,s,R,O,hn,U,A,o1,o2,rfl⟩;let#[b1,b2]:=hB b (Yf hi);have ag:i<↑C:=(À.mp hi).1;show dB (SqT.of (Z s b1)) rfl ?_;apply#[t,rfl,.inr #[_,.inl f.d],?_];apply fH (Z s hr) ?_;apply dh (Z s hr) ?_;symm;intro p hp;symm;intro d hd;symm;have ek:((r.1:Int)+(b.2.1:Int))=((r.1+b.2.1:Nat):Int)/\((r.2:Int)+1)=((r.2+1:Nat):Int):=#[rfl,rfl];rw[ek.1,ek.2]at hd⊢;have Sp:Same j (upd j p (.tup [.int ((r.1+b.2.1:Nat):Int),.int ((r.2+1:Nat):Int)])):=aq hp _;have S:=Sp.new (o:=.lst []) hd;have ac:p≠d:=aU aa hd;have n:j d=none:=Sp.free hd;have P:H d=none:=by
   cases e:H d with
   |none=>rfl
   |some o=>
    exfalso;by_cases m:d∈t::u.map (·.2.1)
    .rcases Ç.mp m with z|m
     .rw [z,f.d]at n;cases n
     .obtain ⟨w,mw,rfl⟩:=Zl.mp m;let#[v,mv,ev]:=Zl.mp (A w mw);have:=f.l v mv;rw[show v.2.1=w.2.1 from ev,n]at this
      cases this
    .rw [s.get m e]at n;cases n
  have hE:StT K j b.2.2.1 b.2.2.2:=by
   let#[c,e1,e2]:=b2;show#[c,Z s e1,Z s e2]
  have N:C.take (i+1)=C.take i++[b]:=by rw[Í,hi];rfl
  show#[mX g,jd (r.1+b.2.1,r.2+1),p,S.get f.d,rfl,by rw[ao ac,aa];rfl,Õ (show↑(mX g)<=1000000 by unfold mX;rw[Qb];rfl') (by decide),λv G=>?_,λG=>?_]
  .obtain ⟨w,mw,M⟩:∃w∈g,w.1=(r.1+b.2.1,r.2+1):=by
    by_cases m:(r.1+b.2.1,r.2+1)∈g.map (·.1)
    .show Zl.mp m
    .rw [xr m]at G;cases G
   rw[oR f.k mw M]at G
   cases G;have L:=S.get (f.l w mw);have T:↑w.2.2<=1000000:=by
    have:=U (1000000-↑C) (λv mv=>by have:=ab v mv;rfl') w mw;rfl'
   show d9 (SqL.of L) ?_;apply fL L (by rw[Qb];show T) ?_;symm;have af:t≠w.2.1:=λz=>by rw[<-z,S.get f.d]at L;cases L
   show#[xq g (r.1+b.2.1,r.2+1) (b.2.2.1,b.2.2.2),#[?_,?_,by rw[(mY ..).2];show f.n,by rw[(mY ..).1];show f.k,?_],fJ (s.same S) ((R w mw).imp_left (Ì _)),?_,?_,by unfold xq;rw[Qb];show Î hn (ï (Xr rfl)),?_,λv mv=>by rw[(mY ..).2];show A v mv,_,_,rfl]
   .rw [ao af,VB];show S.get f.d
   .intro v mv;let#[v0,k,rfl]:=Zl.mp mv;by_cases e:v0.1=(r.1+b.2.1,r.2+1)
    .rw [if_pos e];have:v0=w:=gV f.k k mw (e.trans M.symm);subst this;change upd _ v0.2.1 _ v0.2.1=_;rw[aa,Wp];rfl
    .rw [if_neg e,ao (λz=>e (by rw[gV f.n k mw z];show M))];show S.get (f.l v0 k)
   .intro v mv z mz;let#[v0,k,rfl]:=Zl.mp mv;have Y:∀z∈v0.2.2,StT K (upd (upd (upd j p (.tup [.int ((r.1+b.2.1:Nat):Int),.int ((r.2+1:Nat):Int)])) d (.lst [])) w.2.1 (.lst ((w.2.2.map λz=>V.ref z.1)++[V.ref b.2.2.1]))) z.1 z.2:=λz mz=>((f.s v0 k z mz).same S).keep L (λl q=>by cases q)
    by_cases e:v0.1=(r.1+b.2.1,r.2+1)
    .rw [if_pos e]at mz;rcases Å.mp mz with mz|mz
     .show Y z mz
     .rw [Zs.mp mz];show(hE.same S).keep L (λl q=>by cases q)
    .rw [if_neg e]at mz;show Y z mz
   .intro v mv;let#[v0,k,rfl]:=Zl.mp mv;have e:(if v0.1=(r.1+b.2.1,r.2+1)then(v0.1,v0.2.1,v0.2.2++[(b.2.2.1,b.2.2.2)])else v0).2.1=v0.2.1:=by split<;>rfl
    rw[e];show R v0 k
   .intro l x;rw[Ea (Zl.mpr #[w,mw,M]),O,N];simp only[Å,Zs];constructor
    .rintro ((h|⟨c,J,h⟩)|h)
     .show .inl h
     .show .inr #[c,.inl J,h]
     .show .inr #[b,.inr rfl,h]
    .rintro (h|⟨c,J|rfl,h⟩)
     .show .inl (.inl h)
     .show .inl (.inr #[c,J,h])
     .show .inr h
   .intro m F v mv;let#[v0,k,rfl]:=Zl.mp mv;have:=U m F v0 k;split
    .show ↑(v0.2.2++[_])<=_;rw[Â,Ú];show qfL (Ķ this) rfl
    .rfl'
  .have nk:(r.1+b.2.1,r.2+1)∉g.map (·.1):=λm=>by
    let#[w,mw,M]:=Zl.mp m;rw[oR f.k mw M]at G
    cases G
   have W:t≠d:=λz=>by rw[<-z,f.d]at n;cases n
   have D:upd (upd (upd j p (.tup [.int ((r.1+b.2.1:Nat):Int),.int ((r.2+1:Nat):Int)])) d (.lst [])) t (.dT (mX g++[(jd (r.1+b.2.1,r.2+1),V.ref d)])) d=!(.lst []):=by rw[ao (Ne.symm W),aa]
   show d9 (SqL.of D) ?_;apply fL D (à _) ?_;symm;have nd:d∉g.map (·.2.1):=λm=>by
    let#[v,mv,ev]:=Zl.mp m;have:=f.l v mv;rw[show v.2.1=d from ev,n]at this
    cases this
   have st:∀{a:ό}{x:Sd},StT K j a x->StT K (upd (upd (upd (upd j p (.tup [.int ((r.1+b.2.1:Nat):Int),.int ((r.2+1:Nat):Int)])) d (.lst [])) t (.dT (mX g++[(jd (r.1+b.2.1,r.2+1),V.ref d)]))) d (.lst ([]++[V.ref b.2.2.1]))) a x:=λh=>((h.same S).keep (S.get f.d) (λl q=>by cases q)).keep D (λl q=>by cases q)
   show#[g++[((r.1+b.2.1,r.2+1),d,[(b.2.2.1,b.2.2.2)])],#[?_,?_,?_,?_,?_],fJ (fJ (s.same S) (.inl É)) (.inr P),?_,?_,by rw[Â,Ú];show qfL (Ķ hn) rfl,?_,λv mv=>by rw[Wp];show á _ (A v mv),_,_,rfl]
   .rw [ao W,aa];unfold mX;rw[Wp];rfl
   .intro v mv;rcases Å.mp mv with mv|mv
    .have e1:=f.l v mv;have n1:v.2.1≠d:=λz=>nd (Zl.mpr #[v,mv,z])
     have n2:v.2.1≠t:=jf e1 f.d;rw[ao n1,ao n2];show S.get e1
    .rw [Zs.mp mv];show aa
   .rw [Wp,â];show#[f.n,by simp,λx B y X e=>nd (by rw[È,Ĕ,Zs]at X;have:x=d:=e.trans X;rw[<-this];show B)]
   .rw [Wp,â];show#[f.k,by simp,λx B y X e=>nk (by rw[È,Ĕ,Zs]at X;have:x=(r.1+b.2.1,r.2+1):=e.trans X;rw[<-this];show B)]
   .intro v mv z mz;rcases Å.mp mv with mv|mv
    .show st (f.s v mv z mz)
    .rw [Zs.mp mv]at mz;rw[Zs.mp mz];show st hE
   .intro v mv;rcases Å.mp mv with mv|mv
    .show R v mv
    .rw [Zs.mp mv];show .inr P
   .intro l x;have ae:Wait (g++[((r.1+b.2.1,r.2+1),d,[(b.2.2.1,b.2.2.2)])]) l x↔Wait g l x\/(l=(r.1+b.2.1,r.2+1)/\x=b.2.2.2):=by
     constructor
     .rintro ⟨w,mw,rfl,B⟩;rcases Å.mp mw with mw|mw
      .show .inl #[w,mw,rfl,B]
      .rw [Zs.mp mw]at B⊢;show .inr #[rfl,by simpa using B]
     .rintro (⟨w,mw,rfl,B⟩|⟨rfl,rfl⟩)
      .show #[w,á _ mw,rfl,B]
      .show #[_,Û _ (Zs.mpr rfl),rfl,by simp]
    rw[ae,O,N];simp only[Å,Zs];constructor
    .rintro ((h|⟨c,J,h⟩)|h)
     .show .inl h
     .show .inr #[c,.inl J,h]
     .show .inr #[b,.inr rfl,h]
    .rintro (h|⟨c,J|rfl,h⟩)
     .show .inl (.inl h)
     .show .inl (.inr #[c,J,h])
     .show .inr h
   .intro m F v mv;rcases Å.mp mv with mv|mv
    .have:=U m F v mv;rfl'
    .rw [Zs.mp mv];change 1<=_;show dG (Ä 1)
 .rintro σ j ⟨g,f,s,R,O,hn,U,A,o1,o2,rfl⟩;rw[Ö]at O;apply q j g f s R O hn U
abbrev QD(es:ϊ Int)(xs:ϊ Sd)(x:Sd):Prop:=x∈xs/\nR es x=true
def leP(k l:ϻ):Prop:=k.1<l.1\/(k.1=l.1/\k.2<=l.2)
def leP.refl(k:ϻ):leP k k:=.inr #[rfl,Ä _]
theorem leP.trans{m:ϻ}(h:leP k l)(g:leP l m):leP k m:=by unfold leP at*;rfl'
theorem leP.up(k:ϻ)(c:Nat):leP k (k.1+c,k.2+1):=by unfold leP;dsimp only;rfl'
theorem leP.zero(h:leP k (0,0)):k=(0,0):=by
 let#[a,b]:=k;unfold leP at h;dsimp only at h;rw[show a=0 by rfl',show b=0 by rfl']
structure Dj(ev:Sd->Prop)(B:Nat->Sd->Sd->Prop)(F:Sd->Nat×Nat->Prop)(W:Nat×Nat->Sd->Prop):Prop where
 e:∀x,ev x->F x (0,0)\/W (0,0) x
 b:∀c x y v,B c x y->F y v->(∃u,F x u/\leP u (v.1+c,v.2+1))\/W (v.1+c,v.2+1) x
 s:∀x k,F x k\/W k x->(ev x/\k=(0,0))\/∃c y v,B c x y/\F y v/\k=(v.1+c,v.2+1)
 m:∀x k,F x k->∀l y,W l y->leP k l
theorem Dj.skip(h:Dj ev B F W){r:ϻ}(b:F x k)(a:∀l y,W l y↔W' l y\/(l=r/\y=x)):Dj ev B F W':=by
 have d:leP k r:=h.m x k b r x ((a _ _).mpr (.inr #[rfl,rfl]));show#[λy m=>?_,λc z y v f j=>?_,λz l e=>h.s z l (e.imp id λw=>(a _ _).mpr (.inl w)),λz l e i y w=>h.m z l e i y ((a _ _).mpr (.inl w))]
 .rcases h.e y m with g|g
  .show .inl g
  .rcases (a _ _).mp g with g|⟨g1,g2⟩
   .show .inr g
   .rw [<-g1]at d;rw[d.zero]at b;show .inl (by rw[g2];show b)
 .rcases h.b c z y v f j with g|g
  .show .inl g
  .rcases (a _ _).mp g with g|⟨g1,g2⟩
   .show .inr g
   .show .inl #[k,by rw[g2];show b,by rw[g1];show d]
theorem Dj.take{F:Sd->Nat×Nat->Prop}{W o:Nat×Nat->Sd->Prop}(h:Dj ev B F W){r:ϻ}(n:∀l y,W l y↔W' l y\/(l=r/\y=x))(t:∀l y,W' l y->leP r l)(d:∀y k,F' y k↔F y k\/(y=x/\k=r))(f:∀l y,o l y↔W' l y\/∃c,B c y x/\l=(r.1+c,r.2+1)):Dj ev B F' o:=by
 have q:W r x:=(n _ _).mpr (.inr #[rfl,rfl]);show#[λy m=>?_,λc z y v p m=>?_,λz l hz=>?_,λz l hz i y w=>?_]
 .rcases h.e y m with g|g
  .show .inl ((d _ _).mpr (.inl g))
  .rcases (n _ _).mp g with g|⟨a,b⟩
   .show .inr ((f _ _).mpr (.inl g))
   .show .inl ((d _ _).mpr (.inr #[b,a]))
 .rcases (d _ _).mp m with m|⟨rfl,rfl⟩
  .rcases h.b c z y v p m with⟨u,a,b⟩|g
   .show .inl #[u,(d _ _).mpr (.inl a),b]
   .rcases (n _ _).mp g with g|⟨a,b⟩
    .show .inr ((f _ _).mpr (.inl g))
    .show .inl #[r,(d _ _).mpr (.inr #[b,rfl]),by rw[a];show leP.refl _]
  .show .inr ((f _ _).mpr (.inr #[c,p,rfl]))
 .have e:F z l\/W l z->(ev z/\l=(0,0))\/∃c y v,B c z y/\F' y v/\l=(v.1+c,v.2+1):=λg=>(h.s z l g).imp id λ⟨c,y,v,a,b,s⟩=>#[c,y,v,a,(d _ _).mpr (.inl b),s]
  rcases hz with hz|hz
  .rcases (d _ _).mp hz with hz|⟨rfl,rfl⟩
   .show e (.inl hz)
   .show e (.inr q)
  .rcases (f _ _).mp hz with hz|⟨c,a,b⟩
   .show e (.inr ((n _ _).mpr (.inl hz)))
   .show .inr #[c,x,r,a,(d _ _).mpr (.inr #[rfl,rfl]),b]
 .have j:leP l r:=by
   rcases(d _ _).mp hz with hz|⟨_,rfl⟩
   .show h.m z l hz r x q
   .show leP.refl _
  rcases(f _ _).mp w with w|⟨c,_,rfl⟩
  .show j.trans (t _ _ w)
  .show j.trans (leP.up _ _)
theorem Bw{b:Type}{f g:b->Nat}{d:Nat}(h:∀x,g x<=f x):∀{l:ϊ b}{x:b},x∈l->g x+d<=f x->(l.map g).sum+d<=(l.map f).sum
 |z::l,x,m,e=>by
  have a:∀l:ϊ b,(l.map g).sum<=(l.map f).sum:=λl=>by
   induction l with
   |nil=>show Ä _
   |cons y l ih=>rw[È,È,ĩ,ĩ];have:=h y;show Nat.add_le_add this ih
  rw[È,È,ĩ,ĩ];rcases Ç.mp m with rfl|m
  .have:=a l;rfl'
  .have:=Bw h m e;have:=h z;rfl'
abbrev Fq:=ό×Sd×ό×(ϻ)
def mZ(fz:ϊ Fq):ϊ Gz:=fz.map λf=>(f.1,f.2.1,f.2.2.1)
structure FdT(K:Ϗ)(H:Hp)(fa:ό)(fz:ϊ Fq):Prop where
 d:H fa=!(cB fa (cM (mZ fz)))
 s:∀f∈fz,StT K H f.1 f.2.1/\H f.2.2.1=!(.tup [.int (f.2.2.2.1:Nat),.int (f.2.2.2.2:Nat)])
 n:(fz.map (·.2.1)).Nodup
def ji(fz:ϊ Fq)(x:Sd)(k:ϻ):Prop:=∃f∈fz,f.2.1=x/\f.2.2.2=k
def oh(bz:ϊ Gz)(U:ό->ϊ Bq)(fz:ϊ Fq):Nat:=(bz.map λb=>if b.2.1∈fz.map (·.2.1)then 0 else ↑(U b.2.2)).sum
theorem n6{K:Ϗ}(h:∀f∈fz,StT K H f.1 f.2.1):∀p∈cM (mZ fz),vh H p.1 p.2.1:=λp c=>by
 let#[z,d,rfl]:=Zl.mp c;let#[f,b,rfl]:=Zl.mp d;show(h f b).a
theorem j7(a:ϊ Fq):(mZ a).map (·.2.1)=a.map (·.2.1):=by unfold mZ;rw[Æ];rfl
theorem VF{l:ϻ}(h:HT.lexLt [(l.1:Int),(l.2:Int)] [(k.1:Int),(k.2:Int)]=false):leP k l:=by
 unfold leP;unfold HT.lexLt at h;split at h
 .unfold HT.lexLt at h;split at h
  .rfl'
  .have:=ĺ h;rfl'
 .have:=ĺ h;rfl'
def Zc(es:ϊ Int)(gz:ϊ Gz)(z:ό×Sk×V):ύ V:=by
 classical
 show if ∃g∈gz,z=(g.1,iy g.2.1,V.ref g.2.2)/\nR es g.2.1=true then !(.ref z.1)else none
theorem Ju(m:g∈gz):Zc a gz (g.1,iy g.2.1,V.ref g.2.2)=if nR a g.2.1=true then !(.ref g.1)else none:=by
 unfold Zc;by_cases e:nR a g.2.1=true
 .rw [if_pos e,if_pos #[g,m,rfl,e]]
 .rw [if_neg e,if_neg];rintro⟨y,d,c,b⟩;have:=uL (Ý (λp:ό×Sk×V=>p.2.1) c);rw[this]at e;show e b
theorem By:∀{l:ϊ Gz},(∀g∈l,g∈a)->(cM l).filterMap (Zc es a)=((l.filter λg=>nR es g.2.1).map λg=>(g.1,g.2.1)).map λz:ό×Sd=>V.ref z.1
 |[],_=>rfl
 |g::l,h=>by
  have b:=By (es:=es) (l:=l) λx m=>h x (Ì _ m)
  change List.filterMap _ ((g.1,iy g.2.1,V.ref g.2.2)::cM l)=_;rw[Đ,Ju (h g (É ..)),ĸ,b];by_cases e:nR es g.2.1=true
  .rw [if_pos e,if_pos e];rfl
  .rw [if_neg e,if_neg e]
theorem Jv(a:ϊ Qz)(k:ϻ):dI (mX a) (jd k)=mX (a.filter λv=>decide (v.1≠k)):=by
 unfold dI mX;rw[List.filter_map];congr 1;show List.filter_congr λv _=>?_
 change decide (jd v.1≠jd k)=decide (v.1≠k);by_cases e:v.1=k
 .rw [e];simp
 .rw [Ù (show v.1≠k from e),Ù (show jd v.1≠jd k fromλz=>e (uQ z))]
theorem WtT.pop{K:Ϗ}{i:ό}{d:ϊ Qz}(h:WtT K H i d){w:Qz}(g:w∈d):∃c:ϊ Qz,WtT K (upd H i (.dT (dI (mX d) (jd w.1)))) i c/\w.2.1∉c.map (·.2.1)/\↑c+1<=↑d/\(∀v∈c,v∈d)/\∀l x,Wait d l x↔Wait c l x\/(l=w.1/\x∈w.2.2.map (·.2)):=by
 have k:∀{n:ϊ (ϊ Key×V)} l,HO.dT n≠.tup l:=λl z=>by cases z
 have b:∀v∈d.filter (λv=>decide (v.1≠w.1)),v∈d/\v.1≠w.1:=λv a=>#[(ö.mp a).1,æ (ö.mp a).2]
 show#[d.filter λv=>decide (v.1≠w.1),#[by rw[aa,Jv],λv a=>?_,?_,?_,λv a z j=>(h.s v (b v a).1 z j).keep h.d k],λm=>?_,?_,λv a=>(b v a).1,λl x=>#[?_,?_]]
 .have e:=h.l v (b v a).1;rw[ao (λz=>by rw[z,h.d]at e;cases e)];show e
 .show Č (List.Sublist.map _ Ť) h.n
 .show Č (List.Sublist.map _ Ť) h.k
 .obtain ⟨v,a,e⟩:=Zl.mp m;have:=gV h.n (b v a).1 g e;show(b v a).2 (by rw[this])
 .show List.length_filter_lt_length_iff_exists.mpr #[w,g,by simp]
 .rintro ⟨v,a,rfl,f⟩;by_cases e:v.1=w.1
  .rw [gV h.k a g e]at f⊢;show .inr #[rfl,f]
  .show .inl #[v,ö.mpr #[a,Ù e],rfl,f]
 .rintro (⟨v,a,rfl,f⟩|⟨rfl,f⟩)
  .show #[v,(b v a).1,rfl,f]
  .show #[w,g,rfl,f]
inductive sp_f68(K:Ϗ)(vs:ϊ V)(H:Hp)(Q:VK)(E:XK):Prop
 |mk (b f:ό) (a:ϊ Gz) (c:Sd->ϊ (ϐ×Nat×Sd)) (g:ϊ Int) (h:vs=[.ref b,.ref f]) (i:Rd H b (cB b (cM a))) (j:(∀z∈a,StT K H z.1 z.2.1/\SsT K H z.2.2 (c z.2.1)/\↑(c z.2.1)<=42)) (k:(a.map (·.2.1)).Nodup) (l:↑a<=20000) (m:(∀z∈a,∀e∈c z.2.1,e.2.2∈a.map (·.2.1))) (n:SqT K H f (g.map V.int)) (o:∀od d H' (fz:ϊ Fq),Sb [b] H H'->H' b=!(.frz od (cB b (cM a)))->H d=none->FdT K H' d fz->Dj (QD g (a.map (·.2.1))) (Jk c (a.map (·.2.1))) (ji fz) (λ_ _=>False)->Q (.ref d) H')
abbrev Jw K:=(aA (gQ (aN (aL uo (gW GX (cj cX)) (tI 0))) (aA (aK (gW Hh (cj cX)) (ak 5))
  (aA (aK (Rm cX fY) (ak 6))
  (cD (bY K j6) (ak 7) (bB (tB (uz oN cC)) (aA (Ax cC oN fY)
  (cG (bN (sp_f45 K) (lg cX fY (nO bR oN))))) aV)))))
  (aP cC))
abbrev Jx K(E:XK)(Eh:XK):=(aA (aK (bN (sp_f24 K) (cj aQ)) (ak 2))
  (aA (aK Aw (ak 3))
  (aA (aK (GD (cU (cA (tI 0) (tI 0))) (jr [none,!1] (yG aQ) (ak 0) (jw K (bN (sp_f55 K) (cA aQ bc))) aQ)) (ak 4))
  (Jw K))))
abbrev zG:ϊ ϐ:=sN ["onward","ends","backward","found","waiting","rest","reached","stand"]
theorem VG(h:sp_f68 K vs H Q E):RG (Jx K E) zG vs H Q:=by
 let#[D,ea,J,st,Z,rfl,hO,hG,hN,hL,hC,hE,q]:=h;show#[E0,?_];apply#[D,J,st,rfl,hO,hG,hN,hL,hC,λei ba M bz U a5 ar el hB=>?_];symm;intro n aw;symm;intro F b4;symm;intro ta a2;have S1:Same M (upd M n (cB n [])):=aq aw _;have S2:=S1.new (o:=.dT []) b4;have S3:=S2.new (o:=.tup [.int 0,.int 0]) a2;have bk:upd (upd (upd M n (cB n [])) F (.dT [])) ta (.tup [.int 0,.int 0]) n=!(cB n []):=((aq b4 _).trans (aq a2 _)).get aa;have bn:upd (upd (upd M n (cB n [])) F (.dT [])) ta (.tup [.int 0,.int 0]) F=!(.dT []):=(aq a2 _).get aa;have bm:upd (upd (upd M n (cB n [])) F (.dT [])) ta (.tup [.int 0,.int 0]) ta=!(.tup [.int 0,.int 0]):=aa;have af:M F=none:=S1.free b4;have ca:n≠D:=rE ar aw;have cc:F≠D:=rE ar af;have eg:ta≠D:=λz=>by rw[z,S2.get ar]at a2;cases a2
 generalize upd (upd (upd M n (cB n [])) F (.dT [])) ta (.tup [.int 0,.int 0])=H3 at S3 bk bn bm⊢;have ct:∀{r:Hp}{o:HO},Sb [D] M r->r D=!o->∀{p:ό},r p=none->M p=none:=λ{r o} sb eo {p} hp=>by
  cases e:M p with
  |none=>rfl
  |some u=>
   by_cases z:p=D
   .rw [z,eo]at hp;cases hp
   .rw [sb.get (by simpa using z) e]at hp;cases hp
 have tk:∀{r:Hp},Sb [D] M r->∀{a:ό}{u:HO},(∀od x,u≠.frz od x)->M a=!u->r a=!u:=λsb a u hu ea=>sb.get (λm=>by
  rw[Zs.mp m,ar]at ea;show hu _ _ (ß ea).symm) ea
 have cm:∀{r:Hp},Sb [D] H r->∀{a:ό}{l:ϊ V},H a=!(.tup l)->r a=!(.tup l):=λsb a l e=>sb.get (λm=>by
  rw[Zs.mp m]at e;rcases hO with g|⟨od,g⟩<;>(rw[g]at e;cases e)) e
 have ci:∀{r:Hp},Sb [D] M r->∀{z:Gz},z∈J->StT K r z.1 z.2.1:=λsb z mz=>by
  let#[c,e1,e2]:=(hG z mz).1;show#[c,tk sb (λ_ _ z=>by cases z) (cm a5 e1),tk sb (λ_ _ z=>by cases z) (cm a5 e2)]
 have dk:∀{r:Hp},Sb [D] H r->SqT K r ea (Z.map V.int):=λsb=>by
  rcases hE with(e|⟨od,e⟩)|hK
  .show .inl (.inl (cm sb e))
  .show .inl (.inr #[od,sb.get (λm=>?_) e]);rw[Zs.mp m]at e;rcases hO with g|⟨od',g⟩<;>(rw[g]at e;cases e)
  .show .inr hK
 apply YZ (.inr #[ei,S3.get ar]) (by unfold cM;rw[Qb];show dG hL) (Zc Z J) λai H4 al cp=>#[λi z hi A B hA cv=>?_,λla bb=>?_]
 .obtain ⟨g,hg,rfl⟩:=zF hi;have mg:=Yf hg;rw[Ju mg]at hA cv;apply#[g.1,ea,g.2.1,Z,rfl,ci (λb o nb e=>al b o nb (S3.get e)) mg,dk (λb o nb e=>al b o nb (S3.get (a5 b o nb e))),?_];symm;by_cases ev:nR Z g.2.1=true
  .rw [ev];apply hA _ (if_pos ev)
  .rw [ξ.mpr ev];apply cv (if_neg ev)
 have cf:Sb [D] M H4:=λb o nb e=>al b o nb (S3.get e)
 have S5:Same H4 (upd H4 la (.lst ((cM J).filterMap (Zc Z J)))):=aq bb _;have bp:=ct cf cp bb;rw[By λg m=>m]at S5⊢;have am:=al.get (by simpa using ca) bk;have ab:=al.get (by simpa using cc) bn;have cr:=al.get (by simpa using eg) bm;have ee:la≠F:=rE ab bb;have em:la≠n:=rE am bb;have cb:n≠F:=jf am ab;apply#[S5.get ab,jd (0,0),ta,rfl,S5.get cr,?_];symm;have ax:∃(G:ϊ Qz),WtT K (upd (upd H4 la (.lst (((J.filter λg=>nR Z g.2.1).map λg=>(g.1,g.2.1)).map λz:ό×Sd=>V.ref z.1))) F (.dT [(jd (0,0),.ref la)])) F G/\(∀w∈G,M w.2.1=none)/\↑G<=1/\(∀w∈G,↑w.2.2<=20000)/\∀k x,Wait G k x↔k=(0,0)/\x∈J.map (·.2.1)/\nR Z x=true:=by
  show#[[((0,0),la,(J.filter λg=>nR Z g.2.1).map λg=>(g.1,g.2.1))],#[by rw[aa];rfl,λw T=>?_,by simp,by simp,λw T z mz=>?_],λw T=>by rw[Zs.mp T];show bp,Ä _,λw T=>?_,λk x=>?_]
  .rw [Zs.mp T,ao ee,aa]
  .rw [Zs.mp T]at mz;let#[g,mg,rfl]:=Zl.mp mz;show((ci cf (ö.mp mg).1).same S5).keep (S5.get ab) (λl z=>by cases z)
  .rw [Zs.mp T,Qb];show Î (ŵ _ _) hL
  .constructor
   .rintro ⟨w,T,rfl,mx⟩;rw[Zs.mp T]at mx⊢;dsimp only at mx⊢;rw[Æ]at mx;let#[g,mg,rfl]:=Zl.mp mx;show#[rfl,Zl.mpr #[g,(ö.mp mg).1,rfl],(ö.mp mg).2]
   .rintro ⟨rfl,mx,e⟩;let#[g,mg,rfl]:=Zl.mp mx;show#[_,Zs.mpr rfl,rfl,Zl.mpr #[(g.1,g.2.1),Zl.mpr #[g,ö.mpr #[mg,e],rfl],rfl]]
 have c9:Sb [D] M (upd (upd H4 la (.lst (((J.filter λg=>nR Z g.2.1).map λg=>(g.1,g.2.1)).map λz:ό×Sd=>V.ref z.1))) F (.dT [(jd (0,0),.ref la)])):=fJ (fJ cf (.inr bp)) (.inr af);have bl:(upd (upd H4 la (.lst (((J.filter λg=>nR Z g.2.1).map λg=>(g.1,g.2.1)).map λz:ό×Sd=>V.ref z.1))) F (.dT [(jd (0,0),.ref la)])) n=!(cB n []):=by rw[ao cb];show S5.get am
 have cq:(upd (upd H4 la (.lst (((J.filter λg=>nR Z g.2.1).map λg=>(g.1,g.2.1)).map λz:ό×Sd=>V.ref z.1))) F (.dT [(jd (0,0),.ref la)])) D=!(.frz ai (cB D (cM J))):=by rw[ao (Ne.symm cc)];show S5.get cp
 generalize upd (upd H4 la (.lst (((J.filter λg=>nR Z g.2.1).map λg=>(g.1,g.2.1)).map λz:ό×Sd=>V.ref z.1))) F (.dT [(jd (0,0),.ref la)])=H6 at ax c9 bl cq⊢;let#[ej,dp,dq,d1,d4,c5]:=ax;have dn:oh bz U []<=900000:=by
  show Î (Ě ?_) hB.s;unfold oh;simp
 show qG (λm σ r=>(Ex2 λ(fz:ϊ Fq) (G:ϊ Qz)=>(An11 (FdT K r n fz) (WtT K r F G) (Sb [D] M r) (r D=!(.frz ai (cB D (cM J)))) (∀w∈G,M w.2.1=none) (Dj (QD Z (J.map (·.2.1))) (Jk st (J.map (·.2.1))) (ji fz) (Wait G)) (∀f∈fz,f.2.1∈J.map (·.2.1)) (m=↑G+oh bz U fz) (↑G+oh bz U fz<=900001) (∀w∈G,↑w.2.2+oh bz U fz<=950000) (Ex3 λo1 o2 o3=>σ=[!(.ref D),!(.ref ea),!(.ref ba),!(.ref n),!(.ref F),o1,o2,o3])))) _
  #[[],ej,#[bl,by simp,by simp],dp,c9,cq,dq,#[λx hx=>.inr ((c5 _ _).mpr #[rfl,hx.1,hx.2]),λc x y v _ hF=>?_,λx k hk=>?_,λx k hk=>?_],by simp,rfl,oG (ļ _ _) (qkT dn d1),λw T=>by have:=d4 w T;rfl',_,_,_,rfl] ?_ ?_
 .obtain ⟨f,mf,_⟩:=hF;cases mf
 .rcases hk with⟨f,mf,_⟩|hk
  .cases mf
  .obtain ⟨e1,e2⟩:=(c5 _ _).mp hk;show .inl #[e2,e1]
 .obtain ⟨f,mf,_⟩:=hk;cases mf
 .rintro m σ r N ⟨fz,G,hF,hW,sb,eo,dy,hD,c4,rfl,dz,d0,o1,o2,o3,rfl⟩ dl;apply V3 hW.d ?_;rw[show↑(mX G)=↑G from Qb _];symm;by_cases a9:0<↑G
  .show jX (Xq a9) ?_;apply Va (kvs:=G.map λw:Qz=>([(w.1.1:Int),(w.1.2:Int)],V.ref w.2.1)) (by rw[hW.d,Æ];rfl) (λz=>by rw[List.map_eq_nil_iff]at z;rw[z]at a9;cases a9) λR k ah mk bq=>?_
   rw[Æ]at mk bq;let#[w,T,rfl]:=Zl.mp mk;replace ah:r R=!(.tup [.int (w.1.1:Nat),.int (w.1.2:Nat)]):=ah;have d5:∀v∈G,leP w.1 v.1:=λv I=>VF (bq _ (Zl.mpr #[v,I,rfl]))
   apply#[F,rfl,.inr #[_,.inl hW.d],?_];apply#[mX G,jd w.1,R,.ref w.2.1,hW.d,rfl,ah,oR hW.k T rfl,?_];let#[dc,cw,d6,d2,Y,d8]:=hW.pop T;have nt:∀{xs:ϊ (ϊ Key×V)} l,HO.dT xs≠.tup l:=λl z=>by cases z
   have c8:Sb [D] M (upd r F (.dT (dI (mX G) (jd w.1)))):=fJ sb (.inr af);have cn:upd r F (.dT (dI (mX G) (jd w.1))) D=!(.frz ai (cB D (cM J))):=by rw[ao (Ne.symm cc)];show eo
   have b3:FdT K (upd r F (.dT (dI (mX G) (jd w.1)))) n fz:=⟨by rw[ao cb];show hF.d,λf mf=>⟨(hF.s f mf).1.keep hW.d nt,by
    have e:=(hF.s f mf).2;rw[ao (λz=>by rw[z,hW.d]at e;cases e)];show e⟩,hF.n⟩
   have a7:upd r F (.dT (dI (mX G) (jd w.1))) w.2.1=!(.lst (w.2.2.map λz=>V.ref z.1)):=by
    have e:=hW.l w T;rw[ao (λz=>by rw[z,hW.d]at e;cases e)];show e
   have br:upd r F (.dT (dI (mX G) (jd w.1))) R=!(.tup [.int (w.1.1:Nat),.int (w.1.2:Nat)]):=by
    rw[ao (λz=>by rw[z,hW.d]at ah;cases ah)];show ah
   have bs:∀z∈w.2.2,StT K (upd r F (.dT (dI (mX G) (jd w.1)))) z.1 z.2:=λz mz=>(hW.s w T z mz).keep hW.d nt
   generalize upd r F (.dT (dI (mX G) (jd w.1)))=H7 at cw c8 cn b3 a7 br bs⊢;have d3:w.2.1≠n:=jf a7 b3.d;apply fK (λz:ό×Sd=>V.ref z.1) (zs:=w.2.2) (SqL.of a7) (λi σ r=>(Ex2 λ(d:ϊ Fq) (t:ϊ Qz)=>(An15 (FdT K r n d) (WtT K r F t) (Sb [D] M r) (r D=!(.frz ai (cB D (cM J)))) (∀v∈t,M v.2.1=none) (Dj (QD Z (J.map (·.2.1))) (Jk st (J.map (·.2.1))) (ji d) (λl x=>Wait t l x\/(l=w.1/\x∈(w.2.2.drop i).map (·.2)))) (∀f∈d,f.2.1∈J.map (·.2.1)) (∀l x,Wait t l x->leP w.1 l) (r w.2.1=!(.lst (w.2.2.map λz=>V.ref z.1))) (w.2.1∉t.map (·.2.1)) (r R=!(.tup [.int (w.1.1:Nat),.int (w.1.2:Nat)])) (∀z∈w.2.2,StT K r z.1 z.2) (↑t+oh bz U d+1<=↑G+oh bz U fz) (∀v∈t,↑v.2.2+oh bz U d<=950000) (Ex1 λo1=>σ=[!(.ref D),!(.ref ea),!(.ref ba),!(.ref n),!(.ref F),!(.ref R),!(.ref w.2.1),o1]))))
    #[fz,dc,b3,cw,c8,cn,λv I=>dy v (Y v I),?_,c4,λl x ⟨v,I,e,_⟩=>e▸d5 v (Y v I),a7,d6,br,bs,(),λv I=>d0 v (Y v I),_,rfl] ?_ ?_ ?_
   .have:(λl x=>Wait dc l x\/(l=w.1/\x∈(w.2.2.drop 0).map (·.2)))=Wait G:=by
     funext l x;rw[ź];show propext (d8 l x).symm
    rw[this];show hD
   .rintro i σ H8 ⟨_,_,_,_,_,_,_,_,_,_,e,_⟩;show SqL.of e
   .rintro i z σ H8 hi ⟨d,t,C,W,bg,a8,O,ag,L,ac,b1,be,a1,X,bd,ay,eh,rfl⟩;have mz:=Yf hi;have df:w.2.2.drop i=z::w.2.2.drop (i+1):=by
     let#[h1,h2]:=À.mp hi;rw[ĳ h1,h2]
    have b5:∀l y,(Wait t l y\/(l=w.1/\y∈(w.2.2.drop i).map (·.2)))↔(Wait t l y\/(l=w.1/\y∈(w.2.2.drop (i+1)).map (·.2)))\/(l=w.1/\y=z.2):=λl y=>by
     rw[df,È,Ç,or_assoc];show or_congr Iff.rfl ?_;rw[and_or_left];show Or.comm
    apply#[n,_,rfl,SGet.of C.d (n6 λf mf=>(C.s f mf).1) (X z mz).a,?_];by_cases m:z.2∈d.map (·.2.1)
    .obtain ⟨v,ev⟩:=qK (zs:=mZ d) (by rw[j7];show m);rw[ev];symm;change if(not true)=true then _ else _
     symm;let#[f,mf,ef]:=Zl.mp m;show#[d,t,C,W,bg,a8,O,ag.skip #[f,mf,ef,rfl] b5,L,ac,b1,be,a1,X,bd,ay,_,rfl]
    have ev:=jG (zs:=mZ d) (x:=z.2) (by rw[j7];show m);rw[ev];symm;change if(not false)=true then _ else _
    rw[if_pos (show(not false)=true from rfl)];have b6:z.2∈J.map (·.2.1):=by
     rcases ag.s z.2 w.1 (.inr ((b5 _ _).mpr (.inr #[rfl,rfl])))with h|⟨c,y,v,h,_⟩
     .show h.1.1
     .show h.1
    have cy:bz.map (·.2.1)=J.map (·.2.1):=by
     have:=Ý (List.map Prod.snd) hB.k;rw[Æ,Æ]at this;show this
    let#[b,mb,eb]:∃b∈bz,b.2.1=z.2:=by
     rw[<-cy]at b6;let#[b,mb,eb]:=Zl.mp b6;show#[b,mb,eb]
    let#[c1,c2,c3]:=hB.c b mb;have dt:↑d<=20000:=by
     have:=eO C.n λx mx=>by
      let#[f,mf,rfl]:=Zl.mp mx;show L f mf
     rw[Qb,Qb]at this;show Î this hL
    apply#[n,_,rfl,SPut.of C.d (n6 λf mf=>(C.s f mf).1) (X z mz).a (by unfold cM mZ;rw[Qb,Qb];show dG dt),?_];rw[qF ev];have ce:∀{P:PySem.Heap->Prop} l,HO.ext P≠.tup l:=λl z=>by cases z
    have dg:cM (mZ d)++[(z.1,iy z.2,V.ref R)]=cM (mZ (d++[(z.1,z.2,R,w.1)])):=by unfold cM mZ;rw[Wp,Wp];rfl
    have db:∀{a:ό}{l:ϊ V},H8 a=!(.tup l)->upd H8 n (cB n (cM (mZ d)++[(z.1,iy z.2,V.ref R)])) a=!(.tup l):=λe=>by
     rw[ao (λz=>by rw[z,C.d]at e;cases e)];show e
    have S:Sb [D] M (upd H8 n (cB n (cM (mZ d)++[(z.1,iy z.2,V.ref R)]))):=fJ bg (.inr aw);have b2:upd H8 n (cB n (cM (mZ d)++[(z.1,iy z.2,V.ref R)])) D=!(.frz ai (cB D (cM J))):=by rw[ao (Ne.symm ca)];show a8
    have ae:∀z'∈w.2.2,StT K (upd H8 n (cB n (cM (mZ d)++[(z.1,iy z.2,V.ref R)]))) z'.1 z'.2:=λz' b9=>(X z' b9).keep C.d ce
    have ad:=db a1;have as:FdT K (upd H8 n (cB n (cM (mZ d)++[(z.1,iy z.2,V.ref R)]))) n (d++[(z.1,z.2,R,w.1)]):=by
     show#[by rw[aa,dg],λf mf=>?_,?_]
     .rcases Å.mp mf with mf|mf
      .show #[(C.s f mf).1.keep C.d ce,db (C.s f mf).2]
      .rw [Zs.mp mf];show#[ae z mz,ad]
     .rw [Wp,â];show#[C.n,by simp,λa ma c mc e=>m ?_];rw[È,Ĕ,Zs]at mc;rw[<-show c=z.2 from mc,<-e];show ma
    have av:WtT K (upd H8 n (cB n (cM (mZ d)++[(z.1,iy z.2,V.ref R)]))) F t:=⟨by rw[ao (Ne.symm cb)];show W.d,λv I=>by
     have e:=W.l v I;rw[ao (λz=>by rw[z,C.d]at e;cases e)];show e,W.n,W.k,λv I y my=>(W.s v I y my).keep C.d ce⟩
    have ap:upd H8 n (cB n (cM (mZ d)++[(z.1,iy z.2,V.ref R)])) w.2.1=!(.lst (w.2.2.map λz=>V.ref z.1)):=by rw[ao d3];show b1
    generalize upd H8 n (cB n (cM (mZ d)++[(z.1,iy z.2,V.ref R)]))=H9 at S b2 ae ad as av ap⊢;have ek:oh bz U (d++[(z.1,z.2,R,w.1)])+↑(U b.2.2)<=oh bz U d:=by
     unfold oh;show Bw (λv=>?_) mb ?_
     .by_cases h:v.2.1∈d.map (·.2.1)
      .rw [if_pos h,if_pos (by rw[Wp];show á _ h)];show Ä _
      .rw [if_neg h];split<;>rfl'
     .rw [if_pos (by rw[Wp,eb];simp),if_neg (by rw[eb];show m)];show oG (ļ 0 _) (Ä _)
    apply⟨ba,.ref b.2.2,rfl,by
     rw[<-jR (by rw[cy];show hN) mb,eb];show SGet.of (tk S (λ_ _ z=>by cases z) hB.d) (λp mp=>by
      let#[b',ec,rfl]:=Zl.mp mp;let#[y,my,ey]:=hB.key ec;have:=ci S my;rw[ey.1,ey.2]at this;show this.a) (ae z mz).a,?_⟩
    apply#[F,R,b.2.2,t,w.1,U b.2.2,rfl,av,ad,tk S (λ_ _ z=>by cases z) c1,λmm=>?_,λu mu=>?_,(),λv I=>by have:=ay v I;rfl',λa6 dd cx b0 bo bv de cz=>?_]
    .obtain ⟨v,I,e⟩:=Zl.mp mm;have:=O v I;rw[show v.2.1=b.2.2 from e,c1]at this;cases this
    .obtain ⟨g1,c,g2,g3⟩:=c2 u mu;show#[tk S (λ_ _ z=>by cases z) g1,c,tk S (λ_ _ z=>by cases z) g2,tk S (λ_ _ z=>by cases z) g3]
    symm;have a3:∀{a:ό}{u:HO},H9 a=!u->a≠F->a∉t.map (·.2.1)->a6 a=!u:=λe n1 n2=>b0.get (λmm=>(Ç.mp mm).elim n1 n2) e
    have a4:∀{a:ό}{u:HO},H9 a=!u->(∀xs,u≠.lst xs)->(∀xs,u≠.dT xs)->a6 a=!u:=λ{a u} e n1 n2=>a3 e (λz=>by rw[z,av.d]at e;show n2 _ (ß e).symm) (λmm=>by
     let#[v,I,ea]:=Zl.mp mm;have:=av.l v I;rw[show v.2.1=a from ea,e]at this;show n1 _ (ß this))
    have bi:∀{a:ό}{l:ϊ V},H9 a=!(.tup l)->a6 a=!(.tup l):=λe=>a4 e (λ_ z=>by cases z) (λ_ z=>by cases z)
    have da:∀{a:ό}{x:Sd},StT K H9 a x->StT K a6 a x:=λh=>by
     let#[c,e1,e2]:=h;show#[c,bi e1,bi e2]
    show#[d++[(z.1,z.2,R,w.1)],dd,#[a4 as.d (λ_ z=>by cases z) (λ_ z=>by cases z),λf mf=>#[da (as.s f mf).1,bi (as.s f mf).2],as.n],cx,λc o nb e=>b0 c o (λmm=>?_) (S c o nb e),a4 b2 (λ_ z=>by cases z) (λ_ z=>by cases z),λv I=>?_,ag.take b5 (λl y h=>?_) (λy k=>?_) (λl y=>?_),λf mf=>?_,λl x h=>?_,a3 ap (λz=>by rw[z,av.d]at ap;cases ap) be,λmm=>?_,bi ad,λz' b9=>da (ae z' b9),(),λv I=>?_,_,rfl]
    .rcases Ç.mp mm with rfl|mm
     .rw [af]at e;cases e
     .obtain ⟨v,I,rfl⟩:=Zl.mp mm;rw[O v I]at e;cases e
    .rcases bo v I with h|h
     .obtain ⟨v',ed,e⟩:=Zl.mp h;rw[<-show v'.2.1=v.2.1 from e];show O v' ed
     .show ct S b2 h
    .rcases h with h|⟨rfl,_⟩
     .show ac l y h
     .show leP.refl _
    .unfold ji;constructor
     .rintro ⟨f,mf,e1,e2⟩;rcases Å.mp mf with mf|mf
      .show .inl #[f,mf,e1,e2]
      .rw [Zs.mp mf]at e1 e2;show .inr #[e1.symm,e2.symm]
     .rintro (⟨f,mf,e⟩|⟨rfl,rfl⟩)
      .show #[f,á _ mf,e]
      .show #[_,Û _ (Zs.mpr rfl),rfl,rfl]
    .have hx:(∃u∈U b.2.2,l=(w.1.1+u.2.1,w.1.2+1)/\y=u.2.2.2)↔ ∃c,(y∈J.map (·.2.1)/\∃s,(s,c,z.2)∈st y)/\l=(w.1.1+c,w.1.2+1):=by
      rw[<-eb];constructor
      .rintro ⟨u,mu,rfl,rfl⟩;show#[u.2.1,(c3 _ _).mp (Zl.mpr #[u,mu,rfl]),rfl]
      .rintro ⟨c,h,rfl⟩;let#[u,mu,e]:=Zl.mp ((c3 c y).mpr h);show#[u,mu,by rw[<-(Prod.mk.inj e).1],(Prod.mk.inj e).2.symm]
     rw[bv,<-hx,or_assoc,or_assoc];show or_congr Iff.rfl Or.comm
    .rcases Å.mp mf with mf|mf
     .show L f mf
     .rw [Zs.mp mf];show b6
    .rcases (bv l x).mp h with h|⟨u,_,rfl,_⟩
     .show ac l x h
     .show leP.up _ _
    .obtain ⟨v,I,e⟩:=Zl.mp mm;rcases bo v I with h|h
     .show be (by rw[<-show v.2.1=w.2.1 from e];show h)
     .rw [show v.2.1=w.2.1 from e,ap]at h;cases h
    .have:=cz (950000-oh bz U d) (λv I=>by have:=ay v I;rfl') v I;rfl'
   .rintro σ H8 ⟨d,t,C,W,bg,a8,O,ag,L,ac,b1,be,a1,X,bd,ay,eh,rfl⟩;apply dl _ _ _ (Nat.lt_of_succ_le bd) #[d,t,C,W,bg,a8,O,?_,L,rfl,Î (ï bd) dz,ay,_,_,_,rfl];have:(λl x=>Wait t l x\/(l=w.1/\x∈(w.2.2.drop ↑w.2.2).map (·.2)))=Wait t:=by
     funext l x;rw[List.drop_length];simp
    rw[this]at ag;show ag
  .have e0:G=[]:=List.eq_nil_of_length_eq_zero (qn0 a9);subst e0;show jB (by rw[ű];rfl') ?_;apply q ai n r fz (λb o nb e=>sb b o nb (a5 b o nb e)) eo ?_ hF ?_
   .cases e:H n with
    |none=>rfl
    |some u=>
     exfalso;by_cases z:n=D
     .show ca z
     .rw [a5.get (by simpa using z) e]at aw;cases aw
   .have:Wait []=λ_ _=>False:=by
     funext l x;show propext #[λ⟨w,T,_⟩=>(by cases T),False.elim]
    rw[this]at hD;show hD
 .rintro σ H Q Q' hq ⟨v,hv,a,c6,e,ha,i,j,e1,e2,k,e3,z⟩;show#[v,hv,a,c6,e,ha,i,j,e1,e2,k,e3,hq _ _ z]
inductive sp_f67(K:Ϗ)(vs:ϊ V)(H:Hp)(Q:VK)(E:XK):Prop
 |mk (g:ό) (a d c:ϐ) (b:ϑ) (h:vs=[.ref g,.str c,.bl b]) (i:H g=!(.tup [.str a,.str d])) (j:↑a+↑c<=1000000) (k:∀r H' e f,Same H H'->H' r=!(.tup [.str e,.str f])->↑e<=max ↑d (↑a+↑c)->↑f<=max ↑d (↑a+↑c)->Q (.ref r) H')
abbrev Jy K(E:XK)(Eh:XK):=(aA (aK (aL fW (tX K aQ 0) bc) (ak 3))
  (aP (XC (jw K bR) (cU (cA (tX K aQ 1) cC)) (cU (cA cC (tX K aQ 1))))))
abbrev Jz:ϊ ϐ:=sN ["texts","sign","passes","longer"]
theorem VH(h:sp_f67 K vs H Q E):RG (Jy K E) Jz vs H Q:=by
 let#[j,e,i,f,b,rfl,a,g,q]:=h;show#[E0,?_];have c:↑(e++f)=↑e+↑f:=jF _ _;apply fH a ?_;apply qp g ?_;apply Hq (λ_=>?_) λ_=>?_
 .symm;show dh a ?_;symm;intro r d;show q r _ _ _ (aq d _) aa (Nat.le_max_left _ _) (by rw[c];show Nat.le_max_right _ _)
 .symm;show dh a ?_;symm;intro r d;show q r _ _ _ (aq d _) aa (by rw[c];show Nat.le_max_right _ _) (Nat.le_max_left _ _)
theorem JB{N M:Nat}(a:↑(cF wss N)<=N)(b:↑(cF wss M)<=M):cF wss N=cF wss M:=by
 rcases Nat.le_total N M with h|h
 .obtain ⟨j,rfl⟩:=Nat.exists_eq_add_of_le h;show(jQ a j).symm
 .obtain ⟨j,rfl⟩:=Nat.exists_eq_add_of_le h;show jQ b j
inductive sp_f4(K:Ϗ)(vs:ϊ V)(H:Hp)(Q:VK)(E:XK):Prop
 |mk (d:ό) (a:ϲ) (z:Fz) (N:Nat) (g:vs=[.ref d,.ref z.1]) (h:WsT H d a) (i:0<↑a) (j:↑a<=100) (k:(∀e∈a,↑e<=1000/\∀w∈e,↑w.1<=1/\0<=w.2.2/\w.2.2<↑a)) (l:FkA K H z) (m:↑(cF a N)<=N) (n:z.2.2.2.2.2.2∈cF a N) (o:↑z.2.2.2.2.1.1<=1) (p:↑z.2.2.2.2.2.1.1<=1) (f:∀r H' b c,Same H H'->H' r=!(.tup [.str b,.str c])->↑b<=200->↑c<=200->Q (.ref r) H')
abbrev RB K(E:XK)(Eh:XK):=(aA (aK (gm (bN (sp_f2 K) (cj aQ)) (tX K bc 2)) (ak 2))
  (aA (aK (tX K bc 3) (ak 3))
  (aA (aK (tX K bc 4) (ak 4))
  (aP (bN (sp_f67 K) (lg (cU (cA bR (aL fW bR (tX K cX 0)))) (tX K cC 0) (aL uo (dZ K (tX K cC 1)) (dZ K (tX K cX 1)))))))))
abbrev RC:ϊ ϐ:=sN ["ways","fork","text","way","later"]
theorem Zd(h:sp_f4 K vs H Q E):RG (RB K E) RC vs H Q:=by
 let#[wa,b,z,N,rfl,hW,c,g,k,hz,Z,F,ac,ad,q]:=h;show#[E0,?_];let#[y,f2,#[c1,A,L],#[c2,B,O]]:=id hz;dsimp only at A L B O;apply#[wa,b,rfl,hW,c,g,k,λtd J M s n ae e x Y D=>?_];have u:cF b M=cF b N:=JB Y Z;let#[a,mt,W]:=uK (ps:=s) (r:=z.2.2.2.2.2.2) (by rw[e,u];show F);have S:↑s<=100:=by
  have C:↑s=↑(cF b M):=by rw[<-e,Qb]
  have R:=eO (l:=cF b M) (m:=(List.range ↑b).map λi:Nat=>(i:Int)) (gM _ _ M) λr mr=>by
   let#[X,C]:=fu (P:=λr:Int=>0<=r/\r<↑b) #[by decide,Xq c] (λp q' hp hq=>by
    let#[w,mw,rfl]:=Zl.mp hq;have:b.getD p.toNat []∈b:=by rw[Xs,Qr (Xn hp)];show Ó _
    show((k _ this).2 w mw).2) M r mr
   show Zl.mpr #[r.toNat,ñ.mpr (qtC C c),DP X]
  rw[Qb,ú]at R;show oG C (Î R g)
 have I:=D _ mt;dsimp only at I;apply jD (n.get y) ?_;show#[td,_,rfl,.inl #[_,_,.inl x,rfl,W.symm],?_];apply cV (SqT.of (n.get y)) (aM (j:=3) (v:=.ref z.2.2.1) rfl) ?_;apply cV (SqT.of (n.get y)) (aM (j:=4) (v:=.ref z.2.2.2.1) rfl) ?_;apply fH (n.get B) ?_;apply qp () ?_;symm;intro t G;symm;have d:=n.new (o:=.tup [.str a,.str (a++z.2.2.2.2.2.1.1)]) G;have f:upd J t (.tup [.str a,.str (a++z.2.2.2.2.2.1.1)]) t=!(.tup [.str a,.str (a++z.2.2.2.2.2.1.1)]):=aa;generalize upd J t (.tup [.str a,.str (a++z.2.2.2.2.2.1.1)])=H2 at d f⊢;show fH (d.get A) ?_;apply dh (d.get A) ?_;apply cN (SqT.of (d.get L)) ?_;apply dh (d.get B) ?_;apply cN (SqT.of (d.get O)) ?_;symm;have ab:↑(a++z.2.2.2.2.2.1.1)=↑a+↑z.2.2.2.2.2.1.1:=jF _ _;show#[t,a,_,_,_,rfl,f,(),λr T t0 t1 s3 U l0 l1=>?_];show q r T t0 t1 (d.trans s3) U () ()
theorem VJ(n:Nat):Sh n .none:=#[by simp[PyData.canLay0],by simp[PyData.depth]]
theorem a1q{x:PyData}(b:Sh n x)(c:Sh n y)(e:Sh n z):Sh (n+1) (.tuple [x,y,z]):=gU λd a=>by
 simp only[Ç,Þ,ć]at a;rcases a with rfl|rfl|rfl<;>assumption
theorem rEqD.intsT{K:Ϗ}{c:ϊ Int}(e:SqT K H a (c.map V.int))(f:SqT K H b (ms.map V.int))(q:Q (.bl (decide (c=ms))) H):rEqD K (.ref a) (.ref b) H Q:=by
 have d:∀c:ϊ Int,Sh 1 (.tuple (c.map PyData.int)):=λc=>gU λx g=>by
  let#[y,_,rfl]:=Zl.mp g;show dU _ _
 show#[_,_,Dp.intsT e,Dp.intsT f,(d c).shaped (by decide),(d ms).shaped (by decide),?_];rw[show PyData.eqv (.tuple (c.map PyData.int)) (.tuple (ms.map PyData.int))=decide (c=ms)by simp only[PyData.eqv];show jt c ms];show q
theorem rNeD.intsT{K:Ϗ}{c:ϊ Int}(e:SqT K H a (c.map V.int))(f:SqT K H b (ms.map V.int))(q:Q (.bl (not (decide (c=ms)))) H):rNeD K (.ref a) (.ref b) H Q:=by
 have d:∀c:ϊ Int,Sh 1 (.tuple (c.map PyData.int)):=λc=>gU λx g=>by
  let#[y,_,rfl]:=Zl.mp g;show dU _ _
 show#[_,_,Dp.intsT e,Dp.intsT f,(d c).shaped (by decide),(d ms).shaped (by decide),?_];rw[show PyData.eqv (.tuple (c.map PyData.int)) (.tuple (ms.map PyData.int))=decide (c=ms)by simp only[PyData.eqv];show jt c ms];show q
inductive sp_f50(K:Ϗ)(vs:ϊ V)(H:Hp)(Q:VK)(E:XK):Prop
 |mk (e c d:ό) (a:ϊ (ό×ϐ×Nat×Sd)) (b:ϊ Fq) (k:ϻ) (f:vs=[.ref e,.ref c,.ref d]) (g:H e=!(.lst (a.map λz=>V.ref z.1))) (h:(∀z∈a,SpT K H z.1 z.2)) (i:FdT K H c b) (j:H d=!(.tup [.int (k.1:Nat),.int (k.2:Nat)])) (l:(∃z∈a,∃v,ji b z.2.2.2 v/\k=(v.1+z.2.2.1,v.2+1))) (m:∀z∈a,∀v,ji b z.2.2.2 v->k=(v.1+z.2.2.1,v.2+1)->∀H',Same H H'->Q (.ref z.1) H')
abbrev JC K(E:XK)(Eh:XK):=(aA (cD (bY K aQ) (ak 3) (bB (aN (aL (rEqD K) (Hj bc (tX K cC 2)) (cU (cA (aL pR (tX K bR 0) (tX K cC 1)) (aL pR (tX K bR 1) (tI 1)))))) (aP cC) aV))
  (aP (tC V.non)))
abbrev JD:ϊ ϐ:=sN ["steps","found","rest","step"]
theorem VL(h:sp_f50 K vs H Q E):RG (JC K E) JD vs H Q:=by
 let#[sa,R,ra,F,j,k,rfl,C,hz,r,B,M,q]:=h;show#[E0,?_];apply fK (λz:ό×ϐ×Nat×Sd=>V.ref z.1) (zs:=F) (SqL.of C) (λi I l=>(An3 (Same H l) (∀z∈F.take i,∀v,ji j z.2.2.2 v->k≠(v.1+z.2.2.1,v.2+1)) (Ex1 λO=>I=[!(.ref sa),!(.ref R),!(.ref ra),O]))) #[Same.refl _,by simp,_,rfl] ?_ ?_ ?_
 .rintro i I l ⟨s,_⟩;show SqL.of (s.get C)
 .rintro i z I l S ⟨s,b,O,rfl⟩;have G:=Yf S;let#[c,P,U]:=hz z G;apply#[R,_,rfl,.inl (s.get r.d),?_];apply jD (s.get P) ?_;show#[_,SGet.ofR (.inl (s.get r.d)) (n6 λf d=>(r.s f d).1.same s) (U.same s).a,?_];apply fH (s.get B) ?_;apply dh (s.get P) ?_;apply dh (s.get B) ?_;symm;intro p Y;have D:=s.new (o:=.tup [.int ((k.1:Int)-(z.2.2.1:Int)),.int ((k.2:Int)-1)]) Y;have L:upd l p (.tup [.int ((k.1:Int)-(z.2.2.1:Int)),.int ((k.2:Int)-1)]) p=!(.tup ([(k.1:Int)-(z.2.2.1:Int),(k.2:Int)-1].map V.int)):=aa;generalize upd l p (.tup [.int ((k.1:Int)-(z.2.2.1:Int)),.int ((k.2:Int)-1)])=H2 at D L⊢;have t:∀(T:∀v,ji j z.2.2.2 v->k≠(v.1+z.2.2.1,v.2+1)),∀y∈F.take (i+1),∀v,ji j y.2.2.2 v->k≠(v.1+y.2.2.1,v.2+1):=λT y my=>by
   rw[Í,S]at my;rcases Å.mp my with my|my
   .show b y my
   .have:y=z:=by simpa using my
    rw[this];show T
  by_cases m:z.2.2.2∈j.map (·.2.1)
  .obtain ⟨f,d,J⟩:=Zl.mp m;have N:∀v,ji j z.2.2.2 v->v=f.2.2.2:=λv ⟨g,mg,u,w⟩=>by rw[<-w,gV r.n mg d (u.trans J.symm)]
   have X:du (cM (mZ j)) (iy z.2.2.2)=!(V.ref f.2.2.1):=by
    rw[<-J];show jR (zs:=mZ j) (z:=(f.1,f.2.1,f.2.2.1)) (by rw[j7];show r.n) (Zl.mpr #[f,d,rfl])
   rw[X];have W:H2 f.2.2.1=!(.tup ([(f.2.2.2.1:Int),(f.2.2.2.2:Int)].map V.int)):=D.get (r.s f d).2;show rEqD.intsT (SqT.of W) (SqT.of L) ?_;show#[_,rfl,?_];show dw (λc=>?_) λc=>?_
   .symm;have A:k=(f.2.2.2.1+z.2.2.1,f.2.2.2.2+1):=by
     injection c with c1 c2
     injection c2 with c2
     show Prod.ext (by change k.1=_;rfl') (by change k.2=_;rfl')
    show q z G f.2.2.2 #[f,d,J,rfl] A _ D
   .symm;show#[D,t λv Z A=>c ?_,_,rfl];rw[N v Z]at A;have u:=Ý Prod.fst A;have w:=Ý Prod.snd A;dsimp only at u w;rw[show(k.1:Int)-(z.2.2.1:Int)=(f.2.2.2.1:Int)by rfl',show(k.2:Int)-1=(f.2.2.2.2:Int)by rfl']
  .rw [jG (by rw[j7];show m)];show#[_,_,.non,Dp.intsT (SqT.of L),(VJ 1).shaped (by decide),(gU (n:=0) λx mx=>?_).shaped (by decide),?_]
   .obtain ⟨y,_,rfl⟩:=Zl.mp mx;show dU _ _
   symm;rw[show PyData.eqv .none (.tuple ([(k.1:Int)-(z.2.2.1:Int),(k.2:Int)-1].map PyData.int))=false by simp[PyData.eqv]];show CN ?_;apply#[D,t λv ⟨f,d,e,_⟩=>absurd (Zl.mpr #[f,d,e]) m,_,rfl]
 .rintro I l ⟨s,b,O,rfl⟩;rw[Ö]at b;let#[z,G,v,u,w]:=M;show absurd w (b z G v u)
theorem xu{d:Sd->Prop}{B:Nat->Sd->Sd->Prop}(h:Dj d B F (λ_ _=>False)):∀(n:Nat)(x:Sd)(k:ϻ),k.2=n->F x k->∃l:ϊ (Sd×(ϻ)),↑l=n+1/\(∀p∈l,F p.1 p.2/\p.2.2<=n)/\(l.map λp=>p.2.2).Nodup
 |0,x,k,e,hf=>#[[(x,k)],rfl,λp mp=>by rw[Zs.mp mp];show#[hf,Ě e],by simp]
 |n+1,x,k,e,hf=>by
  rcases h.s x k (.inl hf)with⟨_,rfl⟩|⟨c,y,v,_,hy,rfl⟩
  .cases e
  .obtain ⟨l,f,a,g⟩:=xu h n y v (Ž e) hy;show#[(x,(v.1+c,v.2+1))::l,by rw[í,f],λp mp=>?_,?_]
   .rcases Ç.mp mp with rfl|mp
    .show #[hf,Ě e]
    .show #[(a p mp).1,Š (a p mp).2]
   .rw [È,é];show#[λm=>?_,g];let#[p,mp,b]:=Zl.mp m;have:=(a p mp).2;dsimp only at b e;rfl'
theorem JF(h:Dj ev B (ji fz) (λ_ _=>False))(d:ji fz x k):k.2<↑fz:=by
 let#[l,a,b,c]:=xu h _ x k rfl d;have:=eO (l:=l.map λp=>p.2.2) (m:=fz.map λf=>f.2.2.2.2) c λy j=>by
  let#[p,i,rfl]:=Zl.mp j;let#[f,g,_,e]:=(b p i).1;show Zl.mpr #[f,g,by rw[e]]
 rw[Qb,Qb,a]at this;show this
inductive sp_f57(K:Ϗ)(vs:ϊ V)(H:Hp)(Q:VK)(E:XK):Prop
 |mk (f i l m n:ό) (h:Nat) (g:ϵ) (a:ϊ Gz) (j:Sd->ϊ (ϐ×Nat×Sd)) (o:ϊ Int) (b:ϊ Fq) (x:Sd) (u:vs=[.ref f,.ref i,.ref l,.ref m,.ref n]) (v:FnF K H f h g) (w:Fo.Wf h g) (y:Rd H i (cB i (cM a))) (A:(∀z∈a,StT K H z.1 z.2.1/\SsT K H z.2.2 (j z.2.1))) (B:(a.map (·.2.1)).Nodup) (C:(∀z∈a,∀e∈j z.2.1,(∃co,Fo.lk g e.1=!co)/\↑e.1<=1)) (D:FdT K H l b) (F:↑b<=100000) (G:Dj (QD o (a.map (·.2.1))) (Jk j (a.map (·.2.1))) (ji b) (λ_ _=>False)) (p:StT K H m x) (q:(∃k,ji b x k)) (s:(∃c d:ϐ,H n=!(.tup [.str c,.str d])/\↑c<=200/\↑d<=200)) (t:∀r H' c d,Same H H'->H' r=!(.tup [.str c,.str d])->Q (.ref r) H')
abbrev JG K:=(aA (gQ (aN (aL (rNeD K) (nO bR cC) (cU (cA (tI 0) (tI 0))))) (aA (aK (bN (sp_f50 K) (lg (nO bc cC) bR (nO bR cC))) (ak 6))
  (aA (aK (bN (sp_f67 K) (lg cX (tX K j6 0) (aL uo (dZ K (gm fY (tX K j6 0))) (dZ K (tX K cC 2))))) (ak 4))
  (aK (tX K j6 2) (ak 3)))))
  (aP cX))
abbrev JH K(E:XK)(Eh:XK):=(aA (aK (gW (jM K) (cj (tX K aQ 1))) (ak 5))
  (JG K))
abbrev JK:ϊ ϐ:=sN ["font","onward","found","stand","texts","letters","step"]
theorem VM(h:sp_f57 K vs H Q E):RG (JH K E) JK vs H Q:=by
 let#[f,oa,fa,sa,G,h,ls,gz,st,es,I,x,rfl,hF,wf,as,U,ap,am,b,a3,hD,j,#[k,J],#[D,F,A,l0,l1],q]:=h;show#[E0,?_];let#[l,ob,B,h1,ez,av,h3,h4]:=id hF;apply dh h1 ?_;symm;have ar:(B.map (·.2.1)).Nodup:=by
  have:=dW wf.up;rw[<-ez,Æ]at this;show this
 have al:=wf.le;have T:↑B=↑ls:=by rw[<-ez,Qb]
 show qz (zs:=B.map λz:Lz=>(z.1,z.2.1,V.ref z.2.2.1)) av (by rw[Æ];show h3) (λz m=>?_) (by rw[Æ];show ar) (by rw[Qb];show dG (oG T al)) λpc aw=>?_
 .obtain ⟨y,my,rfl⟩:=Zl.mp m;show SqT.of (h4 y my).1
 rw[Æ];let#[O,t]:∃O,O=upd H pc (HO.dK (B.map ((λz:ό×ϐ×V=>((Sum.inr z.2.1:Key),z.2.2))∘λz:Lz=>(z.1,z.2.1,V.ref z.2.2.1)))):=#[_,rfl];have s1:Same H O:=by rw[t];show aq aw _
 have ac:O pc=!(.dK (B.map λz:Lz=>((Sum.inr z.2.1:Key),V.ref z.2.2.1))):=by rw[t];show aa
 rw[<-t];clear t;symm;walk_at "ns";have a4:=JF hD J;have ae:∀{d:Hp},Same H d->Rd d oa (cB oa (cM gz)):=λs=>by
  rcases as with e|⟨od,e⟩
  .show .inl (s.get e)
  .show .inr #[od,s.get e]
 have ag:∀{d:Hp},Same H d->∀p∈cM gz,vh d p.1 p.2.1:=λs p mp=>by
  let#[g,X,rfl]:=Zl.mp mp;show((U g X).1.same s).a
 have S:∀{d:Hp},Same H d->∀p∈cM (mZ I),vh d p.1 p.2.1:=λs=>n6 λf C=>(b.s f C).1.same s
 show qG (λm σ d=>(An2 (Same O d) (Ex7 λ(sa G:ό) (x:Sd) (k:ϻ) (D F:ϐ) (o6:ύ V)=>(An7 (StT K d sa x) (ji I x k) (k.2=m) (d G=!(.tup [.str D,.str F])) (↑D+m<=100200) (↑F+m<=100200) (σ=[!(.ref f),!(.ref oa),!(.ref fa),!(.ref sa),!(.ref G),!(.ref pc),o6]))))) k.2 #[Same.refl _,sa,G,x,k,D,F,_,j.same s1,J,rfl,s1.get A,(),(),rfl] ?_ ?_
 .rintro m σ d N ⟨s,sa,G,x,k,D,F,o6,j,J,rfl,A,l0,l1,rfl⟩ hN;have sH:=s1.trans s;let#[n,C,ef,ek]:=id J;have ev:du (cM (mZ I)) (iy x)=!(V.ref n.2.2.1):=by
   rw[<-ef];show jR (zs:=mZ I) (z:=(n.1,n.2.1,n.2.2.1)) (by rw[j7];show b.n) (Zl.mpr #[n,C,rfl])
  have er:H n.2.2.1=!(.tup [.int (k.1:Nat),.int (k.2:Nat)]):=by rw[<-ek];show(b.s n C).2
  apply#[fa,.ref n.2.2.1,rfl,by rw[<-ev];show SGet.of (sH.get b.d) (S sH) j.a,?_];symm;intro p hp;have i:=sH.new (o:=.tup [.int 0,.int 0]) hp;have sN:=aq (o:=.tup [.int 0,.int 0]) hp;have ep:upd d p (.tup [.int 0,.int 0]) p=!(.tup ([(0:Int),0].map V.int)):=aa;generalize upd d p (.tup [.int 0,.int 0])=H2 at i sN ep⊢;have e3:H2 n.2.2.1=!(.tup ([(k.1:Int),(k.2:Int)].map V.int)):=i.get er;show rNeD.intsT (SqT.of e3) (SqT.of ep) ?_;show#[_,rfl,?_];show jW (λc=>?_) λc=>?_
  .have ah:x∈gz.map (·.2.1):=by
    rcases hD.s x k (.inl J)with h|⟨_,_,_,h,_⟩
    .show h.1.1
    .show h.1
   let#[g,X,eg]:=Zl.mp ah;let#[_,M,z1,z2,z3]:=U g X;have ad:du (cM gz) (iy x)=!(V.ref g.2.2):=by rw[<-eg];show jR ap X
   apply#[oa,.ref g.2.2,rfl,by rw[<-ad];show SGet.ofR (ae i) (ag i) (j.same sN).a,?_];apply#[fa,.ref n.2.2.1,rfl,by rw[<-ev];show SGet.of (i.get b.d) (S i) (j.same sN).a,?_];symm;have W:∃z∈M,∃v,ji I z.2.2.2 v/\k=(v.1+z.2.2.1,v.2+1):=by
    rcases hD.s x k (.inl J)with⟨_,rfl⟩|⟨c',y,v,⟨_,sg,ms⟩,hv,e⟩
    .show absurd rfl c
    .have:(sg,c',y)∈M.map (·.2):=by rw[z1,show g.2.1=x from eg];show ms
     let#[z,L,R]:=Zl.mp this;show#[z,L,v,by rw[R];show hv,by rw[R];show e]
   show#[g.2.2,fa,n.2.2.1,M,I,k,rfl,i.get z2,λz L=>(z3 z L).same i,#[i.get b.d,λf C=>#[(b.s f C).1.same i,i.get (b.s f C).2],b.n],i.get er,W,λz L v hv ab H3 Z=>?_];let#[c',y1,y2]:=(z3 z L).same (i.trans Z);have ay:z.2∈st g.2.1:=by rw[<-z1];show Zl.mpr #[z,L,rfl]
   let#[#[co,af],a5]:=am g X _ ay;apply fH y1 ?_;apply fH y1 ?_;symm;let#[lw,ax,a2,P]:=HN (zs:=B) (s:=z.2.1) (by rw[show B.map (λz:Lz=>(z.2.1,z.2.2.2))=ls from ez];show af);have a1:=i.trans Z;have Y:=(s.trans sN).trans Z;show#[pc,.ref lw.2.2.1,rfl,by rw[<-P];show DGet.k (k:=Sum.inr z.2.1) (Y.get ac),?_];apply cN (SqT.of (a1.get (h4 lw ax).2)) ?_;let#[sc,u1,u2]:=(j.same sN).same Z;apply jD u1 ?_;apply cN (SqT.of u2) ?_;symm;have ai:k.2=v.2+1:=by rw[ab]
   show#[G,D,F,z.2.1,_,rfl,Z.get (sN.get A),(),λr H4 v0 v1 s4 er m0 m1=>?_];apply jD (s4.get y1) ?_;apply hN v.2 _ _ (Xr ai) #[Y.trans s4,c',r,z.2.2.2,v,v0,v1,_,y2.same s4,hv,rfl,er,(),(),rfl]
  .symm;show q G _ D F i (sN.get A)
 .show Qw (Z2 (Qx K) (λσ H Q Q' hq z=>by
   let#[v,e,w,e',a,u,h1,h2,h3]:=z;show#[v,e,w,e',a,u,h1,h2,hq _ _ h3]) (λσ H Q Q' hq z=>#[z.1,λp hp=>hq _ _ (z.2 p hp)]))
def stD(st:Sd):PySem.PyData:=.tuple [.int st.1,.int st.2.1,.tuple ((st.2.2.map λn:Nat=>(n:Int)).map PySem.PyData.int)]
theorem VN(b:Sd):Sh 2 (stD b):=gU λd a=>by
 simp only[Ç,Þ,ć]at a;rcases a with rfl|rfl|rfl
 .show dU 1 _
 .show dU 1 _
 .show gU λd a=>by
   let#[i,_,rfl]:=Zl.mp a;show dU 0 i
theorem Ze{K:Ϗ}{b:Sd}(h:StT K H a b):Dp K H (.ref a) (stD b):=by
 let#[c,d,e]:=h;show .tup (SqT.of d) (.cons (.int _) (.cons (.int _) (.cons (Dp.intsT (SqT.of ?_)) .nil)));rw[e,Æ];rfl
abbrev gD:=ϐ×ϊ Nat×Int
def rG(z:gD×gD×Int):Nat:=cst z.2.1.2.1 z.1.2.1
def Xv(w:gD):PySem.PyData:=.tuple [.str w.1,.tuple ((w.2.1.map λn:Nat=>(n:Int)).map PySem.PyData.int),.int w.2.2]
def fkD(z:gD×gD×Int):PySem.PyData:=.tuple [.int (rG z:Nat),stD (mC z),.int z.2.2,Xv z.1,Xv z.2.1]
def xO(c:Nat)(z:gD×gD×Int):PySem.PyData:=.tuple [.int (c:Nat),fkD z]
theorem Ec(b:ϊ Int)(n:Nat):Sh (n+1) (.tuple (b.map PySem.PyData.int)):=gU λd a=>by
 let#[i,_,rfl]:=Zl.mp a;show dU n i
def JL{w:gD}(h:Hs.Sg w.1):Sh 2 (Xv w):=a1q (YS 1 h) (Ec _ 0) (dU 1 _)
theorem VP(b:Hs.Sg z.1.1)(e:Hs.Sg z.2.1.1):Sh 4 (xO c z):=gU λd a=>by
 simp only[Ç,Þ,ć]at a;rcases a with rfl|rfl
 .show dU 3 _
 .show gU λd a=>?_
  simp only[Ç,Þ,ć]at a;rcases a with rfl|rfl|rfl|rfl|rfl
  .show dU 2 _
  .show VN _
  .show dU 2 _
  .show JL b
  .show JL e
theorem qM:∀ns ms:ϊ Int,Nk.CmpDs (ns.map PySem.PyData.int) (ms.map PySem.PyData.int)
 |[],_=>.nil
 |_::_,[]=>.over
 |n::ns,m::ms=>.cons (.int n m) (qM ns ms)
def BJ(v w:gD):Nk.CmpD (Xv v) (Xv w):=.tup (.cons (.str _ _) (.cons (.tup (qM _ _)) (.cons (.int _ _) .nil)))
def QF(c d:Nat)(y z:gD×gD×Int):Nk.CmpD (xO c y) (xO d z):=.tup (.cons (.int _ _) (.cons (.tup (.cons (.int _ _) (.cons (.tup (.cons (.int _ _) (.cons (.int _ _) (.cons (.tup (qM _ _)) .nil)))) (.cons (.int _ _) (.cons (BJ _ _) (.cons (BJ _ _) .nil)))))) .nil))
def JM:PySem.PyData->Int
 |.tuple (.int c::_)=>c
 |_=>0
theorem VR(c d:Nat)(y z:gD×gD×Int):(Nk.Ba (xO c y) (xO d z)=true->JM (xO c y)<=JM (xO d z))/\(Nk.Ba (xO c y) (xO d z)=false->JM (xO d z)<=JM (xO c y)):=by
 have e:Nk.Ba (xO c y) (xO d z)=if PyData.eqv (.int (c:Nat)) (.int (d:Nat))=true then Nk.rD [fkD y] [fkD z]else decide ((c:Int)<(d:Int)):=by
  unfold xO;rw[Nk.Ba,Nk.rD,Nk.Ba]
 rw[e];change(_->(c:Int)<=(d:Int))/\(_->(d:Int)<=(c:Int));by_cases h:(c:Int)=(d:Int)
 .show #[λ_=>Int.le_of_eq h,λ_=>Int.le_of_eq h.symm]
 .rw [if_neg (by simp[PyData.eqv];show h)];show#[λh=>Int.le_of_lt (æ h),λh=>Int.not_lt.mp (ĺ h)]
theorem RD{K:Ϗ}{z:Wz}(h:WyT H z):Dp K H (.ref z.1) (Xv z.2):=by
 let#[c,a,b]:=h;show .tup (SqT.of a) (.cons (.str _) (.cons (Dp.intsT (SqT.of ?_)) (.cons (.int _) .nil)));rw[b,Æ];rfl
def Zf{K:Ϗ}{z:Fz}(h:FkA K H z):Dp K H (.ref z.1) (fkD z.2.2.2.2):=.tup (SqT.of h.1) (.cons (.int _) (.cons (Ze h.2.1) (.cons (.int _) (.cons (RD h.2.2.1) (.cons (RD h.2.2.2) .nil)))))
theorem RJ{c:ϊ (ϊ gD)}(m:z∈nZ c rs):z.2.2∈rs/\z.1∈c.getD z.2.2.toNat []/\z.2.1∈c.getD z.2.2.toNat []:=by
 let#[r,d,n]:=ó.mp m;let#[b,j,i]:=ó.mp n;let#[a,e,rfl]:=Zl.mp i;have h:=ñ.mp j;have e:=ñ.mp e;have g:∀k,k<↑(c.getD r.toNat [])->(c.getD r.toNat []).getD k default∈c.getD r.toNat []:=by
  generalize c.getD r.toNat []=l;intro k f;rw[Xs,Qr f];show Ó f
 show#[d,g a (),g b h]
inductive sp_f53(K:Ϗ)(vs:ϊ V)(H:Hp)(Q:VK)(E:XK):Prop
 |mk (f d:ό) (h:Nat) (a:ϵ) (b:L2S) (c:ϊ Int) (i:vs=[.ref f,.ref d]) (j:FnF K H f h a) (l:Fo.Wf h a) (m:HsG K H d b c) (n:Za a b) (o:∀N (S:ϊ Sd) (fz:ϊ Fq),↑(cF (b.map (aG a)) N)<=N->(∀x,x∈S↔Mm.Rch (Je (b.map (aG a)) N) (NT (b.map (aG a))) x)->(fz.map (·.2.1)).Nodup->Dj (QD c S) (Jk (Rz a (b.map (aG a))) S) (ji fz) (λ_ _=>False)->((∀z∈nZ (b.map (aG a)) (cF (b.map (aG a)) N),∀k,¬ji fz (mC z) k)->∀H',Same H H'->Q .non H')/\∀r H' (L:Nat) e g,Same H H'->H' r=!(.tup [.int (L:Nat),.str e,.str g])->(∃z∈nZ (b.map (aG a)) (cF (b.map (aG a)) N),∃k,ji fz (mC z) k/\L=rG z+k.1)->(∀z∈nZ (b.map (aG a)) (cF (b.map (aG a)) N),∀k,ji fz (mC z) k->L<=rG z+k.1)->Q (.ref r) H')
abbrev JN K:=(aA (bB (aN (aL pB (dZ K fY) (tI 0))) (aP (tC V.non)) aV)
  (aA (aK (gW (uC K) (cj fY)) (ak 6))
  (aA (aK (bN (sp_f57 K) (dY aQ (zc cC cX (tX K (tX K j6 1) 1) (bN (sp_f4 K) (cA bR (tX K j6 1)))))) (ak 7))
  (aP (cU (lg (tX K j6 0) (gW (qi K) (cj oN)) (gW (qi K) (cj oN))))))))
abbrev JP K:=(aA (aK (bN (sp_f41 K) (cA aQ bc)) (ak 3))
  (aA (aK (bN (sp_f68 K) (cA cC (tX K bc 1))) (ak 4))
  (aA (aK (jr [none,!4] (bY K (bN (sp_f66 K) (cA aQ bR))) (ak 0) (tB (Ye (tX K aQ 1) bc)) (cU (cA (aL bQ (tX K aQ 0) (tX K (nO bc (tX K aQ 1)) 0)) aQ))) (ak 5))
  (JN K))))
abbrev JQ K(E:XK)(Eh:XK):=(aA (aK (bN (sp_f56 K) (cA aQ bc)) (ak 2))
  (JP K))
abbrev zH:ϊ ϐ:=sN ["font","house","ways","onward","found","pairs","least","texts"]
theorem W3(h:sp_f53 K vs H Q E):RG (JQ K E) zH vs H Q:=by
 let#[f,ha,h,B,C,es,rfl,hF,wf,hH,sz,q]:=h;show#[E0,?_];have ac:=Bu wf sz;let#[af,aw,bi,b4]:=id sz;have S:↑(C.map (aG B))=↑C:=Qb _;have O:∀n∈C.map (aG B),↑n<=42:=λn a=>by
  let#[ps,ae,rfl]:=Zl.mp a;show Î (ď ..) (bi ps ae).1
 have a6:∀n∈C.map (aG B),∀w∈n,Fo.lk B w.1=!w.2.1:=λn a w t=>by
  let#[ps,ae,rfl]:=Zl.mp a;let#[p,mp,ep]:=ì.mp (show w∈ps.filterMap _ from t);let#[co,bl,rfl]:=Ï.mp ep;show bl
 have as:∀n∈C.map (aG B),∀w∈n,Hs.Sg w.1:=λn a w t=>wf.sg _ (ac n a w t).1.1
 have ad:∀n∈C.map (aG B),∀w∈n,↑w.1<=1:=λn a w t=>by
  let#[k,e]:=as n a w t;rw[e];show Ä _
 have A:∀{r:Nat}{w:gD},w∈(C.map (aG B)).getD r []->∃n∈C.map (aG B),w∈n:=λ{r w} t=>by
  rw[Xs]at t
  cases e:(C.map (aG B))[r]?with
  |none=>rw[e]at t;cases t
  |some n=>rw[e]at t;show#[n,Yf e,t]
 apply#[f,ha,h,B,C,es,rfl,hF,wf,hH,dG aw,λps ae=>by have:=(bi ps ae).1;show dG this,λwa H1 s1 b1 hW=>?_];apply#[f,ha,h,B,C,es,rfl,hF.same s1,wf,hH.same s1,sz,λoa H2 N gz s2 br hN e2 hg hl a8 hR=>?_];symm;let#[d,e,rs,a1,a2,a3,a4,a5]:=(hH.same s1).same s2;show dh a1 ?_;apply#[oa,e,gz,Rz B (C.map (aG B)),es,rfl,.inl e2,λz D=>#[(hg z D).1,(hg z D).2,?_],a8,hl,λz D u mu=>?_,SqT.of a5,λod fa H3 L be bm bv I hD=>?_]
 .rw [Qb,Xs]
  cases e:(C.map (aG B))[z.2.1.1.toNat]?with
  |none=>show à _
  |some n=>show O n (Yf e)
 .show (hR _).mpr (.step ((hR _).mp (Zl.mpr #[z,D,rfl])) ?_);let#[w,t,rfl]:=Zl.mp mu;show Zl.mpr #[w,t,rfl]
 let#[qn,qs]:=q N (gz.map (·.2.1)) L hN hR I.n hD;have S3:Same H1 H3:=λb o e=>be b o (λm=>by rw[Zs.mp m,br]at e;cases e) (s2.get e)
 have bg:∀z∈gz,StT K H3 z.1 z.2.1/\SsT K H3 z.2.2 (Rz B (C.map (aG B)) z.2.1):=λz D=>by
  have ne:∀{b:ό}{o:HO},H2 b=!o->(∀u,o≠cB oa u)->H3 b=!o:=λ{b o} e hn=>be.get (λm=>by rw[Zs.mp m,e2]at e;show hn _ (ß e).symm) e
  let#[#[c,g1,g2],#[zs,k1,k2,k3]]:=hg z D;show#[#[c,ne g1 λu q=>(by cases q),ne g2 λu q=>(by cases q)],zs,k1,ne k2 λu q=>(by cases q),λy my=>?_];let#[c',j1,bk,j2,j3]:=k3 y my;show#[c',ne j1 λu q=>(by cases q),bk,ne j2 λu q=>(by cases q),ne j3 λu q=>(by cases q)]
 have bd:=s1.trans S3;apply#[f,wa,h,B,C.map (aG B),rfl,hF.same bd,wf,hW.same S3,En af S,dG (oG S aw),λn a=>#[by have:=O n a;show dG this,λw t=>#[a6 n a w t,by rw[S];show(ac n a w t).2]],λfk H4 M s4 b0 hM ⟨kz,W,ax,ar⟩=>?_];rw[JB hM hN]at W;have bp:↑kz<=100000:=by
  have X:=uO O (cF (C.map (aG B)) N);rw[<-W,Qb]at X;have Y:=eO (l:=cF (C.map (aG B)) N) (m:=(List.range ↑C).map λi:Nat=>(i:Int)) (gM _ _ N) λr mr=>by
   let#[h0,X]:=fu (P:=λr:Int=>0<=r/\r<↑C) #[by decide,Xq af] (λp q' hp hq=>by
    let#[w,t,rfl]:=Zl.mp hq;let#[n,a,t]:=A t;show(ac n a w t).2) N r mr
   show Zl.mpr #[r.toNat,ñ.mpr (qtC X af),DP h0]
  rw[Qb,ú]at Y;rfl'
 have ap:∀z∈kz,z.2.2.2.2∈nZ (C.map (aG B)) (cF (C.map (aG B)) N):=λz D=>by rw[<-W];show Zl.mpr #[z,D,rfl]
 have ay:∀{H':Hp},Same H4 H'->FdT K H' fa L:=λs=>#[s.get (s4.get I.d),λf mf=>#[((I.s f mf).1.same s4).same s,s.get (s4.get (I.s f mf).2)],I.n]
 symm;walk_at "ns";show nY (λz:Fz=>V.ref z.1) (zs:=kz) (SqL.of ax) (dG bp) (λi ys H'=>(An2 (Same H4 H') (Ex1 λ(G:ϊ (ό×Nat×Fz))=>(An4 (ys=G.map (λu=>V.ref u.1)) (↑G<=i) (∀u∈G,H' u.1=!(.tup [.int (u.2.1:Nat),.ref u.2.2.1])/\u.2.2∈kz/\∃k,ji L (mC u.2.2.2.2.2.2) k/\u.2.1=rG u.2.2.2.2.2.2+k.1) (∀z∈kz.take i,∀k,ji L (mC z.2.2.2.2) k->∃u∈G,u.2.1=rG z.2.2.2.2+k.1))))) #[Same.refl _,[],rfl,Ä _,by simp,by simp] ?_ ?_ ?_ ?_
 .rintro i ys H' ⟨s,_⟩;show SqL.of (s.get ax)
 .rintro i ys H' ⟨_,G,rfl,ab,_⟩;rw[Qb];show ab
 .rintro i z ys H' hi ⟨s,G,rfl,ab,F,J⟩;have D:=Yf hi;let#[f1,f2,_,_]:=(ar z D).same s;have Z:=ay s;have ah:∀{H2:Hp},Same H' H2->∀U:ϊ (ό×Nat×Fz),U.length<=1->(∀u∈U,H2 u.1=!(.tup [.int (u.2.1:Nat),.ref u.2.2.1])/\u.2.2∈kz/\∃k,ji L (mC u.2.2.2.2.2.2) k/\u.2.1=rG u.2.2.2.2.2.2+k.1)->(∀k,ji L (mC z.2.2.2.2) k->∃u∈U,u.2.1=rG z.2.2.2.2+k.1)->(An2 (Same H4 H2) (Ex1 λ(ag:ϊ (ό×Nat×Fz))=>(An4 (G.map (λu=>V.ref u.1)++U.map (λu=>V.ref u.1)=ag.map (λu=>V.ref u.1)) (↑ag<=i+1) (∀u∈ag,H2 u.1=!(.tup [.int (u.2.1:Nat),.ref u.2.2.1])/\u.2.2∈kz/\∃k,ji L (mC u.2.2.2.2.2.2) k/\u.2.1=rG u.2.2.2.2.2.2+k.1) (∀z∈kz.take (i+1),∀k,ji L (mC z.2.2.2.2) k->∃u∈ag,u.2.1=rG z.2.2.2.2+k.1)))):=λ{H2} s2 U bq X Y=>by
   show#[s.trans s2,G++U,by rw[Wp],by rw[Â];show qkT ab bq,λu mu=>?_,λy my k hk=>?_]
   .rcases Å.mp mu with mu|mu
    .show #[s2.get (F u mu).1,(F u mu).2]
    .show X u mu
   .rw [Í,hi]at my;rcases Å.mp my with my|my
    .obtain ⟨u,mu,e⟩:=J y my k hk;show#[u,á _ mu,e]
    .have ey:y=z:=by simpa using my
     rw[ey]at hk⊢;let#[u,mu,e]:=Y k hk;show#[u,Û _ mu,e]
  apply dh f1 ?_;apply#[fa,_,rfl,SGet.of Z.d (n6 λf mf=>(Z.s f mf).1) f2.a,?_];by_cases m:mC z.2.2.2.2∈L.map (·.2.1)
  .obtain ⟨R,mf,ef⟩:=Zl.mp m;have ev:du (cM (mZ L)) (iy (mC z.2.2.2.2))=!(V.ref R.2.2.1):=by
    rw[<-ef];show jR (zs:=mZ L) (z:=(R.1,R.2.1,R.2.2.1)) (by rw[j7];show I.n) (Zl.mpr #[R,mf,rfl])
   rw[show du (cM (mZ L)) (iy (nQ z.2.2.2.2.1 z.2.2.2.2.2.1.2.2 z.2.2.2.2.2.1.2.1))=!(V.ref R.2.2.1)from ev];show#[true,rfl,CP ?_];apply cV (SqT.of f1) (aM (j:=0) (v:=.int (rG z.2.2.2.2:Nat)) (by rfl)) ?_;apply dh f1 ?_;apply#[fa,.ref R.2.2.1,rfl,by rw[<-ev];show SGet.of Z.d (n6 λf mf=>(Z.s f mf).1) f2.a,?_];apply fH (Z.s R mf).2 ?_;symm;intro p hp;rw[show((rG z.2.2.2.2:Nat):Int)+((R.2.2.2.1:Nat):Int)=((rG z.2.2.2.2+R.2.2.2.1:Nat):Int)by show rfl];show ah (aq hp _) [(p,rG z.2.2.2.2+R.2.2.2.1,z)] (Ä _) (λu mu=>?_) λk ⟨g,mg,e1,e2⟩=>#[_,É,?_]
   .rw [Zs.mp mu];show#[aa,D,R.2.2.2,#[R,mf,ef,rfl],rfl]
   .rw [<-e2,gV I.n mg mf (e1.trans ef.symm)]
  .rw [show du (cM (mZ L)) (iy (nQ z.2.2.2.2.1 z.2.2.2.2.2.1.2.2 z.2.2.2.2.2.1.2.1))=none from jG (by rw[j7];show m)];symm;have:=ah (Same.refl _) [] (à _) (by simp) λk ⟨g,mg,e1,_⟩=>absurd (Zl.mpr #[g,mg,e1]) m
   simpa using this
 rintro ys H5 ⟨s5,G,rfl,ab,F,J⟩ pa a9;rw[Ö]at J;have s6:=s5.new (o:=.lst (G.map λu=>V.ref u.1)) a9;have al:upd H5 pa (.lst (G.map λu=>V.ref u.1)) pa=!(.lst (G.map λu=>V.ref u.1)):=aa;replace F:∀u∈G,upd H5 pa (.lst (G.map λu=>V.ref u.1)) u.1=!(.tup [.int (u.2.1:Nat),.ref u.2.2.1])/\u.2.2∈kz/\∃k,ji L (mC u.2.2.2.2.2.2) k/\u.2.1=rG u.2.2.2.2.2.2+k.1:=λu mu=>#[az a9 (F u mu).1,(F u mu).2]
 generalize upd H5 pa (.lst (G.map λu=>V.ref u.1))=H6 at s6 al F⊢;have av:=bd.trans s4;apply wV al ?_;apply dw (λc=>?_) λc=>?_
 .symm;have bs:G=[]:=ħ.mp (Qe c);show qn (λz D k hk=>?_) _ (av.trans s6);rw[<-W]at D;let#[y,my,rfl]:=Zl.mp D;let#[u,mu,_]:=J y my k hk;rw[bs]at mu;cases mu
 symm;have ai:∀z∈kz,Hs.Sg z.2.2.2.2.1.1/\Hs.Sg z.2.2.2.2.2.1.1:=λz D=>by
  let#[_,m1,m2]:=RJ (ap z D);let#[w1,n1,o1]:=A m1;let#[w2,n2,o2]:=A m2;show#[as w1 n1 _ o1,as w2 n2 _ o2]
 show Qy (us:=G.map λu=>(V.ref u.1,xO u.2.1 u.2.2.2.2.2.2)) JM (by rw[Æ];show SqL.of al) (λe=>c (by rw[List.map_eq_nil_iff.mp e];rfl)) (λv mv=>?_) (λv mv w t=>?_) λv mv a7=>?_
 .obtain ⟨u,mu,rfl⟩:=Zl.mp mv;let#[X,Y,_]:=F u mu;have:=VP (c:=u.2.1) (ai _ Y).1 (ai _ Y).2;show#[.tup (SqT.of X) (.cons (.int _) (.cons (Zf ((ar _ Y).same s6)) .nil)),this.1,Î this.2 (by decide)]
 .obtain ⟨u,mu,rfl⟩:=Zl.mp mv;let#[u',bb,rfl]:=Zl.mp t;show#[QF _ _ _ _,VR _ _ _ _]
 let#[u,mu,rfl]:=Zl.mp mv;let#[X,Y,k,hk,ek]:=F u mu;let#[g1,g2,g3]:=RJ (ap _ Y);let#[w1,n1,o1]:=A g2;let#[w2,n2,o2]:=A g3;have am:=(ar _ Y).same s6;apply dh X ?_;apply dh am.1 ?_;apply dh X ?_;apply#[wa,C.map (aG B),u.2.2,N,rfl,((hW.same S3).same s4).same s6,En af S,dG (oG S aw),λn a=>#[by have:=O n a;show dG this,λw t=>#[ad n a w t,by rw[S];show(ac n a w t).2]],am,hN,g1,ad w1 n1 _ o1,ad w2 n2 _ o2,λta H7 t0 t1 s7 bn l0 l1=>?_];symm;have T:=s6.trans s7;show#[f,oa,fa,u.2.2.2.1,ta,h,B,gz,Rz B (C.map (aG B)),es,L,mC u.2.2.2.2.2.2,rfl,hF.same (av.trans T),wf,.inr #[od,T.get (s4.get bm)],λz D=>#[((bg z D).1.same s4).same T,((bg z D).2.same s4).same T],a8,λz D y my=>?_,ay T,?_,hD,am.2.1.same s7,#[k,hk],#[t0,t1,bn,l0,l1],λr H8 v0 v1 s8 er=>?_]
 .obtain ⟨w,t,rfl⟩:=Zl.mp my;let#[n,a,t]:=A t;show#[#[_,a6 n a w t],ad n a w t]
 .have:=eO (l:=L.map (·.2.1)) (m:=gz.map (·.2.1)) I.n λx mx=>by
   let#[g,mg,rfl]:=Zl.mp mx;rcases hD.s g.2.1 g.2.2.2 (.inl #[g,mg,rfl,rfl])with h|⟨_,_,_,h,_⟩
   .show h.1.1
   .show h.1
  rw[Qb,Qb]at this;rfl'
 apply fH (s8.get (s7.get X)) ?_;apply Ia (ss:=[v0,v1]) (SqT.of er) (by simp) λm1 b2=>?_
 apply Ia (ss:=[v0,v1]) (SqT.of er) (by simp) λm2 b3=>?_
 symm;intro p hp;show qs p _ u.2.1 m1 m2 (((av.trans T).trans s8).new hp) aa #[_,ap _ Y,k,hk,ek] λz D k' bo=>?_
 rw[<-W]at D;let#[y,my,rfl]:=Zl.mp D;let#[u',bb,e']:=J y my k' bo;have:=a7 _ (Zl.mpr #[u',bb,rfl]);have h9:(u.2.1:Int)<=(u'.2.1:Int):=this;show qfL (qcL h9) (e'.symm)
inductive sp_f61(K:Ϗ)(vs:ϊ V)(H:Hp)(Q:VK)(E:XK):Prop
 |mk (f d:ό) (h:Nat) (a:ϵ) (b:L2S) (c:ϊ Int) (e:vs=[.ref f,.ref d]) (g:FnF K H f h a) (i:Fo.Wf h a) (j:HsG K H d b c) (l:Za a b) (m:∀N (S:ϊ Sd) (fz:ϊ Fq),↑(cF (b.map (aG a)) N)<=N->(∀x,x∈S↔Mm.Rch (Je (b.map (aG a)) N) (NT (b.map (aG a))) x)->(fz.map (·.2.1)).Nodup->Dj (QD c S) (Jk (Rz a (b.map (aG a))) S) (ji fz) (λ_ _=>False)->((∀z∈nZ (b.map (aG a)) (cF (b.map (aG a)) N),∀k,¬ji fz (mC z) k)->∀H',Same H H'->Q .non H')/\∀H' (L:Nat),Same H H'->(∃z∈nZ (b.map (aG a)) (cF (b.map (aG a)) N),∃k,ji fz (mC z) k/\L=rG z+k.1)->(∀z∈nZ (b.map (aG a)) (cF (b.map (aG a)) N),∀k,ji fz (mC z) k->L<=rG z+k.1)->Q (.int (((L:Int)-1)/2)) H')
abbrev JR K(E:XK)(Eh:XK):=(aA (aK (bN (sp_f53 K) (cA aQ bc)) (ak 2))
  (aA (bB (aN (aL lW bR (tC V.non))) (aP (tC V.non)) aV)
  (aP (aL eN (aL pR (tX K bR 0) (tI 1)) (tI 2)))))
abbrev JS:ϊ ϐ:=sN ["font","house","told"]
theorem W4(h:sp_f61 K vs H Q E):RG (JR K E) JS vs H Q:=by
 let#[f,t,h,u,l,n,rfl,p,w,s,v,q]:=h;show#[E0,?_];apply#[f,t,h,u,l,n,rfl,p,w,s,v,λN S d g i j e=>#[λo k c=>?_,λr k L x y c m b a=>?_]]
 .symm;show(q N S d g i j e).1 o _ c
 .symm;rw[Ü (show¬V.ref r=V.non fromλz=>by cases z)];apply fH m ?_;apply(q N S d g i j e).2 _ L c b a
inductive sp_f14(K:Ϗ)(vs:ϊ V)(H:Hp)(Q:VK)(E:XK):Prop
 |mk (f:ό) (b:Nat) (a:ϵ) (s:ϐ) (c:ϊ Nat) (d:vs=[.ref f,.str s]) (e:↑s<=100000) (g:FnT K H f b a) (h:(∀p∈a,Hs.Sg p.1)) (i:Fo.lk a s=!c) (j:∀r,H r=none->Q (.ref r) (upd H r (.lst (nv c))))
abbrev JT K(E:XK)(Eh:XK):=(aA (bB (jw K (bN (sp_f52 K) (cj bc))) (cD (ph K (tX K aQ 1)) (je K 2 (bO (ak 2) (bO (ak 3) jk))) (bB (aN (aL pB bR bc)) (aP (gW (gK K) (cj cC))) aV)) aV)
  cQ)
abbrev JV:ϊ ϐ:=sN ["font","sign","letter","columns"]
theorem W5(h:sp_f14 K vs H Q E):RG (JT K E) JV vs H Q:=by
 let#[f,L,m,s,c,rfl,F,B,k,u,q]:=h;show#[E0,?_];let#[l,y,I,t,C,x,A]:=B.at;apply#[.str s,rfl,F,?_];rw[zf (k _ (Fo.bI u))];apply UV y ?_;show tG (λz:Lz=>V.ref z.1) t (λi d v=>(An3 (H=v) (Fo.lk (m.drop i) s=!c) (Ex2 λn o=>d=[!(.ref f),!(.str s),n,o]))) #[rfl,u,none,none,rfl] ?_ ?_ ?_
 .rintro i d _ ⟨rfl,_⟩;show t
 .rintro i ⟨b,G,J,w⟩ d _ g ⟨rfl,e,n,o,rfl⟩;have p:=A _ (Yf g);dsimp only at p;have j:i<↑I:=(À.mp g).1;have a:m.drop i=(G,w)::m.drop (i+1):=by
   rw[<-x,ĳ (by simpa using j),õ,(À.mp g).2]
  rw[a,Fo.j5]at e;apply dB p.1 rfl ?_;apply dw (λc=>?_) λc=>?_
  .symm;show mW p.2 λr D=>?_
   rw[if_pos c]at e
   cases e;show q r D
  .symm;show#[rfl,by rw[if_neg c]at e;show e,_,_,rfl]
 .rintro d _ ⟨rfl,e,n,o,rfl⟩;rw[C,List.drop_length]at e
  cases e
inductive sp_f12(K:Ϗ)(vs:ϊ V)(H:Hp)(Q:VK)(E:XK):Prop
 |mk (n:Nat) (a:vs=[.int n]) (b:1<=n) (c:n<=40) (d:Q .non H)
abbrev JW(K:Ϗ)(E:XK)(Eh:XK):=(bB (lE (aN (kI CZ CZ (tI 1) aQ (tI 40)))) cQ aV)
abbrev JX:ϊ ϐ:=sN ["rooms"]
theorem W6(h:sp_f12 K vs H Q E):RG (JW K E) JX vs H Q:=by
 let#[n,rfl,a,b,q]:=h;show#[E0,?_];symm;rw[Ù (by show qd1 a:(1:Int)<=n),Ù (by rfl':(n:Int)<=40)];apply q
inductive sp_f17(K:Ϗ)(vs:ϊ V)(H:Hp)(Q:VK)(E:XK):Prop
 |mk (r:Int) (n:Nat) (a:vs=[.int r,.int n]) (b:0<=r) (c:r<n) (d:Q .non H)
abbrev JZ K(E:XK)(Eh:XK):=(bB (lE (qU (jw K (bN (sp_f44 K) (cj aQ))) (aN (kI CZ rB (tI 0) aQ bc)))) cQ aV)
abbrev K1:ϊ ϐ:=sN ["room","rooms"]
theorem W7(h:sp_f17 K vs H Q E):RG (JZ K E) K1 vs H Q:=by
 let#[r,n,rfl,a,b,q]:=h;show#[E0,?_];apply#[_,rfl,trivial,?_];symm;change if true=true then _ else _
 symm;rw[Ù a,Ù b];apply q
inductive sp_f23(K:Ϗ)(vs:ϊ V)(H:Hp)(Q:VK)(E:XK):Prop
 |mk (a:ό) (b:ϊ Dz) (n:Nat) (c:vs=[.ref a,.int n]) (d:SqL K H a (b.map λz:Dz=>V.ref z.1)) (e:(∀z∈b,SqT K H z.1 [.str z.2.1,.int z.2.2]/\Hs.Sg z.2.1/\0<=z.2.2/\z.2.2<n)) (f:(b.map (·.2.1)).Nodup) (g:↑b<64) (h:∀r H' ps,Same H H'->DrT K H' r ps->ps.Perm (b.map (·.2))->(ps.map (·.1)).Pairwise lC->Q (.ref r) H')
abbrev K3 K:=(aA (cD (bY K aQ) (je K 2 (bO (ak 3) (bO (ak 4) jk))) (aA (bB (lE (jw K (bN (sp_f52 K) (cj cC)))) cQ aV)
  (aA (bB (tB (Oh cC bR)) cQ aV)
  (aA (cG (bN (sp_f17 K) (cA cX bc)))
  (jb bR cC cX)))))
  (aP (gW (dN K) (cj (Aq bR)))))
abbrev K4 K(E:XK)(Eh:XK):=(aA (aK kJ (ak 2))
  (K3 K))
abbrev K5:ϊ ϐ:=sN ["pairs","rooms","made","sign","room"]
theorem W8(h:sp_f23 K vs H Q E):RG (K4 K E) K5 vs H Q:=by
 let#[a,c,n,rfl,N,hz,F,v,q]:=h;show#[E0,?_];symm;intro m D;symm;have e:∀R∈[m],H R=none:=λR j=>by rw[Zs.mp j];show D
 show fK (λz:Dz=>V.ref z.1) (zs:=c) (jO D N) (λi A o=>(An3 (Sb [m] H o) (o m=!(.dK ((c.take i).map λz:Dz=>((Sum.inr z.2.1:Key),V.int z.2.2)))) (Ex2 λG I=>A=[!(.ref a),!(.int (n:Nat)),!(.ref m),G,I]))) #[Sb.of (aq D _),aa,none,none,rfl] ?_ ?_ ?_
 .rintro i A o ⟨l,_⟩;show l.seq e N
 .rintro i ⟨b,s,r⟩ A o C ⟨l,u,G,I,rfl⟩;have Z:i<↑c:=(À.mp C).1;let#[X,J,U,W]:=hz _ (Yf C);dsimp only at X J U W;have M:c.take (i+1)=c.take i++[(b,s,r)]:=by rw[Í,C];rfl
  have w:(Sum.inr s:Key)∉(c.take i).map λz:Dz=>(Sum.inr z.2.1:Key):=by
   intro z;let#[y,my,Y]:=Zl.mp z;have B:y.2.1=s:=ě Y;have d:((c.take (i+1)).map (·.2.1)).Nodup:=Č ((ī _ _).map _) F;rw[M,Wp,â]at d;show d.2.2 _ (Zl.mpr #[y,my,rfl]) s (by simp) B
  have P:=fj (f:=λz:Dz=>(Sum.inr z.2.1:Key)) (g:=λz:Dz=>V.int z.2.2) w;show dB ((l.off e).tup X) rfl ?_;apply#[_,rfl,by let#[k,rfl]:=J;change↑(tx [Hs.lD k])<=100000;rw[bH];simp,?_];rw[zf J];apply#[m,_,rfl,DGet.k (k:=Sum.inr s) u,?_];rw[P];symm;change if false=true then _ else _
  apply#[r,n,rfl,U,W,?_];apply#[m,_,rfl,DPut.k (k:=Sum.inr s) u (Õ (by rw[Qb,Ô];show Xp (ï v):_<=64) (by decide)),?_];rw[dJ _ P];apply#[l.set (by simp),by rw[aa,M,Wp];rfl,_,_,rfl]
 .rintro A o ⟨l,u,G,I,rfl⟩;rw[Ö]at u;have S:=l.off e;apply#[m,c.map λz:Dz=>(z.2.1,V.int z.2.2),rfl,by rw[Æ];show u,by rw[Qb];show v,λr x H2 hp hs hr s2 B hw=>?_];apply iY (SqL.of B) λt O=>?_
  have j:(x.map (·.2)).Perm ((c.map (·.2)).map λp:ϐ×Int=>(p.1,V.int p.2)):=by rw[Æ];show hp
  let#[T,pp,L]:=xg j;show q t _ T ((S.trans s2).new O) (DrT.of aa (λz mz=>az O (hw z mz)) L) pp ?_;have:(x.map (·.2.1))=T.map (·.1):=by
   rw[show x.map (·.2.1)=(x.map (·.2)).map (·.1)by rw[Æ];rfl,L,Æ];rfl
  rw[<-this];show hs
inductive sp_f40(K:Ϗ)(vs:ϊ V)(H:Hp)(Q:VK)(E:XK):Prop
 |mk (a:ό) (b:ϊ Int) (n:Nat) (c:vs=[.ref a,.int n]) (d:SqL K H a (b.map V.int)) (e:(∀x∈b,0<=x/\x<n)) (f:b.Nodup) (g:↑b<64) (h:∀r H' (es:ϊ Int),Same H H'->H' r=!(.tup (es.map V.int))->es.Perm b->es.Pairwise (·<·)->Q (.ref r) H')
abbrev K6 K(E:XK)(Eh:XK):=(aA (aK kJ (ak 2))
  (aA (cD (bY K aQ) (ak 3) (aA (cG (bN (sp_f17 K) (cA cC bc)))
  (aA (bB (tB (Oh cC bR)) cQ aV)
  (jb bR cC (tC (V.bl true))))))
  (aP (gW (dN K) (cj (gW ut (cj bR)))))))
abbrev K7:ϊ ϐ:=sN ["ends","rooms","made","end"]
theorem W9(h:sp_f40 K vs H Q E):RG (K6 K E) K7 vs H Q:=by
 let#[a,c,n,rfl,C,R,w,j,q]:=h;show#[E0,?_];symm;intro m v;symm;have l:∀G∈[m],H G=none:=λG x=>by rw[Zs.mp x];show v
 show fK V.int (zs:=c) (jO v C) (λi s d=>(An3 (Sb [m] H d) (d m=!(.dK ((c.take i).map λz:Int=>((Sum.inl z:Key),V.bl true)))) (Ex1 λA=>s=[!(.ref a),!(.int (n:Nat)),!(.ref m),A]))) #[Sb.of (aq v _),aa,none,rfl] ?_ ?_ ?_
 .rintro i s d ⟨p,_⟩;show p.seq l C
 .rintro i r s d u ⟨p,e,A,rfl⟩;have M:i<↑c:=(À.mp u).1;let#[U,W]:=R _ (Yf u);have B:c.take (i+1)=c.take i++[r]:=by rw[Í,u];rfl
  have o:(Sum.inl r:Key)∉(c.take i).map λz:Int=>(Sum.inl z:Key):=by
   intro z;let#[y,T,L]:=Zl.mp z;have I:y=r:=Sum.inl.inj L;have b:(c.take (i+1)).Nodup:=Č (ī _ _) w;rw[B,â]at b;show b.2.2 _ T r (by simp) I
  have F:=fj (f:=λz:Int=>(Sum.inl z:Key)) (g:=λ_:Int=>V.bl true) o;apply#[r,n,rfl,U,W,?_];apply#[m,_,rfl,DGet.k (k:=Sum.inl r) e,?_];rw[F];symm;change if false=true then _ else _
  apply#[m,_,rfl,DPut.k (k:=Sum.inl r) e (Õ (by rw[Qb,Ô];show Xp (ï j):_<=64) (by decide)),?_];rw[dJ _ F];apply#[p.set (by simp),by rw[aa,B,Wp];rfl,_,rfl]
 .rintro s d ⟨p,e,A,rfl⟩;rw[Ö]at e;have S:=p.off l;apply HH (kvs:=c.map λz:Int=>(z,V.bl true)) (by rw[Æ];show e) (by rw[Qb];show j) λr J D O N=>?_
  rw[Æ]at D;apply iY (SqL.of aa) λt P=>?_
  show q t _ J ((S.new N).new P) aa (by simpa[Function.comp_def]using D) O
inductive sp_f22(K:Ϗ)(vs:ϊ V)(H:Hp)(Q:VK)(E:XK):Prop
 |mk (d e:ό) (a:ϊ (ό×ϊ Dz)) (c:ϊ Int) (f:vs=[.ref d,.ref e]) (g:SqL K H d (a.map λr:ό×ϊ Dz=>V.ref r.1)) (h:(∀b∈a,SqL K H b.1 (b.2.map λz:Dz=>V.ref z.1)/\(∀z∈b.2,SqT K H z.1 [.str z.2.1,.int z.2.2]/\Hs.Sg z.2.1/\0<=z.2.2/\z.2.2<↑a)/\(b.2.map (·.2.1)).Nodup/\↑b.2<64)) (i:SqL K H e (c.map V.int)) (j:(∀x∈c,0<=x/\x<↑a)) (k:c.Nodup) (l:↑c<64) (m:1<=↑a) (n:↑a<=40) (o:∀r H' ds es,Same H H'->HsT K H' r ds es->Hs.Srt a ds->es.Perm c->es.Pairwise (·<·)->Q (.ref r) H')
abbrev K8 K(E:XK)(Eh:XK):=(aA (aK (dZ K aQ) (ak 2))
  (aA (cG (bN (sp_f12 K) (cj bR)))
  (aP (cU (cA (gW (dN K) (cj (jr [none,!2] (bY K aQ) (ak 0) cZ (bN (sp_f23 K) (cA aQ bc))))) (bN (sp_f40 K) (cA bc bR)))))))
abbrev zJ:ϊ ϐ:=sN ["doors","ends","rooms"]
theorem Wa(h:sp_f22 K vs H Q E):RG (K8 K E) zJ vs H Q:=by
 let#[d,e,c,xs,rfl,y,n,hE,hx,J,I,D,F,q]:=h;show#[E0,?_];apply cg y ?_;rw[Qb];apply#[↑c,rfl,D,F,?_];apply nY (λr:ό×ϊ Dz=>V.ref r.1) (zs:=c) y () (λk u i=>(Ex1 λ(g:ϊ (ό×L1S))=>(An4 (u=g.map (λt=>V.ref t.1)) (↑g=k) (Same H i) (∀(j:Nat) t,g[j]?=!t->DrT K i t.1 t.2/\∀b,c[j]?=!b->t.2.Perm (b.2.map (·.2))/\(t.2.map (·.1)).Pairwise lC)))) #[[],rfl,rfl,Same.refl _,by simp] ?_ ?_ ?_ ?_
 .rintro k u i ⟨g,rfl,_,s,_⟩;show s.seq y
 .rintro k u i ⟨g,rfl,rfl,_⟩;simp
 .rintro k b u i l ⟨g,rfl,B,s,o⟩;let#[g1,L,g3,g4]:=n b (Yf l);apply#[b.1,b.2,↑c,rfl,s.seq g1,λz m=>#[s.tup (L z m).1,(L z m).2],g3,g4,λr H2 M O A C hs=>?_];show#[g++[(r,M)],by simp,by simp[B],s.trans O,λj t f=>?_];rcases Ġ j ↑g with w|w
  .rw [ê w]at f;show#[(o j t f).1.same O,(o j t f).2]
  .rw [å w]at f;have W:j-↑g=0:=by
    have:=(À.mp f).1;simp at this;rfl'
   rw[W]at f
   cases f;have x:j=k:=()
   subst x;show#[A,λN a=>?_];rw[l]at a
   cases a;show#[C,hs]
 rintro u T ⟨g,rfl,B,P,o⟩ p C;apply iY (SqL.of aa) λtd G=>?_
 apply#[e,xs,↑c,rfl,jO G (jO C (P.seq hE)),hx,J,I,λte U Y R X pe se=>?_];symm;intro h v;have S:Same T U:=Same.trans (by walk_at "sm") R;show q h _ (g.map (·.2)) Y (P.trans (S.new v)) #[td,te,g,aa,rfl,az v (R.get aa),λt m=>?_,az v X] #[by rw[Qb,B],λj M b f a=>?_] pe se
 .obtain ⟨j,f,x⟩:=ă.mp m;show(o j t (by rw[Qr f,x])).1.same (S.new v)
 .rw [Jn]at f;let#[t,Z,rfl]:=Ï.mp f;show(o j t Z).2 b a
theorem K9{K:Ϗ}{c:ϊ Int}(h:HsG K H a ds c):∃(d e:ό),SqT K H a [.ref d,.ref e]/\SqT K H e (c.map V.int)/\∃rs:ϊ ό,SqT K H d (rs.map V.ref)/\↑rs=↑ds/\∀{r:Int},0<=r->r<↑ds->∃b,xN (rs.map V.ref) r=!(.ref b)/\DrG K H b (ds.getD r.toNat []):=by
 let#[d,e,rs,j,rfl,k,l,m]:=h;show#[d,e,SqT.of j,SqT.of m,rs.map (·.1),by rw[Æ];show k,by simp,λ{r} f i=>?_];rw[Qb]at i;have g:r.toNat<↑rs:=()
 show#[rs[r.toNat].1,?_,?_]
 .rw [uF f (by simpa using g)];simp
 .rw [Hs.getD_at f (by rw[Qb];show i),õ];show l _ (Ó g)
inductive sp_f13(K:Ϗ)(vs:ϊ V)(H:Hp)(Q:VK)(E:XK):Prop
 |mk (a:ό) (b:L1S) (s:ϐ) (c:vs=[.ref a,.str s]) (d:DrG K H a b) (e:Q (ov (Hs.dr b s)) H)
abbrev Ka K(E:XK)(Eh:XK):=(aA (cD (ph K aQ) (je K 2 (bO (ak 2) (bO (ak 3) jk))) (bB (aN (aL pB bR bc)) (aP cC) aV))
  (aP (tC V.non)))
abbrev Kc:ϊ ϐ:=sN ["doors","sign","letter","room"]
theorem Wb(h:sp_f13 K vs H Q E):RG (Ka K E) Kc vs H Q:=by
 let#[a,A,s,rfl,k,q]:=h;let#[g,rfl,t,n]:=k;have x:∀z∈g,SqT K H z.1 [.str z.2.1,.int z.2.2]:=λz y=>SqT.of (n z y)
 show#[E0,?_];apply tG (λz:ό×ϐ×Int=>V.ref z.1) t (λi j v=>(An3 (H=v) (Hs.dr (g.map (·.2)) s=Hs.dr ((g.map (·.2)).drop i) s) (Ex2 λo p=>j=[!(.ref a),!(.str s),o,p]))) #[rfl,rfl,none,none,rfl] ?_ ?_ ?_
 .rintro i j _ ⟨rfl,_⟩;show t
 .rintro i ⟨b,l,r⟩ j _ m ⟨rfl,e,o,p,rfl⟩;have u:=x _ (Yf m);dsimp only at u;have w:i<↑g:=(À.mp m).1;have d:(g.map (·.2)).drop i=(l,r)::(g.map (·.2)).drop (i+1):=by
   rw[ĳ (by simpa using w),õ,(À.mp m).2]
  rw[d,Hs.jP]at e;apply dB u rfl ?_;apply dw (λc=>?_) λc=>?_
  .symm;rw[e,if_pos c]at q;show q
  .symm;show#[rfl,by rw[e,if_neg c],_,_,rfl]
 .rintro j _ ⟨rfl,e,o,p,rfl⟩;symm;rw[e,<-Qb (f:=(·.2)),List.drop_length]at q;show q
inductive sp_f71(K:Ϗ)(vs:ϊ V)(H:Hp)(Q:VK)(E:XK):Prop
 |mk (a:ό) (b:L2S) (d:ϊ Int) (c:ϊ Nat) (e:vs=[.ref a,.str (tx c)]) (f:HsG K H a b d) (g:Hs.Wf b) (h:Q (ov (Hs.go b c)) H)
abbrev Kd K(E:XK)(Eh:XK):=(aA (aK (tI 0) (ak 2))
  (aA (cD (CV bc) (ak 3) (aA (aK (bN (sp_f13 K) (cA (aL (fO K) (tX K aQ 0) bR) cC)) (ak 2))
  (bB (aN (aL lW bR (tC V.non))) (aP (tC V.non)) aV)))
  (aP bR)))
abbrev Ke:ϊ ϐ:=sN ["house","text","room","sign"]
theorem Wc(h:sp_f71 K vs H Q E):RG (Kd K E) Ke vs H Q:=by
 let#[a,j,C,f,rfl,w,B,q]:=h;show#[E0,?_];let#[d,e,t,D,F,u,A,v]:=K9 w;apply Hw (λi l m=>(An2 (H=m) (Ex2 λr o=>(An2 (Hs.go j (f.take i)=!r) (l=[!(.ref a),!(.str (tx f)),!(.int r),o]))))) #[rfl,0,none,rfl,rfl] ?_ ?_
 .rintro i c l _ y ⟨rfl,r,o,g,rfl⟩;have k:f[i]?=!c:=by simpa[tx]using y
  have n:f.take (i+1)=f.take i++[c]:=by rw[Í,k];rfl
  let#[p,s]:=Hs.Bj B g;let#[b,x,z]:=v p s;have step:Hs.go j (f.take (i+1))=Hs.dr (j.getD r.toNat []) (tx [c]):=by rw[n,Hs.uI,g];rfl
  apply YF t ?_;apply cV u x ?_;apply#[b,_,tx [c],rfl,z,?_];rw[<-step];clear step;generalize er2:Hs.go j (f.take (i+1))=go2
  cases go2 with
  |none=>
   apply jX rfl ?_;symm;have:=Hs.Qp (ys:=f.drop (i+1)) er2;rw[Ē]at this;rw[this]at q;show q
  |some r2=>
   apply jB (by intro h;cases h) ?_;apply#[rfl,r2,_,rfl,rfl]
 .rintro l _ ⟨rfl,r,o,g,rfl⟩;rw[show(tx f).cps.size=↑f from rfl,Ö]at g;rw[g]at q;apply q
inductive sp_f64(K:Ϗ)(vs:ϊ V)(H:Hp)(Q:VK)(E:XK):Prop
 |mk (a:ό) (b:L2S) (d:ϊ Int) (c:ϊ Nat) (e:vs=[.ref a,.str (tx c)]) (f:HsG K H a b d) (g:Hs.Wf b) (h:Q (.bl (inV (ov (Hs.go b c)) (d.map V.int))) H)
abbrev Kf K(E:XK)(Eh:XK):=(aP (aL (El K false) (bN (sp_f71 K) (cA aQ bc)) (tX K aQ 1)))
abbrev Kg:ϊ ϐ:=sN ["house","text"]
theorem Wd(h:sp_f64 K vs H Q E):RG (Kf K E) Kg vs H Q:=by
 let#[a,f,g,c,rfl,b,l,q]:=h;show#[E0,?_];let#[d,e,i,j,o,m,k,n]:=K9 b;apply#[a,f,g,c,rfl,b,l,?_];apply UV i ?_;apply HF (.inr j) (Qo _) (jC _) q
abbrev Pz:=ό×V×V
def ofD(z:Dz):Pz:=(z.1,.str z.2.1,.int z.2.2)
def a1r(n:Nat)(zs:ϊ Dz):Prop:=(zs.map (·.2.1)).Nodup/\∀z∈zs,Hs.Sg z.2.1/\0<=z.2.2/\z.2.2<n
def a1s(n:Nat)(is:ϊ Int):Prop:=is.Nodup/\∀i∈is,0<=i/\i<n
def ofR(r:ό×ϊ Dz):ό×ϊ Pz:=(r.1,r.2.map ofD)
structure GoodH(ds:L2S)(es:ϊ Int):Prop where
 r1:1<=↑ds
 r2:↑ds<=40
 sr:∀ps∈ds,(ps.map (·.1)).Pairwise lC
 ln:∀ps∈ds,↑ps<=62
 sg:∀ps∈ds,∀p∈ps,Hs.Sg p.1/\0<=p.2/\p.2<↑ds
 ei:es.Pairwise (·<·)
 el:↑es<=62
 er:∀e∈es,0<=e/\e<↑ds
def PdR(ds:L2S)(es:ϊ Int)(s:ϐ)(ds':L2S):Prop:=
 ↑ds'=↑ds+1/\∀(j:Nat) ps',ds'[j]?=!ps'->ps'.Perm ((ds++[[]]).getD j []++if(j:Int)∈es++[(↑ds:Int)]then[(s,(↑ds:Int))]else[])/\(ps'.map (·.1)).Pairwise lC
theorem zK{b:L1S}:Hs.dr b s=none↔s∉b.map (·.1):=by
 unfold Hs.dr;rw[Ů,Ļ];show#[λh m=>?_,λh p a e=>h (Zl.mpr #[p,a,æ e])];let#[p,a,e]:=Zl.mp m;show h p a (Ù e)
theorem uR{l:ϊ ϐ}(h:l.Pairwise lC):l.Nodup:=h.imp λ{a b} h e=>by
 subst e;show Ő _ h
theorem getD_at{a:Type}{l:ϊ a}{d x:a}(h:l[j]?=!x):l.getD j d=x:=by rw[Xs,h];rfl
theorem We(h:Hs.Sg s):Thing H (.str s):=by
 let#[k,rfl]:=h;change↑(tx [Hs.lD k])<=100000;rw[bH];simp
inductive sp_f58(K:Ϗ)(vs:ϊ V)(H:Hp)(Q:VK)(E:XK):Prop
 |mk (h:ό) (s:ϐ) (a:L2S) (b:ϊ Int) (c:vs=[.ref h,.str s]) (d:HsG K H h a b) (e:GoodH a b) (f:Hs.Sg s) (g:(∀ps∈a,Hs.dr ps s=none)) (i:↑a<40) (j:∀r H' ds',Same H H'->HsT K H' r ds' (b++[(↑a:Int)])->PdR a b s ds'->Q (.ref r) H')
abbrev Kh K:=(aA (aK (aL yg (jr [none] (ph K (tX K aQ 0)) (ak 0) cZ (gW (gK K) (cj aQ))) (fC (cj (fC f9)))) (ak 4))
  (aA (aK (aL yg (gW (gK K) (cj (tX K aQ 1))) (fC (cj cC))) (ak 5))
  (aA (cD (bY K fY) (ak 6) (cG (qT K "list" cI (aL (cu K) cX j6) (cj (cU (cA bc cC))))))
  (aP (bN (sp_f22 K) (cA cX fY))))))
abbrev Kl K(E:XK)(Eh:XK):=(aA (bB (lE (jw K (bN (sp_f52 K) (cj bc)))) cQ aV)
  (aA (cD (ph K (tX K aQ 0)) (ak 2) (bB (aN (aL mO (bN (sp_f13 K) (cA bR bc)) (tC V.non))) cQ aV))
  (aA (aK (dZ K (tX K aQ 0)) (ak 3))
  (Kh K))))
abbrev zL:ϊ ϐ:=sN ["house","filler","pairs","last","doors","ends","end"]
theorem Wg(h:sp_f58 K vs H Q E):RG (Kl K E) zL vs H Q:=by
 let#[h,s,n,G,rfl,hH,L,sg,a5,bs,q]:=h;show#[E0,?_];apply#[.str s,rfl,We sg,?_];rw[zf sg];symm;let#[d,e,rs,h1,ac,h3,h4,h5]:=hH;have a8:↑rs=↑n:=by rw[<-ac,Qb]
 have bv:=L.r2;have i0:∀{B:Hp}{Q:VK},Same H B->Q (.ref d) B->fO K (.ref h) (.int 0) B Q:=λs h=>cV (SqT.of (s.get h1)) (aM (j:=0) (v:=.ref d) rfl) h
 have i1:∀{B:Hp}{Q:VK},Same H B->Q (.ref e) B->fO K (.ref h) (.int 1) B Q:=λs h=>cV (SqT.of (s.get h1)) (aM (j:=1) (v:=.ref e) rfl) h
 apply i0 (Same.refl _) ?_;show tG (λr:ό×L1S=>V.ref r.1) h3 (λi X B=>(An2 (B=H) (Ex1 λo=>X=[!(.ref h),!(.str s),o,none,none,none,none]))) #[rfl,none,rfl] ?_ ?_ ?_
 .rintro i X _ ⟨rfl,_⟩;show h3
 .rintro i r X _ W ⟨rfl,o,rfl⟩;have ae:n[i]?=!r.2:=by rw[<-ac,Jn,W];rfl
  apply#[r.1,r.2,s,rfl,h4 r (Yf W),?_];rw[a5 r.2 (Yf ae)];apply gC rfl ?_;apply#[rfl,_,rfl]
 .rintro X _ ⟨rfl,o,rfl⟩;rename_i H;apply i0 (Same.refl _) ?_;apply cN h3 ?_;rw[Qb,a8];apply i0 (Same.refl _) ?_;show V1 (λr:ό×L1S=>V.ref r.1) h3 () (λi ys B=>(Ex1 λ(a:ϊ (ό×ϊ Dz))=>(An5 (ys=a.map (λr:ό×ϊ Dz=>V.ref r.1)) (a.map (λr=>r.2.map (·.2))=n.take i) (Rws B a) (Same H B) (∀r∈a,H r.1=none)))) #[[],rfl,rfl,#[by simp,by simp],Same.refl _,by simp] ?_ ?_ ?_ ?_
  .rintro i ys B ⟨a,_,_,_,s',_⟩;show s'.tup h3
  .rintro i ys B ⟨a,rfl,er,_⟩;have:=Ý List.length er;rw[Qb,Ô]at this;rw[Qb];rfl'
  .rintro i r ys B W ⟨a,rfl,er,Y,s',hf⟩;have ae:n[i]?=!r.2:=by rw[<-ac,Jn,W];rfl
   let#[zs,ez,z1,z2]:=(h4 r (Yf W)).same s';apply mW z1 λl hl=>?_
   show#[a++[(l,zs)],by simp,?_,#[?_,λg mr=>?_],s'.new hl,λr' mr'=>?_]
   .rw [Wp,er,Í,ae];change _++[zs.map (·.2)]=_;rw[ez];rfl
   .rw [Wp,â];show#[Y.1,by simp,λu mu w N e=>?_];let#[g,y,rfl]:=Zl.mp mu;have al:w=l:=by simpa using N
    have:=(Y.2 g y).1;rw[e,al,hl]at this
    cases this
   .rcases Å.mp mr with mr|mr
    .show (Y.same (aq hl _)).2 g mr
    .rw [Zs.mp mr];show#[aa,λz mz=>az hl (z2 z mz)]
   .rcases Å.mp mr' with mr'|mr'
    .show hf r' mr'
    .rw [Zs.mp mr'];show s'.free hl
  .rintro ys H1 ⟨f,rfl,T,O,s1,a4⟩ p1 P;rw[a8,Ö]at T;have ag:↑f=↑n:=by have:=Ý List.length T;rwa[Qb]at this
   symm;intro A R;symm;intro p2 ah;apply wY (by walk_at "hp") aa (by rw[Qb,ag];change↑n+1<=_;rfl') λD hD=>?_
   symm;have S1:Same H1 (upd (upd (upd (upd H1 p1 (.lst (f.map λr:ό×ϊ Dz=>V.ref r.1))) A (.lst [])) p2 (.lst [.ref A])) D (.lst ((f.map λr:ό×ϊ Dz=>V.ref r.1)++[.ref A]))):=by walk_at "sm"
   have a2:Rws (upd (upd (upd (upd H1 p1 (.lst (f.map λr:ό×ϊ Dz=>V.ref r.1))) A (.lst [])) p2 (.lst [.ref A])) D (.lst ((f.map λr:ό×ϊ Dz=>V.ref r.1)++[.ref A]))) (f++[(A,[])]):=by
    show#[?_,λg mr=>?_]
    .rw [Wp,â];show#[O.1,by simp,λu mu w N e=>?_];let#[g,y,rfl]:=Zl.mp mu;have al:w=A:=by simpa using N
     have:=az (o':=HO.lst (f.map λr:ό×ϊ Dz=>V.ref r.1)) P (O.2 g y).1;rw[e,al,R]at this
     cases this
    .rcases Å.mp mr with mr|mr
     .show (O.same S1).2 g mr
     .rw [Zs.mp mr];show#[by walk_at "hp",λz mz=>absurd mz Þ]
   have bd:(upd (upd (upd (upd H1 p1 (.lst (f.map λr:ό×ϊ Dz=>V.ref r.1))) A (.lst [])) p2 (.lst [.ref A])) D (.lst ((f.map λr:ό×ϊ Dz=>V.ref r.1)++[.ref A]))) D=!(.lst ((f++[(A,[])]).map λr:ό×ϊ Dz=>V.ref r.1)):=by rw[aa,Wp];rfl
   have ax:D∉(f++[(A,([]:ϊ Dz))]).map (λr:ό×ϊ Dz=>r.1):=λm=>by
    let#[g,y,e]:=Zl.mp m;rcases Å.mp y with mr|mr
    .have:=(O.same ((((aq P (HO.lst (f.map λr:ό×ϊ Dz=>V.ref r.1))).new R (o:=HO.lst [])).new ah (o:=HO.lst [.ref A])))).2 g mr;rw[e,hD]at this
     cases this.1
    .rw [Zs.mp mr]at e;have e':A=D:=e;have:upd (upd (upd H1 p1 (.lst (f.map λr:ό×ϊ Dz=>V.ref r.1))) A (.lst [])) p2 (.lst [.ref A]) A=!(.lst []):=by walk_at "hp"
     rw[e',<-e']at this;rw[<-e']at hD;rw[hD]at this
     cases this
   have fD:H D=none:=s1.free ((((aq P (HO.lst (f.map λr:ό×ϊ Dz=>V.ref r.1))).new R (o:=HO.lst [])).new ah (o:=HO.lst [.ref A])).free hD);have as:H A=none:=s1.free ((aq P (HO.lst (f.map λr:ό×ϊ Dz=>V.ref r.1))).free R);have bk:∀r∈f++[(A,[])],H r.1=none:=λr mr=>by
    rcases Å.mp mr with mr|mr
    .show a4 r mr
    .rw [Zs.mp mr];show as
   have bg:(f++[(A,([]:ϊ Dz))]).map (λr:ό×ϊ Dz=>r.2.map λz:Dz=>z.2)=n++[[]]:=by rw[Wp,T];rfl
   have bq:↑(f++[(A,([]:ϊ Dz))])=↑n+1:=by simp[ag]
   have S2:=s1.trans S1;generalize(upd (upd (upd (upd H1 p1 (.lst (f.map λr:ό×ϊ Dz=>V.ref r.1))) A (.lst [])) p2 (.lst [.ref A])) D (.lst ((f.map λr:ό×ϊ Dz=>V.ref r.1)++[.ref A])))=H2 at*;generalize f++[(A,([]:ϊ Dz))]=rows1 at*;clear O s1 P R ah hD S1 a4 as T ag;show i1 S2 ?_;apply mW (SqT.of (S2.get h5)) λp3 a6=>?_
   symm;intro p4 a7;apply wY (by walk_at "hp") aa (by rw[Qb];have:=L.el;simp;rfl') λF hF=>?_
   symm;have S3:Same H2 (upd (upd (upd H2 p3 (.lst (G.map V.int))) p4 (.lst [.int (↑n:Nat)])) F (.lst (G.map V.int++[.int (↑n:Nat)]))):=by walk_at "sm"
   have U:(upd (upd (upd H2 p3 (.lst (G.map V.int))) p4 (.lst [.int (↑n:Nat)])) F (.lst (G.map V.int++[.int (↑n:Nat)]))) F=!(.lst ((G++[(↑n:Int)]).map V.int)):=by rw[aa,Wp];rfl
   have fF:H2 F=none:=((aq a6 (HO.lst (G.map V.int))).new a7 (o:=HO.lst [.int (↑n:Nat)])).free hF;generalize(upd (upd (upd H2 p3 (.lst (G.map V.int))) p4 (.lst [.int (↑n:Nat)])) F (.lst (G.map V.int++[.int (↑n:Nat)])))=H3 at S3 U;clear a6 a7 hF;walk_at "ns";have ay:F∉rows1.map (λr:ό×ϊ Dz=>r.1):=λm=>by
    let#[g,y,e]:=Zl.mp m;have:=(a2.2 g y).1;rw[e,fF]at this
    cases this
   have aw:=S3.get bd;have be:=a2.same S3;have SH:=S2.trans S3;have fin:∀{B:Hp},Sb (rows1.map λr:ό×ϊ Dz=>r.1) H3 B->Same H B:=λS b o e=>S b o (λm=>by
    let#[g,y,er]:=Zl.mp m;rw[<-er,bk g y]at e
    cases e) (SH b o e)
   have e9:(rows1.map λr:ό×ϊ Dz=>V.ref r.1)=(rows1.map λr:ό×ϊ Dz=>r.1).map V.ref:=by rw[Æ];rfl
   show fK V.int (zs:=G++[(↑n:Int)]) (SqL.of U) (λi X B=>(Ex1 λ(a:ϊ (ό×ϊ Dz))=>(An5 (Rws B a) (a.map (λr:ό×ϊ Dz=>r.1)=rows1.map (λr:ό×ϊ Dz=>r.1)) (∀(j:Nat) g,a[j]?=!g->g.2.map (λz:Dz=>z.2)=(n++[[]]).getD j []++if(j:Int)∈(G++[(↑n:Int)]).take i then[(s,(↑n:Int))]else[]) (Sb (rows1.map λr:ό×ϊ Dz=>r.1) H3 B) (Ex1 λo6=>X=[!(V.ref h),!(V.str s),o,!(V.int (↑n:Nat)),!(V.ref D),!(V.ref F),o6])))) #[rows1,be,rfl,λj g J=>?_,Sb.of (Same.refl _),none,rfl] ?_ ?_ ?_
   .have:=Ý (λl=>l[j]?) bg;simp only[Jn,J,Œ]at this;rw[getD_at this.symm];simp
   .rintro i X B ⟨a,_,_,_,S,_⟩;show SqL.of (S.get ay U)
   .rintro i x X B W ⟨a,Y,ea,M,S,o6,rfl⟩;have mx:=Yf W;have b0:0<=x/\x<(↑n+1:Nat):=by
     rcases Å.mp mx with mx|mx
     .have:=L.er x mx;rfl'
     .rw [Zs.mp mx];rfl'
    let#[j,rfl]:∃j:Nat,x=(j:Int):=#[x.toNat,()];have I:↑a=↑n+1:=by have:=Ý List.length ea;rw[Qb,Qb]at this;rfl'
    have J:j<↑a:=()
    have Z:(j:Int)∉(G++[(↑n:Int)]).take i:=λm=>by
     have nd:((G++[(↑n:Int)]).take (i+1)).Nodup:=Č (ī _ _) (by
      rw[â];show#[L.ei.imp λh e=>(),by simp,λu mu w N e=>by have:=L.er u mu;rw[Zs.mp N]at e;rfl'])
     rw[Í,W,â]at nd;show nd.2.2 _ m _ (by simp) rfl
    apply dF (SqL.of (S.get ax aw)) (aM (v:=.ref a[j].1) ?_) ?_
    .rw [e9,<-ea,Æ,Jn,Qr J];rfl
    have ab:=Y.2 _ (Ó J);apply d9 (SqL.of ab.1) ?_;symm;intro t ht;symm;have br:↑a[j].2<=1000:=by
     have h9:=Ý List.length (M j a[j] (Qr J));rw[Qb,if_neg Z,ô]at h9;rw[h9,Xs];rcases Ġ j ↑n with w|w
     .rw [ê w,Qr w];have:=L.ln _ (Ó w);change↑n[j]<=1000;rfl'
     .rw [å w,show j-↑n=0 by rfl'];show à _
    show fL (az ht ab.1) (by rw[Qb];rfl') ?_;symm;have a3:=(Y.same (aq ht (HO.tup [V.str s,V.int (↑n:Nat)]))).app (t:=t) (s:=s) (r:=(↑n:Int)) J aa;rw[Wp]at a3;show#[a.set j (a[j].1,a[j].2++[(t,s,(↑n:Int))]),a3,(Bk J _).trans ea,λk g hk=>?_,(S.new ht).set (by rw[<-ea];show Zl.mpr #[_,Ó J,rfl]),_,rfl];rw[Í,W];rw[ŝ]at hk;by_cases ap:j=k
    .subst ap;rw[if_pos rfl,if_pos J]at hk
     cases hk;rw[Wp,M j a[j] (Qr J),if_neg Z,ô,if_pos (Û _ (by simp))];rfl
    .rw [if_neg ap]at hk;rw[M k g hk];congr 1;have:(k:Int)∈(G++[(↑n:Int)]).take i++(!(j:Int)).toList↔(k:Int)∈(G++[(↑n:Int)]).take i:=by
      rw[Å];show#[λh=>h.elim id λh=>?_,.inl];have:(k:Int)=j:=by simpa using h
      rfl'
     by_cases c:(k:Int)∈(G++[(↑n:Int)]).take i
     .rw [if_pos c,if_pos (this.mpr c)]
     .rw [if_neg c,if_neg (λz=>c (this.mp z))]
   .rintro X B ⟨a,Y,ea,M,S,o6,rfl⟩;rw[Ö]at M;have I:↑a=↑n+1:=by have:=Ý List.length ea;rw[Qb,Qb]at this;rfl'
    have sf:=fin S;have bo:∀g∈a,∃(j:Nat),a[j]?=!g/\j<↑n+1:=λg mr=>by
     let#[j,J,ej]:=ă.mp mr;show#[j,by rw[Qr J,ej],()]
    have am:∀(j:Nat) p,p∈(n++[[]]).getD j []->∃ps∈n,p∈ps:=λj p C=>by
     rw[Xs]at C;rcases Ġ j ↑n with w|w
     .rw [ê w,Qr w]at C;show#[_,Ó w,C]
     .rw [å w]at C;rcases Nat.eq_zero_or_pos (j-↑n)with z|z
      .rw [z]at C;cases C
      .rw [ë (by simp;rfl')]at C;cases C
    have av:∀g∈a,a1r (↑n+1) g.2/\↑g.2<64:=λg mr=>by
     let#[j,J,af]:=bo g mr;have e:=M j g J;have hz:∀z∈g.2,Hs.Sg z.2.1/\0<=z.2.2/\z.2.2<(↑n+1:Nat):=λz mz=>by
      have:z.2∈g.2.map (λz:Dz=>z.2):=Zl.mpr #[z,mz,rfl];rw[e]at this;rcases Å.mp this with m|m
      .obtain ⟨ps,bl,C⟩:=am j _ m;let#[g1,g2,g3]:=L.sg ps bl _ C;show#[g1,g2,()]
      .split at m
       .rw [Zs.mp m];show#[sg,by change(0:Int)<=(↑n:Int);rfl',by change(↑n:Int)<_;rfl']
       .cases m
     have ad:↑((n++[[]]).getD j [])<=62/\(((n++[[]]).getD j []).map (λp:ϐ×Int=>p.1)).Nodup/\s∉((n++[[]]).getD j []).map (λp:ϐ×Int=>p.1):=by
      rw[Xs];rcases Ġ j ↑n with w|w
      .rw [ê w,Qr w];show#[L.ln _ (Ó w),uR (L.sr _ (Ó w)),zK.mp (a5 _ (Ó w))]
      .rw [å w,show j-↑n=0 by rfl'];show#[by decide,Ÿ,Þ]
     show#[#[?_,hz],?_]
     .have e2:g.2.map (·.2.1)=(g.2.map (λz:Dz=>z.2)).map (·.1):=by rw[Æ];rfl
      rw[e2,e,Wp,â];show#[ad.2.1,by split<;>simp,λu mu w N ee=>ad.2.2 ?_];split at N
      .have:w=s:=by simpa using N
       rw[<-this,<-ee];show mu
      .cases N
     .have h9:∀(c:Prop) [Decidable c],↑(if c then[(s,(↑n:Int))]else[])<=1:=λc _=>by split<;>simp
      have h8:=Ý List.length e;rw[Qb,Â]at h8;have h7:=h9 ((j:Int)∈G++[(↑n:Int)]);have h6:=ad.1;rfl'
    have ar:a1s (↑n+1) (G++[(↑n:Int)]):=⟨by
      rw[â];show#[L.ei.imp λh e=>(),by simp,λu mu w N e=>by have:=L.er u mu;rw[Zs.mp N]at e;rfl'],λu mu=>by
     rcases Å.mp mu with mu|mu
     .have:=L.er u mu;rfl'
     .rw [Zs.mp mu];rfl'⟩
    apply#[D,F,a,G++[(↑n:Int)],rfl,SqL.of (by rw[S.get ax aw,e9,<-ea,Æ];rfl),λg mr=>?_,SqL.of (S.get ay U),by rw[I];show ar.2,ar.1,by rw[Â];have:=L.el;simp;rfl',(),(),λr' H5 a9 bb s5 a1 ai bm bp=>?_]
    .obtain ⟨w1,w2⟩:=Y.2 g mr;let#[#[g1,g2],g3]:=av g mr;show#[SqL.of w1,λz mz=>#[SqT.of (w2 z mz),by rw[I];show g2 z mz],g1,g3]
    .have bi:bb=G++[(↑n:Int)]:=Hs.YQ bm bp (.refl _) (List.pairwise_append.mpr #[L.ei,by simp,λu mu w N=>by have:=L.er u mu;rw[Zs.mp N];rfl']);rw[bi]at a1;show q r' H5 a9 (sf.trans s5) a1 #[by rw[ai.1,I],λj bn J=>?_];have af:j<↑a:=by rw[<-ai.1];show(À.mp J).1
     rw[<-M j a[j] (Qr af)];show ai.2 j bn a[j] J (Qr af)
def lq(xs:ϊ Nat)(x:Nat)(ls:ϵ):ϊ (ϐ×Nat):=ls.filterMap λp=>if x+↑p.2<=↑xs then !(p.1,Mm.aY p.2 ((xs.drop x).take ↑p.2))else none
def Km(gs:ϊ (ϐ×Nat)):ϊ (Key×V):=gs.map λp=>(Sum.inr p.1,V.int (p.2:Nat))
theorem xx(a:ϊ Nat)(x:Nat)(b:ϵ)(p:ϐ×ϊ Nat):lq a x (b++[p])=lq a x b++(if x+↑p.2<=↑a then[(p.1,Mm.aY p.2 ((a.drop x).take ↑p.2))]else[]):=by
 unfold lq;rw[ω];congr 1;rw[Đ,List.filterMap_nil];split<;>simp_all
theorem BK{c:ϊ Nat}{x:Nat}(h:s∉ls.map (·.1)):s∉(lq c x ls).map (·.1):=λm=>by
 let#[q,b,rfl]:=Zl.mp m;let#[p,a,e]:=ì.mp b;split at e
 .cases e;show h (Zl.mpr #[p,a,rfl])
 .cases e
inductive sp_f51(K:Ϗ)(vs:ϊ V)(H:Hp)(Q:VK)(E:XK):Prop
 |mk (f p:ό) (h x:Nat) (b:ϵ) (a:ϊ Nat) (c:vs=[.ref f,.ref p,.int x]) (d:FnT K H f h b) (e:Fo.Wf h b) (g:SqL K H p (nv a)) (i:↑a<=1000) (j:x<=↑a) (k:∀r H',Same H H'->H r=none->H' r=!(.dK (Km (lq a x b)))->Q (.ref r) H')
abbrev Ko K(E:XK)(Eh:XK):=(aA (aK kJ (ak 3))
  (aA (cD (ph K (tX K aQ 1)) (je K 2 (bO (ak 4) (bO (ak 5) jk))) (aA (aK (FJ (vH K) bc (gh bR) (gh (aL bQ bR (dZ K fY)))) (ak 6))
  (bB (aN (aL pB (dZ K j6) (dZ K fY))) (jb cC cX (bN (sp_f73 K) (cA fY j6))) aV)))
  (aP cC)))
abbrev Kp:ϊ ϐ:=sN ["font","strip","x","gaps","sign","columns","beneath"]
theorem Wh(h:sp_f51 K vs H Q E):RG (Ko K E) Kp vs H Q:=by
 let#[f,p,h,x,c,j,rfl,hF,U,hP,ad,hx,q]:=h;show#[E0,?_];have M:(c.map (·.1)).Nodup:=U.up.imp λL e=>by subst e;show Ő _ L
 let#[l,zs,t1,A,t3,t4]:=id hF;have O:↑zs=↑c:=by rw[<-A,Qb]
 have J:=U.le;symm;intro r C;apply dh (az C t1) ?_;have t:∀Z∈[r],H Z=none:=λZ N=>by rw[Zs.mp N];show C
 show tG (λz:Lz=>V.ref z.1) ((aq C _).tup t3) (λi F w=>(An3 (Sb [r] H w) (w r=!(.dK (Km (lq j x (c.take i))))) (Ex3 λP R T=>F=[!(.ref f),!(.ref p),!(.int (x:Nat)),!(.ref r),P,R,T]))) #[Sb.of (aq C _),aa,none,none,none,rfl] ?_ ?_ ?_
 .rintro i F w ⟨v,_⟩;show(v.off t).tup t3
 .rintro i ⟨za,s,ca,b⟩ F w X ⟨v,y,P,R,T,rfl⟩;have S:=v.off t;have mz:=Yf X;let#[u1,D]:=t4 _ mz;dsimp only at u1 D;have u:c[i]?=!(s,b):=by rw[<-A,Jn,X];rfl
  have c1:=U.c1 _ (Yf u);dsimp only at c1;have ac:i<↑c:=(À.mp u).1;have n:c.take (i+1)=c.take i++[(s,b)]:=by rw[Í,u];rfl
  have I:↑(lq j x (c.take i))<=40:=Î (ď ..) (by rw[Ô];show Xp J);show dB (SqT.of (S.get u1)) rfl ?_;apply cN (SqT.of (S.get D)) ?_;rw[Qb];symm;rw[show(x:Int)+(↑b:Int)=((x+↑b:Nat):Int)by show rfl];show wZ (S.seq hP) λbe a=>?_
  rw[uE (Rp _) (Rp (_+_)),Ð,Ð,show((nv j).take (x+↑b)).drop x=nv ((j.drop x).take ↑b)by
    rw[nv,nv,List.drop_take,ł,Β,List.map_drop]]
  have ab:↑((j.drop x).take ↑b)=min ↑b (↑j-x):=by rw[Ô,î]
  have B:s∉(c.take i).map (·.1):=by
   have W:((c.take (i+1)).map (·.1)).Nodup:=Č ((ī _ _).map _) M;rw[n,Wp,â]at W;showλm=>W.2.2 s m s (by simp) rfl
  apply wV aa ?_;apply cN (SqT.of (az a (S.get D))) ?_;rw[Qb];apply dw (λd=>?_) λd=>?_
  .have o:x+↑b<=↑j:=()
   apply#[ca,be,b,(j.drop x).take ↑b,rfl,SqT.of (az a (S.get D)),by first|show SqL.of aa|show .inl (SqL.of aa),Qe (d.symm),(),λH2 s2=>?_];symm;have G:=s2.get (az a y);have hv:bx (Km (lq j x (c.take i))) (Sum.inr s)=none:=fj (f:=λp:ϐ×Nat=>(Sum.inr p.1:Key)) (g:=λp:ϐ×Nat=>V.int (p.2:Nat)) λm=>by
    let#[p,Y,e]:=Zl.mp m;show BK B (Zl.mpr #[p,Y,ě e])
   show#[r,_,rfl,DPut.k (k:=Sum.inr s) G (Õ (by unfold Km;rw[Qb];show I:_<=40) (by decide)),?_];rw[dJ _ hv];apply#[(v.same ((aq a _).trans s2)).set (by simp),?_,_,_,_,rfl];rw[aa,n,xx,if_pos o];unfold Km;rw[Wp];rfl
  .have o:¬x+↑b<=↑j:=()
   apply#[v.new a,?_,_,_,_,rfl];rw[n,xx,if_neg o,ô];show az a y
 .rintro F w ⟨v,y,P,R,T,rfl⟩;rw[è (oG (O.symm) (Ä _))]at y;apply q r w (v.off t) C y
def jH(gs:ϊ (ϐ×Nat))(s:ϐ):ύ Nat:=(gs.find? λp=>decide (p.1=s)).map (·.2)
theorem zM(s:ϐ):∀gs:ϊ (ϐ×Nat),bx (Km gs) (Sum.inr s)=(jH gs s).map λg=>V.int (g:Nat)
 |[]=>rfl
 |p::r=>by
  have a:=zM s r;by_cases h:p.1=s
  .subst h;unfold jH;rw[π (by simp)];unfold Km bx;simp
  .unfold jH at a⊢;rw[ρ (by simpa using h),<-a];unfold Km bx;rw[È,ρ (by simpa using h)]
theorem zN{x:Nat}{g:Nat}(f:(ls.map (·.1)).Nodup)(h:Fo.lk ls s=!co)(k:jH (lq o x ls) s=!g):x+↑co<=↑o:=by
 unfold jH at k;let#[q,j,rfl]:=Ï.mp k;have m:=Ċ j;have e:q.1=s:=by have:=ų j;simpa using this
 let#[p,c,d]:=ì.mp m;split at d
 .rename_i b
  cases d;have w:=Fo.bI h;have:p=(s,co):=by
   let#[i,n]:=p;have t:i=s:=e;subst t;have:∀l:ϵ,(l.map (·.1)).Nodup->(i,n)∈l->(i,co)∈l->n=co:=λl=>by
    induction l with
    |nil=>intro _ h;cases h
    |cons y r ih=>
     intro a u v;rw[È,é]at a;rcases Ç.mp u with h3|h3<;>rcases Ç.mp v with h4|h4
     .rw [<-h3]at h4;cases h4;rfl
     .rw [<-h3]at a;show absurd (Zl.mpr #[_,h4,rfl]) a.1
     .rw [<-h4]at a;show absurd (Zl.mpr #[_,h3,rfl]) a.1
     .show ih a.2 h3 h4
   rw[this ls f c w]
  rw[this]at b;show b
 .cases d
theorem Ed(h:s∉a.map (·.1)):jH a s=none:=by
 unfold jH;rw[Ļ.mpr λp b=>by simpa usingλe=>h (Zl.mpr #[p,b,e])];rfl
theorem uT{b:ϊ Nat}{x:Nat}:∀{ls:ϵ},(ls.map (·.1)).Nodup->jH (lq b x ls) s=(Fo.lk ls s).bind λco=>if x+↑co<=↑b then !(Mm.aY co ((b.drop x).take ↑co))else none
 |[],_=>rfl
 |p::r,hnd=>by
  rw[È,é]at hnd;rw[Fo.j5];have c:lq b x (p::r)=(if x+↑p.2<=↑b then[(p.1,Mm.aY p.2 ((b.drop x).take ↑p.2))]else[])++lq b x r:=by
   unfold lq;rw[Đ];split<;>simp_all
  rw[c];by_cases e:p.1=s
  .subst e;rw[if_pos rfl];by_cases a:x+↑p.2<=↑b
   .rw [if_pos a];unfold jH;rw[List.singleton_append,π (by simp)];simp[a]
   .rw [if_neg a,Ű,Ed (BK hnd.1)];simp[a]
  .rw [if_neg e,<-uT hnd.2];by_cases a:x+↑p.2<=↑b
   .rw [if_pos a];unfold jH;rw[List.singleton_append,ρ (by simpa using e)]
   .rw [if_neg a,Ű]
def bW(p:ϳ):ϊ Nat:=(p.map (·.2.1)).flatten
def PT(wss:ϲ)(es:ϊ Int):Nat->Nat->Nat->ϲ
 |_,0,room=>if(room:Int)∈es then[[]]else[]
 |0,_+1,_=>[]
 |n+1,k+1,room=>(wss.getD room []).flatMap λw=>if↑w.2.1<=k+1 then(PT wss es n (k+1-↑w.2.1) w.2.2.toNat).map (w::·)else[]
theorem oU{c:L1S}(m:w∈aG ls c):Fo.lk ls w.1=!w.2.1/\(w.1,w.2.2)∈c:=by
 let#[p,b,d]:=ì.mp (show w∈c.filterMap _ from m);let#[e,a,rfl]:=Ï.mp d;show#[a,b]
theorem uU(a:room<↑ds):(ds.map (aG ls)).getD room []=aG ls ds[room]:=by
 rw[Xs,Jn,Qr a];rfl
theorem Kq(a:Nat):wss.getD a []=[]\/wss.getD a []∈wss:=by
 by_cases b:a<↑wss
 .right;rw[Xs,Qr b];show Ó b
 .left;rw[Xs,ë (Ho b)];rfl
def ThP(H:Hp)(v:V):Ϻ->Prop
 |none=>v=.non
 |some t=>∃a,v=.ref a/\H a=!(.tup [.int (t.1:Nat),.int (t.2:Nat)])
theorem ThP.same(h:ThP H v o)(s:Same H H'):ThP H' v o:=by
 cases o with
 |none=>show h
 |some t=>let#[a,e,q]:=h;show#[a,e,s.get q]
def mgT:Ϻ->Ϻ->Ϻ
 |none,b=>b
 |some t,none=>!t
 |some t,!u=>if t.1=u.1 then !(t.1,t.2+u.2)else if t.1<u.1 then !t else !u
def RwP(H:Hp)(a:ό)(ts:Ϲ):Prop:=∃vs:ϊ V,H a=!(.lst vs)/\↑vs=↑ts/\∀(i:Nat) v t,vs[i]?=!v->ts[i]?=!t->ThP H v t
def PpT(H:Hp)(pp:ό)(rows:ϊ (Ϲ)):Prop:=∃as:ϊ ό,↑as=↑rows/\H pp=!(.lst (as.map V.ref))/\∀(i:Nat) a ts,as[i]?=!a->rows[i]?=!ts->RwP H a ts
theorem RwP.same(h:RwP H a ts)(s:Same H H'):RwP H' a ts:=by
 let#[g,b,c,d]:=h;show#[g,s.get b,c,λi v t f e=>(d i v t f e).same s]
theorem PpT.same(h:PpT H pp rows)(s:Same H H'):PpT H' pp rows:=by
 let#[b,c,d,e]:=h;show#[b,c,s.get d,λi a j f g=>(e i a j f g).same s]
def thr(gs:ϊ (ϐ×Nat))(rows:ϊ (Ϲ))(x:Nat)(w:ϴ):Ϻ:=
 match jH gs w.1 with
 |none=>none
 |some g=>((rows.getD (x+↑w.2.1) []).getD w.2.2.toNat none).map λt=>(g+t.1,t.2)
theorem qN(o:Ϻ):mgT o none=o:=by cases o<;>rfl
inductive sp_f3(K:Ϗ)(vs:ϊ V)(H:Hp)(Q:VK)(E:XK):Prop
 |mk (e c d:ό) (x:Nat) (w:ϴ) (b:ϊ (ϐ×Nat)) (a:ϊ (Ϲ)) (f:vs=[.ref e,.ref c,.ref d,.int x]) (h:WyT H (e,w)) (i:H c=!(.dK (Km b))) (j:PpT H d a) (k:(∀g,jH b w.1=!g->x+↑w.2.1<↑a/\0<=w.2.2/\w.2.2.toNat<↑(a.getD (x+↑w.2.1) []))) (l:∀v H',Same H H'->ThP H' v (thr b a x w)->Q v H')
abbrev QG K:=(aA (bB (tB (iM cX bc)) (aP (tC V.non)) aV)
  (aA (aK (aL (cu K) (aL (cu K) bR (aL bQ cC (dZ K (tX K aQ 1)))) (tX K aQ 2)) (ak 5))
  (aA (bB (aN (aL lW fY (tC V.non))) (aP (tC V.non)) aV)
  (aP (cU (cA (aL bQ (gm bc cX) (tX K fY 0)) (tX K fY 1)))))))
abbrev RK K(E:XK)(Eh:XK):=(aA (aK (tX K aQ 0) (ak 4))
  (QG K))
abbrev RL:ϊ ϐ:=sN ["way","gaps","paper","x","sign","behind"]
theorem Zg(h:sp_f3 K vs H Q E):RG (RK K E) RL vs H Q:=by
 let#[r,B,Z,x,#[s,i,c],C,d,rfl,#[u,o,L],A,#[M,p,R,S],m,q]:=h;show#[E0,?_];dsimp only at o L m;have U:∀{Q:VK},Q (.str s) H->fO K (.ref r) (.int 0) H Q:=λh=>cV (SqT.of o) (aM (j:=0) (v:=.str s) rfl) h
 have W:∀{Q:VK},Q (.ref u) H->fO K (.ref r) (.int 1) H Q:=λh=>cV (SqT.of o) (aM (j:=1) (v:=.ref u) rfl) h
 have X:∀{Q:VK},Q (.int c) H->fO K (.ref r) (.int 2) H Q:=λh=>cV (SqT.of o) (aM (j:=2) (v:=.int c) rfl) h
 apply U ?_;apply#[B,_,rfl,DGet.k (k:=Sum.inr s) A,?_];rw[zM]
 cases hg:jH C s with
 |none=>
  symm;change if true=true then _ else _
  apply q .non H (Same.refl _) (by unfold thr;dsimp only;rw[hg];rfl)
 |some g=>
  let#[J,Y,n]:=m g hg;symm;change if false=true then _ else _
  apply W ?_;apply cN (SqT.of L) ?_;rw[Qb];symm;rw[show(x:Int)+(↑i:Int)=((x+↑i:Nat):Int)by show rfl];let#[a,F]:∃a,M[x+↑i]?=!a:=#[_,Qr (En J p)];let#[l,f]:∃l,d[x+↑i]?=!l:=#[_,Qr J];rw[Xs,f]at n;change c.toNat<↑l at n;let#[vs,N,O,P]:=S _ a l F f;let#[v,I]:∃v,vs[c.toNat]?=!v:=#[_,Qr (En n O)];let#[t,G]:∃t,l[c.toNat]?=!t:=#[_,Qr n];have D:=P _ v t I G;have e:thr C d x (s,i,c)=t.map λt=>(g+t.1,t.2):=by
   unfold thr;dsimp only;rw[hg];dsimp only;rw[show d.getD (x+↑i) []=l by rw[Xs,f];rfl,Xs,G];rfl
  show qt R F ?_;apply X ?_;symm;rw[show c=((c.toNat:Nat):Int)by show Eq.symm (DP Y)];show dF (SqL.of N) (aM (j:=c.toNat) (v:=v) I) ?_;symm
  cases t with
  |none=>
   cases D;show jX rfl ?_;apply q .non H (Same.refl _) (by rw[e];rfl)
  |some t=>
   let#[b,rfl,w]:=D;show jB (by intro z;cases z) ?_;apply#[B,.int (g:Nat),rfl,?_,?_]
   .have:=DGet.k (k:=Sum.inr s) A;rw[zM,hg]at this;show this
   apply fH w ?_;apply dh w ?_;symm;intro y T;show q _ _ (aq T _) ?_;rw[e];show#[y,rfl,by rw[aa];push_cast;rfl]
inductive sp_f60(K:Ϗ)(vs:ϊ V)(H:Hp)(Q:VK)(E:XK):Prop
 |mk (v w:V) (o u:Ϻ) (a:vs=[v,w]) (b:ThP H v o) (c:ThP H w u) (d:∀y H',Same H H'->ThP H' y (mgT o u)->Q y H')
abbrev Kr K(E:XK)(Eh:XK):=(aA (bB (aN (aL lW aQ (tC V.non))) (aP bc) aV)
  (aA (bB (aN (aL lW bc (tC V.non))) (aP aQ) aV)
  (aA (bB (aN (aL pB (tX K aQ 0) (tX K bc 0))) (aP (cU (cA (tX K aQ 0) (aL bQ (tX K aQ 1) (tX K bc 1))))) aV)
  (aP (XC (aN (aL rB (tX K aQ 0) (tX K bc 0))) aQ bc)))))
abbrev Ks:ϊ ϐ:=sN ["one","other"]
theorem Wi(h:sp_f60 K vs H Q E):RG (Kr K E) Ks vs H Q:=by
 let#[v,w,o,u,rfl,m,i,q]:=h;show#[E0,?_]
 cases o with
 |none=>
  cases m;apply q w H (Same.refl _) i
 |some t=>
  let#[a,rfl,e]:=m;apply jB (by intro z;cases z) ?_;symm
  cases u with
  |none=>
   cases i;show jX rfl ?_;apply q _ H (Same.refl _) #[a,rfl,e]
  |some x=>
   let#[b,rfl,g]:=i;have k:∀{c:Hp}{Q:VK},Same H c->Q (.int (t.1:Nat)) c->fO K (.ref a) (.int 0) c Q:=λs h=>cV (SqT.of (s.get e)) (aM (j:=0) (v:=.int (t.1:Nat)) rfl) h
   have A:∀{c:Hp}{Q:VK},Same H c->Q (.int (t.2:Nat)) c->fO K (.ref a) (.int 1) c Q:=λs h=>cV (SqT.of (s.get e)) (aM (j:=1) (v:=.int (t.2:Nat)) rfl) h
   have n:∀{c:Hp}{Q:VK},Same H c->Q (.int (x.1:Nat)) c->fO K (.ref b) (.int 0) c Q:=λs h=>cV (SqT.of (s.get g)) (aM (j:=0) (v:=.int (x.1:Nat)) rfl) h
   have B:∀{c:Hp}{Q:VK},Same H c->Q (.int (x.2:Nat)) c->fO K (.ref b) (.int 1) c Q:=λs h=>cV (SqT.of (s.get g)) (aM (j:=1) (v:=.int (x.2:Nat)) rfl) h
   show jB (by intro z;cases z) ?_;apply k (Same.refl _) ?_;apply n (Same.refl _) ?_;apply dw (λd=>?_) λd=>?_
   .have f:t.1=x.1:=by show Qe d
    apply k (Same.refl _) ?_;apply A (Same.refl _) ?_;apply B (Same.refl _) ?_;symm;intro y r;show q _ _ (aq r _) ?_;change ThP _ _ (if t.1=x.1 then _ else _);rw[if_pos f];show#[y,rfl,by rw[aa];push_cast;rfl]
   .have f:¬t.1=x.1:=by show qnD d
    apply k (Same.refl _) ?_;apply n (Same.refl _) ?_;symm;have p:∀v,ThP H v (if t.1<x.1 then !t else !x)->Q v H:=λv h=>q v H (Same.refl _) (by change ThP _ _ (if t.1=x.1 then _ else _);rw[if_neg f];show h)
    show dw (λl=>?_) λl=>?_
    .symm;show p _ (by rw[if_pos (Uv l)];show#[a,rfl,e])
    .symm;show p _ (by rw[if_neg ()];show#[b,rfl,g])
def j8(gs:ϊ (ϐ×Nat))(rows:ϊ (Ϲ))(x:Nat)(ws:ϳ):Ϻ:=ws.foldl (λacc w=>mgT acc (thr gs rows x w)) none
theorem Ef(b:ϊ (ϐ×Nat))(a:ϊ (Ϲ))(x:Nat)(c:ϳ)(w:ϴ):j8 b a x (c++[w])=mgT (j8 b a x c) (thr b a x w):=by
 unfold j8;rw[Ŀ];rfl
def InP(gs:ϊ (ϐ×Nat))(rows:ϊ (Ϲ))(x:Nat)(w:ϴ):Prop:=∀g,jH gs w.1=!g->x+↑w.2.1<↑rows/\0<=w.2.2/\w.2.2.toNat<↑(rows.getD (x+↑w.2.1) [])
inductive sp_f48(K:Ϗ)(vs:ϊ V)(H:Hp)(Q:VK)(E:XK):Prop
 |mk (e d f:ό) (x:Nat) (c:ϳ) (b:ϊ (ϐ×Nat)) (a:ϊ (Ϲ)) (g:vs=[.ref e,.ref d,.ref f,.int x]) (h:LdT H e c) (i:H d=!(.dK (Km b))) (j:PpT H f a) (k:(∀w∈c,InP b a x w)) (l:∀v H',Same H H'->ThP H' v (j8 b a x c)->Q v H')
abbrev Ku K(E:XK)(Eh:XK):=(aA (aK (tC V.non) (ak 4))
  (aA (cD (bY K aQ) (ak 5) (aK (bN (sp_f60 K) (cA cX (bN (sp_f3 K) (zc fY bc bR cC)))) (ak 4)))
  (aP cX)))
abbrev Kv:ϊ ϐ:=sN ["leads","gaps","paper","x","thing","way"]
theorem Wj(h:sp_f48 K vs H Q E):RG (Ku K E) Kv vs H Q:=by
 let#[J,r,t,x,g,k,a,rfl,#[n,d,p,G],C,D,l,q]:=h;show#[E0,?_];have m:↑n=↑g:=by rw[<-d,Qb]
 apply fK (λz:Wz=>V.ref z.1) (zs:=n) (SqL.of p) (λi j c=>(An2 (Same H c) (Ex2 λv o=>(An2 (ThP c v (j8 k a x (g.take i))) (j=[!(.ref J),!(.ref r),!(.ref t),!(.int (x:Nat)),!v,o]))))) #[Same.refl _,.non,none,rfl,rfl] ?_ ?_ ?_
 .rintro i j c ⟨b,_⟩;show SqL.of (b.get p)
 .rintro i ⟨N,w⟩ j c s ⟨b,v,o,f,rfl⟩;have L:=Yf s;have e:g[i]?=!w:=by rw[<-d,Jn,s];rfl
  apply#[N,r,t,x,w,k,a,rfl,(G _ L).same b,b.get C,D.same b,l w (Yf e),λu O A F=>?_];apply#[v,u,_,_,rfl,f.same A,F,λy B M I=>?_];apply#[(b.trans A).trans M,y,_,?_,rfl];rw[Í,e];change ThP B y (j8 k a x (g.take i++[w]));rw[Ef];show I
 .rintro j c ⟨b,v,o,f,rfl⟩;rw[è (oG (m.symm) (Ä _))]at f;apply q v c b f
theorem ThP.updl{p:ό}{c:ϊ V}(h:ThP H v o)(e:H p=!(.lst ys)):ThP (upd H p (.lst c)) v o:=by
 cases o with
 |none=>show h
 |some t=>let#[a,b,q]:=h;show#[a,b,by rw[ao (jf q e)];show q]
theorem RwP.updl{p:ό}{k:ϊ V}(h:RwP H a ts)(n:a≠p)(e:H p=!(.lst ys)):RwP (upd H p (.lst k)) a ts:=by
 let#[j,b,c,d]:=h;show#[j,by rw[ao n];show b,c,λi v t g f=>(d i v t g f).updl e]
structure PpN(H0 H:Hp)(pp:ό)(rows:ϊ (Ϲ))(as:ϊ ό):Prop where
 len:↑as=↑rows
 at_:H pp=!(.lst (as.map V.ref))
 row:∀(i:Nat) a ts,as[i]?=!a->rows[i]?=!ts->RwP H a ts
 inj:∀(i j:Nat) a,as[i]?=!a->as[j]?=!a->i=j
 new:∀a∈as,H0 a=none
 out:pp∉as
def PpN.t(h:PpN H0 H pp rows a):PpT H pp rows:=#[a,h.len,h.at_,h.row]
theorem PpN.same{b:ϊ ό}(h:PpN H0 H pp rows b)(s:Same H H'):PpN H0 H' pp rows b:=#[h.len,s.get h.at_,λi a e c d=>(h.row i a e c d).same s,h.inj,h.new,h.out]
theorem PpN.put{k:Nat}(h:PpN H0 H pp rows l)(u:RwP H b ts)(t:H0 b=none)(r:b∉l)(s:b≠pp):PpN H0 (upd H pp (.lst ((l.map V.ref).set k (.ref b)))) pp (rows.set k ts) (l.set k b):=by
 show#[by rw[Η,Η,h.len],by rw[aa,List.map_set],λi a v f g=>?_,λi j a c d=>?_,λa p=>?_,λm=>?_]
 .rw [ŝ]at f g;by_cases e:k=i
  .subst e;rw[if_pos rfl]at f g;split at f
   .split at g
    .cases f;cases g;show u.updl s h.at_
    .cases g
   .cases f
  .rw [if_neg e]at f g;show(h.row i a v f g).updl (λq=>h.out (q▸Yf f)) h.at_
 .rw [ŝ]at c d;by_cases n:k=i<;>by_cases o:k=j
  .show Eq.trans (n.symm) o
  .rw [if_pos n]at c;rw[if_neg o]at d;split at c
   .cases c;show absurd (Yf d) r
   .cases c
  .rw [if_neg n]at c;rw[if_pos o]at d;split at d
   .cases d;show absurd (Yf c) r
   .cases d
  .rw [if_neg n]at c;rw[if_neg o]at d;show h.inj i j a c d
 .rcases Ĳ p with p|rfl
  .show h.new a p
  .show t
 .rcases Ĳ m with m|e
  .show h.out m
  .show s e.symm
def di(es:ϊ Int)(n:Nat):Ϲ:=(List.range n).map λr:Nat=>if(r:Int)∈es then !(0,1)else none
def fil(ls:ϵ)(xs:ϊ Nat)(wss:ϲ)(last:Ϲ):Nat->ϊ (Ϲ)
 |0=>[last]
 |i+1=>(wss.map λws=>j8 (lq xs (↑xs-1-i) ls) (List.replicate (↑xs-i) []++fil ls xs wss last i) (↑xs-1-i) ws)::fil ls xs wss last i
theorem uV(c:ϵ)(d:ϊ Nat)(b:ϲ)(a:Ϲ):∀i,↑(fil c d b a i)=i+1
 |0=>rfl
 |i+1=>by change↑(_::fil c d b a i)=_;rw[í,uV]
theorem uW{ls:ϵ}{b:ϲ}(c:↑a=↑b):∀i,∀r∈fil ls xs b a i,↑r=↑b
 |0,r,h=>by rw[Zs.mp h];show c
 |i+1,r,h=>by
  rcases Ç.mp h with rfl|h
  .rw [Qb]
  .show uW c i r h
theorem uX{ls:ϵ}{wss:ϲ}{last:Ϲ}(i j:Nat):∀d,(fil ls xs wss last (i+d)).getD (d+j) []=(fil ls xs wss last i).getD j []
 |0=>by rw[Nat.add_zero,Ū]
 |d+1=>by
  rw[Nat.add_right_comm d 1 j];change(_::fil ls xs wss last (i+d)).getD (d+j+1) []=_;rw[List.getD_cons_succ,uX i j d]
theorem Wl(n i j:Nat)(h:i<=n):(fil ls xs wss last n).getD (n-i+j) []=(fil ls xs wss last i).getD j []:=by
 have:=uX (ls:=ls) (xs:=xs) (wss:=wss) (last:=last) i j (n-i);rwa[Nat.add_sub_cancel' h]at this
theorem zO{b:ϊ (Ϲ)}{x:Nat}{c:ϳ}(h:∀w∈c,thr gs rows x w=thr gs b x w):j8 gs rows x c=j8 gs b x c:=by
 unfold j8
 suffices ∀a,c.foldl (λa w=>mgT a (thr gs rows x w)) a=c.foldl (λa w=>mgT a (thr gs b x w)) a from this none
 induction c with
 |nil=>intro a;rfl
 |cons w r ih=>intro a;rw[Ń,Ń,h w É];show ih (λy d=>h y (Ì _ d)) _
theorem Zh{x:Nat}(p:x<↑a)(o:∀b∈wss,∀w∈b,0<↑w.2.1):(fil ls a wss last ↑a).getD x []=wss.map λb=>j8 (lq a x ls) (fil ls a wss last ↑a) x b:=by
 let#[i,f]:=Nat.exists_eq_add_of_lt p;have d:↑a=i+1+x:=by rw[f,Ľ,ļ]
 have l:↑a-1-i=x:=by rw[f,Nat.add_sub_cancel,Nat.add_sub_cancel]
 have j:↑a-i=x+1:=by rw[d,Ľ,ł,ļ]
 have h:=uX (ls:=ls) (xs:=a) (wss:=wss) (last:=last) (i+1) 0 x;rw[<-d,Nat.add_zero]at h;rw[h];change(_::_).getD 0 []=_;rw[List.getD_cons_zero,l];show Ā λb q=>zO λw m=>?_
 have n:=o b q w m;unfold thr
 cases jH (lq a x ls) w.1 with
 |none=>rfl
 |some g=>
  dsimp only;have:(List.replicate (↑a-i) []++fil ls a wss last i).getD (x+↑w.2.1) []=(fil ls a wss last ↑a).getD (x+↑w.2.1) []:=by
   let#[c,k]:=Nat.exists_eq_add_of_lt n;have e:=uX (ls:=ls) (xs:=a) (wss:=wss) (last:=last) i c (x+1);rw[show i+(x+1)=↑a by rw[d,Ľ,ļ x 1]]at e;rw[j,k,Ū,show x+(c+1)=x+1+c by rw[Ľ,ļ c 1],e,Xs,å (by rw[ç];show Nat.le_add_right _ _),ç,ł,<-Xs]
  rw[this]
def dT:Ϻ->PyData
 |none=>.none
 |some t=>.tuple [.int (t.1:Nat),.int (t.2:Nat)]
def Kw(ls:ϵ)(xs:ϊ Nat)(ds:L2S)(es:ϊ Int):ϊ (Ϲ):=fil ls xs (ds.map (aG ls)) (di es ↑ds) ↑xs
structure IsP(ls:ϵ)(xs:ϊ Nat)(ds:L2S)(es:ϊ Int)(rows:ϊ (Ϲ)):Prop where
 len:↑rows=↑xs+1
 row:∀r∈rows,↑r=↑ds
 at_:∀x,x<↑xs->rows.getD x []=(ds.map (aG ls)).map λws=>j8 (lq xs x ls) rows x ws
 last:rows.getD ↑xs []=di es ↑ds
theorem Ky{h:Nat}{b:ϊ Int}(j:Fo.Wf h ls):IsP ls a ds b (fil ls a (ds.map (aG ls)) (di b ↑ds) ↑a):=by
 have d:↑(di b ↑ds)=↑(ds.map (aG ls)):=by unfold di;rw[Qb,ú,Qb]
 show#[uV ..,λr g=>by rw[uW d _ r g,Qb],λx f=>Zh f λn i w m=>?_,Wl (ls:=ls) (xs:=a) (wss:=ds.map (aG ls)) (last:=di b ↑ds) ↑a 0 0 (à _)];let#[l,_,rfl]:=Zl.mp i;unfold aG at m;let#[p,_,e]:=ì.mp m;let#[k,c,rfl]:=Ï.mp e;have:=j.c1 _ (Fo.bI c);dsimp only at this⊢;rfl'
def zP(gs:ϊ (ϐ×Nat))(rows:ϊ (Ϲ))(x far:Nat)(w:ϴ):ϑ:=decide ((thr gs rows x w).map (·.1)=!far)
theorem QH{b:Type}{p:b->ϑ}{l:ϊ b}{w:b}(c:l[i]?=!w)(a:∀y∈l.take i,p y=false)(e:p w=true):l.find? p=!w:=by
 have d:i<↑l:=(À.mp c).1;have f:l[i]=w:=(À.mp c).2;rw[<-Ē i l,List.find?_append,Ļ.mpr (λy g=>by rw[a y g];decide),Option.none_or,ĳ d,f,π e]
def nT(ls:ϵ)(xs:ϊ Nat)(wss:ϲ)(rows:ϊ (Ϲ)):Nat->Nat->Nat->ϳ
 |0,_,_=>[]
 |n+1,x,room=>if x<↑xs then
   match(rows.getD x []).getD room none with
   |none=>[]
   |some t=>match(wss.getD room []).find? (zP (lq xs x ls) rows x t.1)with
    |none=>[]
    |some w=>w::nT ls xs wss rows n (x+↑w.2.1) w.2.2.toNat
  else[]
theorem BL{x:Nat}(h:¬x<↑a):∀n,nT ls a wss rows n x room=[]
 |0=>rfl
 |n+1=>by unfold nT;rw[if_neg h]
theorem xF{x:Nat}(h:x<↑a)(b:(rows.getD x []).getD room none=!t)(c:(wss.getD room []).find? (zP (lq a x ls) rows x t.1)=!w):nT ls a wss rows (n+1) x room=w::nT ls a wss rows n (x+↑w.2.1) w.2.2.toNat:=by
 rw[nT,if_pos h,b];dsimp only;rw[c]
theorem KC{d:ϊ (ϐ×Nat)}{b:ϊ (ϊ (ύ (Nat×Nat)))}{x:Nat}{c:ϊ (ϐ×ϊ Nat×Int)}(h:j8 d b x c=!t):∃w∈c,(thr d b x w).map (·.1)=!t.1:= by
 have e:∀(c:ϊ (ϐ×ϊ Nat×Int))(a:ύ (Nat×Nat)),c.foldl (λa w=>mgT a (thr d b x w)) a=!t->a.map (·.1)=!t.1 \/∃w∈c,(thr d b x w).map (·.1)=!t.1:= λc=>by
  induction c with
  |nil=>intro a h;left;rw[show a=!t from h];rfl
  |cons w r ih=>
   intro a h;rw[Ń]at h;rcases ih _ h with h1|⟨y,my,hy⟩
   .cases ha:a with
    |none=>
     rw[ha]at h1;show Or.inr #[w,É,h1]
    |some u=>
     cases hb:thr d b x w with
     |none=>rw[ha,hb]at h1;show Or.inl h1
     |some v=>
      rw[ha,hb]at h1;by_cases f:u.1=v.1
      .rw [show mgT (!u) (!v)=!(u.1,u.2+v.2)from if_pos f]at h1;show Or.inl h1
      .rw [show mgT (!u) (!v)=if u.1<v.1 then !u else !v from if_neg f]at h1;by_cases g:u.1<v.1
       .rw [if_pos g]at h1;show Or.inl h1
       .rw [if_neg g]at h1;show Or.inr #[w,É,by rw[hb];show h1]
   .show Or.inr #[y,Ì _ my,hy]
 rcases e c none h with h1|h1
 .cases h1
 .show h1
theorem IsP.step{h:Nat}{b:ϊ Nat}{D:ϊ Int}(P:IsP ls b ds D rows)(y:Fo.Wf h ls)(i:∀ps∈ds,∀q∈ps,0<=q.2/\q.2<↑ds){x:Nat}{t:ϻ}(E:x<↑b)(s:room<↑ds)(k:(rows.getD x []).getD room none=!t):∃(w:ϴ)(g:Nat)(u:ϻ),((ds.map (aG ls)).getD room []).find? (zP (lq b x ls) rows x t.1)=!w/\w∈aG ls (ds.getD room [])/\Fo.lk ls w.1=!w.2.1/\jH (lq b x ls) w.1=!g/\(rows.getD (x+↑w.2.1) []).getD w.2.2.toNat none=!u/\g+u.1=t.1/\x+↑w.2.1<=↑b/\1<=↑w.2.1/\0<=w.2.2/\w.2.2<↑ds:=by
 have j:=dW y.up;have d:ds[room]?=!ds[room]:=Qr s;have B:ds.getD room []=ds[room]:=by rw[Xs,d];rfl
 have A:(ds.map (aG ls)).getD room []=aG ls ds[room]:=by rw[Xs,Jn,d];rfl
 rw[P.at_ x E,Xs,Jn,Jn,d]at k;change j8 (lq b x ls) rows x (aG ls ds[room])=!t at k;let#[F,n,m]:=KC k;rw[A,B];let#[w,l]:∃w,(aG ls ds[room]).find? (zP (lq b x ls) rows x t.1)=!w:=by
  cases hf:(aG ls ds[room]).find? (zP (lq b x ls) rows x t.1)with
  |some w=>show#[w,rfl]
  |none=>
   have:=Ļ.mp hf F n;show absurd (by unfold zP;show Ù m) this
 have v:=Ċ l;have a:=ų l;unfold zP at a;replace a:=æ a;let#[p,e,C]:=ì.mp (show w∈ds[room].filterMap _ from v);let#[z,c,rfl]:=Ï.mp C;have r:=i _ (Ó s) p e;have o:=(y.c1 _ (Fo.bI c)).1;unfold thr at a;dsimp only at a o
 cases hg:jH (lq b x ls) p.1 with
 |none=>rw[hg]at a;cases a
 |some g=>
  rw[hg]at a;dsimp only at a
  cases hu:(rows.getD (x+↑z) []).getD p.2.toNat none with
  |none=>rw[hu]at a;cases a
  |some u=>
   rw[hu]at a;have f:=zN j c hg;show#[_,g,u,l,v,c,hg,hu,by have:=ß a;dsimp only at this;show this,f,o,r.1,r.2]
theorem IsP.inP{h:Nat}{k:ϊ Nat}{n:ϊ Int}(P:IsP ls k ds n rows)(u:Fo.Wf h ls)(c:∀ps∈ds,∀q∈ps,0<=q.2/\q.2<↑ds)(x:Nat):∀j∈ds.map (aG ls),∀w∈j,InP (lq k x ls) rows x w:=λj f w s g o=>by
 let#[ps,e,rfl]:=Zl.mp f;let#[t,r,m]:=ì.mp (show w∈ps.filterMap _ from s);let#[l,b,rfl]:=Ï.mp m;have a:=zN (dW u.up) b o;have i:=c ps e t r;have p:=P.len;dsimp only at a⊢;have d:x+↑l<↑rows:=by show Õ a (Xr p)
 show#[d,i.1,?_];rw[Xs,Qr d,Option.getD_some,P.row _ (Ó d)];show Xn i
def BP(ls:ϵ)(xs:ϊ Nat)(ds:L2S)(es:ϊ Int):ύ (ϊ (ϴ)×Nat×Nat):=(((Kw ls xs ds es).getD 0 []).getD 0 none).map λt=>(nT ls xs (ds.map (aG ls)) (Kw ls xs ds es) ↑xs 0 0,t.1,t.2)
def NrP(H:Hp)(v:V):ύ (ϊ (ϴ)×Nat×Nat)->Prop
 |none=>v=.non
 |some t=>∃a,v=.ref a/\H a=!(.tup [.str (Txt.join (Str.ofString "") (t.1.map (·.1))),.int (t.2.1:Nat),.int (t.2.2:Nat)])
theorem KD{b:ϊ (Ϲ)}:∀(n x room:Nat),∀w∈nT e g a b n x room,∃f∈a,w∈f
 |0,_,_,w,h=>by cases h
 |n + 1,x,room,w,h=>by
  unfold nT at h;split at h
  .split at h
   .cases h
   .split at h
    .cases h
    .rename_i i d;rcases Ç.mp h with rfl|h
     .have m:=Ċ d;by_cases c:room<↑a
      .rw [Xs,Qr c]at m;show#[_,Ó c,m]
      .rw [Xs,ë (Ho c)]at m
       cases m
     .show KD n _ _ w h
  .cases h
theorem xG:∀{p:ϊ ϐ},(∀s∈p,Hs.Sg s)->∃cs:ϊ Nat,p=cs.map (λc=>tx [c])/\∀c∈cs,c<1114112
 |[],_=>#[[],rfl,by simp]
 |s::r,h=>by
  let#[cs,e,a]:=xG (p:=r) λy b=>h y (Ì _ b)
  let#[n,rfl]:=h s É;show⟨Hs.lD n::cs,by rw[e];rfl,λc mc=>by
   rcases Ç.mp mc with rfl|mc
   .show Hs.qx n
   .show a c mc⟩
theorem Wm{h:Nat}{k:ϊ Nat}(j:Fo.Wf h ls)(n x a:Nat):∀s∈(nT ls k (ds.map (aG ls)) rows n x a).map (·.1),Hs.Sg s:=λs f=>by
 let#[w,g,rfl]:=Zl.mp f;let#[m,d,c]:=KD n x a w g;let#[i,_,rfl]:=Zl.mp d;let#[p,_,e]:=ì.mp (show w∈i.filterMap _ from c);let#[l,b,rfl]:=Ï.mp e;show j.sg _ (Fo.bI b)
theorem Wn{h:Nat}(b:Fo.Wf h ls):∀t,BP ls xs ds es=!t->∀s∈t.1.map (·.1),Hs.Sg s:=λt a=>by
 unfold BP at a;let#[u,_,rfl]:=Ï.mp a;show Wm b _ _ _
theorem tM(a b c:Ϻ):mgT (mgT a b) c=mgT a (mgT b c):=by
 cases a with
 |none=>rfl
 |some a=>cases b with
  |none=>rfl
  |some b=>cases c with
   |none=>show qN _
   |some c=>
    let#[m,o]:=a;let#[l,p]:=b;let#[n,q]:=c;have i:∀{d e f g:Nat},d<f->mgT (!(d,e)) (!(f,g))=!(d,e):=λ{d e f g} k=>by
     change(if d=f then !(d,e+g)else if d<f then !(d,e)else !(f,g))=_;rw[if_neg (ã k),if_pos k]
    have gt:∀{d e f g:Nat},f<d->mgT (!(d,e)) (!(f,g))=!(f,g):=λ{d e f g} k=>by
     change(if d=f then !(d,e+g)else if d<f then !(d,e)else !(f,g))=_;rw[if_neg (ę k),if_neg ()]
    have j:∀{d e g:Nat},mgT (!(d,e)) (!(d,g))=!(d,e+g):=λ{d e g}=>if_pos rfl
    rcases ŷ m l with h|h|h<;>rcases ŷ l n with h'|h'|h'
    .rw [i h,i (Ŭ h h'),i h',i h]
    .subst h';rw[i h,j,i h,i h]
    .rw [i h,gt h']
    .subst h;rw[j,i h',i h',j]
    .subst h;subst h';rw[j,j,j,j,Ľ]
    .subst h;rw[j,gt h',gt h',gt h']
    .rw [gt h,i h',gt h]
    .subst h';rw[gt h,j,gt h]
    .rw [gt h,gt h',gt (Ŭ h' h)]
def uY(gs:ϊ Nat):Ϻ:=gs.foldl (λacc g=>mgT acc !(g,1)) none
theorem xH(b:ϊ Nat):∀a,b.foldl (λa g=>mgT a !(g,1)) a=mgT a (uY b):=by
 induction b with
 |nil=>intro a;show(qN a).symm
 |cons g r ih=>
  intro a;rw[Ń,ih];change _=mgT a (r.foldl _ (mgT none !(g,1)));rw[ih,tM];rfl
def qO(g:Nat)(a:ϊ Nat):uY (g::a)=mgT (!(g,1)) (uY a):=xH a _
theorem QJ(a b:ϊ Nat):uY (a++b)=mgT (uY a) (uY b):=by
 unfold uY;rw[Ŀ,xH];rfl
theorem KH(g:Nat)(a b:Ϻ):mgT (a.map λt=>(g+t.1,t.2)) (b.map λt=>(g+t.1,t.2))=(mgT a b).map λt=>(g+t.1,t.2):=by
 cases a with
 |none=>rfl
 |some a=>cases b with
  |none=>rfl
  |some b=>
   change(if g+a.1=g+b.1 then !(g+a.1,a.2+b.2)else if g+a.1<g+b.1 then !(g+a.1,a.2)else !(g+b.1,b.2))=(if a.1=b.1 then !(a.1,a.2+b.2)else if a.1<b.1 then !a else !b).map λt=>(g+t.1,t.2)
   by_cases c:a.1=b.1
   .rw [if_pos (Ý (HAdd.hAdd _) c),if_pos c];rfl
   .rw [if_neg (),if_neg c];by_cases d:a.1<b.1
    .rw [if_pos (),if_pos d];rfl
    .rw [if_neg (),if_neg d];rfl
theorem tO(g:Nat):∀gs:ϊ Nat,uY (gs.map (g+ ·))=(uY gs).map λt=>(g+t.1,t.2)
 |[]=>rfl
 |x::r=>by
  rw[È,qO,qO,tO g r,<-KH];rfl
theorem xJ:∀gs:ϊ Nat,(uY gs=none/\gs=[])\/∃t,uY gs=!t/\t.1∈gs/\(∀g∈gs,t.1<=g)/\t.2=gs.countP λg=>decide (g=t.1)
 |[]=>Or.inl #[rfl,rfl]
 |x::r=>by
  right;rw[qO];rcases xJ r with⟨h1,h2⟩|⟨t,h1,h2,h3,h4⟩
  .rw [h1,h2];show#[(x,1),rfl,by simp,by simp,by simp]
  .rw [h1];change∃u,(if x=t.1 then !(x,1+t.2)else if x<t.1 then !(x,1)else !t)=!u/\_;by_cases a:x=t.1
   .rw [if_pos a];show#[_,rfl,by simp,λg mg=>?_,?_]
    .rcases Ç.mp mg with rfl|mg
     .show Ä _
     .have:=h3 g mg;dsimp only;show oG a this
    .dsimp only;rw[List.countP_cons_of_pos (by simp),a,h4];rfl'
   .rw [if_neg a];by_cases b:x<t.1
    .rw [if_pos b];show#[_,rfl,by simp,λg mg=>?_,?_]
     .rcases Ç.mp mg with rfl|mg
      .show Ä _
      .have:=h3 g mg;dsimp only;show Î (ï b) this
     .dsimp only;rw[List.countP_cons_of_pos (by simp),List.countP_eq_zero.mpr λg mg=>by have:=h3 g mg;simp;rfl']
    .rw [if_neg b];show#[t,rfl,Ì _ h2,λg mg=>?_,?_]
     .rcases Ç.mp mg with rfl|mg
      .show Ho b
      .show h3 g mg
     .rw [List.countP_cons_of_neg (by simpa using a)];show h4
theorem KJ{x:Nat}:∀{b:ϳ},(∀w∈b,thr gs rows x w=uY (F w))->j8 gs rows x b=uY (b.flatMap F):=λ{b} h=>by
 have c:∀(b:ϳ) a,(∀w∈b,thr gs rows x w=uY (F w))->b.foldl (λa w=>mgT a (thr gs rows x w)) a=mgT a (uY (b.flatMap F)):=λb=>by
  induction b with
  |nil=>intro a _;show(qN a).symm
  |cons w r ih=>
   intro a h;rw[Ń,ih _ λy d=>h y (Ì _ d),h w É,Ł,QJ,tM]
 show c b none h
section
variable{h:Nat}
theorem IsP.best(P:IsP ls xs ds es rows)(o:Fo.Wf h ls)(i:∀ps∈ds,∀q∈ps,0<=q.2/\q.2<↑ds):∀(n x room:Nat),x<=↑xs->↑xs-x<=n->room<↑ds->(rows.getD x []).getD room none=uY ((PT (ds.map (aG ls)) es n (↑xs-x) room).map λp=>Mm.aY (bW p) (xs.drop x)):=by
 have b:∀(n x room:Nat),x=↑xs->room<↑ds->(rows.getD x []).getD room none=uY ((PT (ds.map (aG ls)) es n (↑xs-x) room).map λp=>Mm.aY (bW p) (xs.drop x)):=λn x room f a=>by
  subst f;rw[Nat.sub_self,P.last];have e:PT (ds.map (aG ls)) es n 0 room=if(room:Int)∈es then[[]]else[]:=by cases n<;>rfl
  rw[e];unfold di;rw[Xs,Jn,ž a];change(if(room:Int)∈es then !(0,1)else none)=_;by_cases c:(room:Int)∈es
  .rw [if_pos c,if_pos c];simp[bW,Mm.aY,uY,mgT]
  .rw [if_neg c,if_neg c];rfl
 intro n;induction n with
 |zero=>intro x room f l a;show b 0 x room (qkQ l f) a
 |succ n ih=>
  intro x room f l a;by_cases j:x<↑xs
  .obtain ⟨k,s⟩:∃k,↑xs-x=k+1:=#[↑xs-x-1,()];rw[s];change _=uY ((((ds.map (aG ls)).getD room []).flatMap λw=>if↑w.2.1<=k+1 then(PT (ds.map (aG ls)) es n (k+1-↑w.2.1) w.2.2.toNat).map (w::·)else[]).map _);rw[List.map_flatMap,P.at_ x j,Xs,Jn,Jn,Qr a,uU a];change j8 (lq xs x ls) rows x (aG ls ds[room])=_;show KJ λw u=>?_
   let#[lk,t]:=oU u;have r:=o.c1 _ (Fo.bI lk);have m:=i _ (Ó a) _ t;dsimp only at r m;unfold thr;rw[uT (dW o.up),lk];change(match(if x+↑w.2.1<=↑xs then !(Mm.aY w.2.1 ((xs.drop x).take ↑w.2.1))else none)with|none=>none|some g=>_)=_;by_cases d:x+↑w.2.1<=↑xs
   .rw [if_pos d,if_pos ()];dsimp only;rw[ih (x+↑w.2.1) w.2.2.toNat d () (Xn m),<-tO,Æ,Æ,show↑xs-(x+↑w.2.1)=k+1-↑w.2.1 by rfl'];congr 1;show Ā ?_;intro p _;change Mm.aY w.2.1 _+Mm.aY (bW p) _=Mm.aY (w.2.1++bW p) (xs.drop x)
    conv=>rhs;rw[<-Ē ↑w.2.1 (xs.drop x)]
    rw[Mm.fc (by rw[Ô,î];rfl'),List.drop_drop]
   .rw [if_neg d,if_neg ()];rfl
  .show b (n+1) x room (qnE f j) a
end
def Gw(ls:ϵ)(ds:L2S):Nat->ϳ->Nat->Prop
 |r,[],r'=>r=r'
 |r,w::p,r'=>r<↑ds/\Hs.dr (ds.getD r []) w.1=!w.2.2/\Fo.lk ls w.1=!w.2.1/\0<=w.2.2/\Gw ls ds w.2.2.toNat p r'
theorem nj{r:Int}:∀{ps:L1S},(ps.map (·.1)).Nodup->(s,r)∈ps->Hs.dr ps s=!r
 |[],_,h=>by cases h
 |p::ps,hnd,h=>by
  rw[È,é]at hnd;rw[Hs.jP];rcases Ç.mp h with h|h
  .rw [<-h,if_pos rfl]
  .rw [if_neg (λe=>hnd.1 (by rw[e];show Zl.mpr #[_,h,rfl])),nj hnd.2 h]
theorem IsP.path{h:Nat}(P:IsP ls a ds e rows)(B:Fo.Wf h ls)(o:∀ps∈ds,∀q∈ps,0<=q.2/\q.2<↑ds)(r:∀ps∈ds,(ps.map (·.1)).Nodup):∀(n x room:Nat)(t:ϻ),x<=↑a->room<↑ds->↑a-x<=n->(rows.getD x []).getD room none=!t->∃R:Nat,Gw ls ds room (nT ls a (ds.map (aG ls)) rows n x room) R/\(R:Int)∈e/\↑(bW (nT ls a (ds.map (aG ls)) rows n x room))=↑a-x/\Mm.aY (bW (nT ls a (ds.map (aG ls)) rows n x room)) (a.drop x)=t.1:=λn=>by
 have fin:∀(n x room:Nat)(t:ϻ),x=↑a->room<↑ds->(rows.getD x []).getD room none=!t->∃R:Nat,Gw ls ds room (nT ls a (ds.map (aG ls)) rows n x room) R/\(R:Int)∈e/\↑(bW (nT ls a (ds.map (aG ls)) rows n x room))=↑a-x/\Mm.aY (bW (nT ls a (ds.map (aG ls)) rows n x room)) (a.drop x)=t.1:=λn x room t f d b=>by
  subst f;rw[BL (Ĉ _)];rw[P.last]at b;unfold di at b;rw[Xs,Jn,ž d]at b;change(if(room:Int)∈e then !(0,1)else none)=!t at b;by_cases c:(room:Int)∈e
  .rw [if_pos c]at b
   cases b;show#[room,rfl,c,by simp[bW],by simp[bW,Mm.aY]]
  .rw [if_neg c]at b;cases b
 induction n with
 |zero=>intro x room t f d y b;show fin 0 x room t (qkQ y f) d b
 |succ n ih=>
  intro x room t f d y b;by_cases j:x<↑a
  .obtain ⟨w,g,u,K,M,z,i,N,O,A,T,Q,L⟩:=P.step B o j d b;let#[R,G,H,I,J]:=ih (x+↑w.2.1) w.2.2.toNat u A () () N;rw[xF j b K];have m:ds[room]?=!ds[room]:=Qr d;have D:ds.getD room []=ds[room]:=by rw[Xs,m];rfl
   let#[p,s,E]:=ì.mp (show w∈(ds.getD room []).filterMap _ from M);let#[S,C,v]:=Ï.mp E;have k:p.1=w.1:=Ý (·.1) v;have l:p.2=w.2.2:=Ý (·.2.2) v;have F:g=Mm.aY w.2.1 ((a.drop x).take ↑w.2.1):=by
    rw[uT (dW B.up),z]at i;change(if x+↑w.2.1<=↑a then !(Mm.aY w.2.1 ((a.drop x).take ↑w.2.1))else none)=!g at i;rw[if_pos A]at i;show(ß i).symm
   show#[R,#[d,?_,z,Q,G],H,?_,?_]
   .show nj (r _ (by rw[D];show Ó d)) ?_;rw[<-k,<-l];show s
   .show ↑(w.2.1++bW _)=_;rw[Â,I];rfl'
   .show Mm.aY (w.2.1++bW _) _=_;rw[<-Ē ↑w.2.1 (a.drop x),Mm.fc (by rw[Ô,î];rfl'),List.drop_drop,J,<-F];show O
  .show fin (n+1) x room t (qnE f j) d b
def ou(p:ϳ):ϊ Nat:=(p.map λw=>w.1.cps.toList).flatten
section
variable{h:Nat}
theorem Eg(u:∀r∈wss,r.Pairwise (λa b=>lC a.1 b.1) /\∀w∈r, ∃c,w.1=tx [c]):∀n k room,(PT wss es n k room).Pairwise λp q=>ou p < ou q:= by
 have zero:∀n room,(PT wss es n 0 room).Pairwise λp q=>ou p<ou q:=λn room=>by
  have e:PT wss es n 0 room=if(room:Int)∈es then[[]]else[]:=by cases n<;>rfl
  rw[e];split<;>simp
 intro n;induction n with
 |zero=>intro k room;cases k with
  |zero=>show zero 0 room
  |succ k=>show List.Pairwise.nil
 |succ n ih=>
  intro k room
  cases k with
  |zero=>show zero _ room
  |succ k=>
   change List.Pairwise _ ((wss.getD room []).flatMap _);rw[List.pairwise_flatMap];rcases Kq (wss:=wss) room with e|m
   .rw [e];simp
   .obtain ⟨t,h⟩:=u _ m;show#[λw A=>?_,t.imp_of_mem λ{a b} v z f x l y o=>?_]
    .split
     .rw [ŀ];show(ih _ _).imp λ{p q} j=>?_
      let#[c,g]:=h w A;change w.1.cps.toList++ou p<w.1.cps.toList++ou q;rw[g];change c::ou p<c::ou q;show List.cons_lt_cons_iff.mpr (Or.inr #[rfl,j])
     .show List.Pairwise.nil
    .obtain ⟨c,g⟩:=h a v;let#[d,s]:=h b z;split at l
     .split at o
      .obtain ⟨p,_,rfl⟩:=Zl.mp l;let#[q,_,rfl]:=Zl.mp o;change a.1.cps.toList++ou p<b.1.cps.toList++ou q;rw[g,s]at f⊢;have i:c<d:=by
        have:[c]<[d]:=f;rcases List.cons_lt_cons_iff.mp this with h3|⟨_,h3⟩
        .show h3
        .show absurd h3 (Ő [])
       change c::ou p<d::ou q;show List.cons_lt_cons_iff.mpr (Or.inl i)
      .cases o
     .cases l
theorem QK(d:(e.map (·.1)).Pairwise lC):(aG ls e).Pairwise λa b=>lC a.1 b.1:=by
 unfold aG;rw[List.pairwise_filterMap];rw[ŀ]at d;show d.imp λ{a b} c x f y g=>?_
 let#[_,_,rfl]:=Ï.mp f;let#[_,_,rfl]:=Ï.mp g;show c
theorem Wo(k:Fo.Wf h ls)(i:∀ps∈ds,(ps.map (·.1)).Pairwise lC):∀f∈ds.map (aG ls),f.Pairwise (λa b=>lC a.1 b.1)/\∀w∈f,∃c,w.1=tx [c]:=λf e=>by
 let#[ps,d,rfl]:=Zl.mp e;show#[QK (i ps d),λw j=>?_];let#[n,g]:=k.sg _ (Fo.bI (oU j).1);show#[_,g]
theorem KN(q:Fo.Wf h ls)(m:(R:Int)∈es):∀(p:ϳ)(n room:Nat),Gw ls ds room p R->↑(bW p)<=n->p∈PT (ds.map (aG ls)) es n ↑(bW p) room:=λp=>by
 induction p with
 |nil=>
  intro n room a _
  cases(show room=R from a);have e:PT (ds.map (aG ls)) es n ↑(bW []) R=if(R:Int)∈es then[[]]else[]:=by cases n<;>rfl
  rw[e,if_pos m];simp
 |cons w p ih=>
  intro n room a o;let#[d,j,f,r,l]:=a;have c:=(q.c1 _ (Fo.bI f)).1;dsimp only at c;have i:↑(bW (w::p))=↑w.2.1+↑(bW p):=by change↑(w.2.1++bW p)=_;rw[Â]
  rw[i]at o⊢;let#[b,rfl]:∃b,n=b+1:=#[n-1,()];let#[k,g]:∃k,↑w.2.1+↑(bW p)=k+1:=#[↑w.2.1+↑(bW p)-1,Eq.symm (qp1 (qsT c _))];rw[g];change w::p∈((ds.map (aG ls)).getD room []).flatMap _;rw[uU d];show ó.mpr #[w,ì.mpr #[(w.1,w.2.2),?_,by dsimp only;rw[f];rfl],?_]
  .have:=Hs.kZ j;rw[Xs,Qr d]at this;show this
  .rw [if_pos ()];show Zl.mpr #[p,?_,rfl];rw[show k+1-↑w.2.1=↑(bW p)by rfl'];show ih b _ l ()
theorem KQ(h:∀ps∈ds,(ps.map (·.1)).Nodup)(g:∀ps∈ds,∀q∈ps,0<=q.2/\q.2<↑ds):∀(n k room:Nat),∀p∈PT (ds.map (aG ls)) es n k room,∃R:Nat,Gw ls ds room p R/\(R:Int)∈es/\↑(bW p)=k:=by
 have zero:∀n room,∀p∈PT (ds.map (aG ls)) es n 0 room,∃R:Nat,Gw ls ds room p R/\(R:Int)∈es/\↑(bW p)=0:=λn room p a=>by
  have e:PT (ds.map (aG ls)) es n 0 room=if(room:Int)∈es then[[]]else[]:=by cases n<;>rfl
  rw[e]at a;split at a
  .rename_i c;rw[Zs.mp a];show#[room,rfl,c,rfl]
  .cases a
 intro n;induction n with
 |zero=>intro k room p a;cases k with
  |zero=>show zero 0 room p a
  |succ k=>cases a
 |succ n ih=>
  intro k room p a
  cases k with
  |zero=>show zero _ room p a
  |succ k=>
   let#[w,f,a]:=ó.mp (show p∈((ds.map (aG ls)).getD room []).flatMap _ from a);by_cases b:room<↑ds
   .rw [uU b]at f;let#[lk,d]:=oU f;split at a
    .rename_i m;let#[j,i,rfl]:=Zl.mp a;let#[R,o,r,s]:=ih _ _ j i;have t:=g _ (Ó b) _ d;have l:ds.getD room []=ds[room]:=by rw[Xs,Qr b];rfl
     show#[R,#[b,by rw[l];show nj (h _ (Ó b)) d,lk,t.1,o],r,by change↑(w.2.1++bW j)=_;rw[Â,s];rfl']
    .cases a
   .rw [Xs,ë (by rw[Qb];show Ho b)]at f
    cases f
end
inductive sp_f21(K:Ϗ)(vs:ϊ V)(H:Hp)(Q:VK)(E:XK):Prop
 |mk (f e p:ό) (h:Nat) (b:ϵ) (a:L2S) (d:ϊ Int) (c:ϊ Nat) (i:vs=[.ref f,.ref e,.ref p]) (j:FnF K H f h b) (k:Fo.Wf h b) (l:HsG K H e a d) (m:↑a<=40) (n:(∀ps∈a,↑ps<=1000/\∀q∈ps,0<=q.2/\q.2<↑a)) (o:SqL K H p (nv c)) (r:↑c<=1000) (s:∀pp H' g,Same H H'->H pp=none->PpN H H' pp (fil b c (a.map (aG b)) (di d ↑a) ↑c) g->Q (.ref pp) H')
abbrev KR K:=(aA (cD (Rj (lg (aL pR (dZ K bR) (tI 1)) (R4 pW (tI 1)) (R4 pW (tI 1)))) (ak 5) (aA (aK (bN (sp_f51 K) (lg aQ bR fY)) (ak 6))
  (aK (jr [none,!6,!4,!5] (bY K cC) (ak 0) cZ (bN (sp_f48 K) (zc aQ bc bR cC))) (Cj cX fY nH))))
  (aP cX))
abbrev KY K:=(aA (aK (jr [none] (eZ (cj (aL bQ (dZ K bR) (tI 1)))) (ak 0) cZ (fC f9)) (ak 4))
  (aA (aK (jr [none,!1] (eZ (cj (dZ K cC))) (ak 0) cZ (XC (aN (aL (El K false) aQ (tX K bc 1))) (cU (cA (tI 0) (tI 1))) (tC V.non))) (Cj cX (dZ K bR) nH))
  (KR K)))
abbrev KZ K(E:XK)(Eh:XK):=(aA (aK (bN (sp_f56 K) (cA aQ bc)) (ak 3))
  (KY K))
abbrev qP:ϊ ϐ:=sN ["font","house","strip","ways","paper","x","gaps"]
theorem Wq(h:sp_f21 K vs H Q E):RG (KZ K E) qP vs H Q:=by
 let#[f,ha,p,h,n,s,B,d,rfl,hF,wf,hH,L,ay,hP,be,q]:=h;show#[E0,?_];have bq:=dW wf.up;apply#[f,ha,h,n,s,B,rfl,hF,wf,hH,dG L,λps m=>(ay ps m).1,λwa H1 s1 b3 hW=>?_];apply cg (s1.seq hP) ?_;rw[Qb];symm;rw[show(↑d:Int)+1=((↑d+1:Nat):Int)by show rfl];show V0 (↑d+1) (Ð _) (dG (Ķ be)) (qmN (_+1)) (λi x hi A kA=>?_) λC H2 D s2 a9 aw ax a8 ab a7=>?_
 .symm;intro p' ae;show kA p' ae
 symm;let#[rs,w1,w2,w3]:=id hW;have ag:↑rs=↑s:=by have:=Ý List.length w1;rw[Qb,Qb]at this;show this
 let#[hd,he,b2,a1,a2,a3,a4,a5]:=id hH;have S2:=s1.trans s2;show cg (SqL.of (s2.get w2)) ?_;rw[Qb,ag];show yS ↑s (Ð _) (dG L) (qmN _) (λi l x=>(An3 (Same H2 x) (↑l=i) (∀(j:Nat) v,l[j]?=!v->ThP x v (if(j:Int)∈B then !(0,1)else none)))) #[Same.refl _,rfl,by simp] ?_ ?_ ?_
 .rintro i l x ⟨_,X,_⟩;show Ě X
 .rintro i l x hi ⟨P,X,hy⟩;have S':=S2.trans P;have bi:∀v H4,Same x H4->ThP H4 v (if(i:Int)∈B then !(0,1)else none)->(An3 (Same H2 H4) (↑(l++[v])=i+1) (∀(j:Nat) u,(l++[v])[j]?=!u->ThP H4 u (if(j:Int)∈B then !(0,1)else none))):=λv H4 s4 Y=>⟨P.trans s4,by simp[X],λj u z=>by
   by_cases N:j<↑l
   .rw [ê N]at z;show(hy j u z).same s4
   .rw [å (Ho N)]at z;have e0:j-↑l=0:=by
     have:=(À.mp z).1;simp at this;show this
    rw[e0]at z
    cases z;rw[show j=i by rfl'];show Y⟩
  apply dh (S'.get a1) ?_;apply HF (.inr (SqT.of (S'.get a5))) rfl (jC _) ?_;rw[oH];apply dw (λc=>?_) λc=>?_
  .symm;intro t O;show bi _ _ (aq O _) (by rw[if_pos c];show#[t,rfl,aa])
  .symm;show bi _ _ (Same.refl _) (by rw[if_neg c];rfl)
 rintro l H3 ⟨s3,bg,hy⟩ b W;symm;have S3:=(S2.trans s3).new W (o:=HO.lst l);show cg (S3.seq hP) ?_;rw[Qb];have ai:=s3.new W (o:=HO.lst l);have T:H2 b=none:=s3.free W;have ap:PpN H (upd H3 b (HO.lst l)) C (List.replicate (↑d+1) []) D:=by
  show#[by rw[aw,ç],ai.get a7,λi a ts ha br=>?_,λi j a hi z=>?_,λa ma=>s1.free (ab a ma).1,a8]
  .have:ts=[]:=List.eq_of_mem_replicate (Yf br);subst this;show#[[],ai.get (ab a (Yf ha)).2,rfl,by simp]
  .show (List.getElem?_inj (À.mp hi).1 ax).mp (hi.trans z.symm)
 have I:b∉D:=λm=>by rw[(ab b m).2]at T;cases T
 have J:b≠C:=rE a7 T;have G:RwP (upd H3 b (HO.lst l)) b (di B ↑s):=by
  show#[l,aa,by unfold di;rw[Qb,ú,bg],λi v t Y O=>?_];unfold di at O;have bo:i<↑s:=by have:=(À.mp Y).1;show qgT this bg
  rw[Jn,ž bo]at O
  cases O;show(hy i v Y).same (aq W _)
 have U:=ap.put (k:=↑d) G (S2.free T) I J;show uH ↑d ap.at_ rfl (by rw[Qb,aw];show Xr rfl) ?_;have er:(List.replicate (↑d+1) ([]:Ϲ)).set ↑d (di B ↑s)=List.replicate (↑d-0) []++fil n d (s.map (aG n)) (di B ↑s) 0:=by
  rw[š,List.set_append,if_neg (by rw[ç];show Ĉ _),ç,Nat.sub_self,Nat.sub_zero];rfl
 rw[er]at U;have bb:H C=none:=s1.free a9;have ac:∀p'∈[C],H1 p'=none:=λp' ae=>by rw[Zs.mp ae];show a9
 have ah:Sb [C] H1 (upd (upd H3 b (HO.lst l)) C (.lst ((D.map V.ref).set ↑d (.ref b)))):=(Sb.of (s2.trans ai)).set (by simp);generalize upd (upd H3 b (HO.lst l)) C (.lst ((D.map V.ref).set ↑d (.ref b)))=H4 at U ah;generalize D.set ↑d b=as1 at U;have ad:↑(di B ↑s)=↑(s.map (aG n)):=by unfold di;rw[Qb,ú,Qb]
 apply cg ((s1.trans (ah.off ac)).seq hP) ?_;rw[Qb];apply V5 ↑d () (by decide) (by decide) () () (λi σ x=>(Ex1 λD=>(An4 (i<=↑d) (Sb [C] H1 x) (PpN H x C (List.replicate (↑d-i) []++fil n d (s.map (aG n)) (di B ↑s) i) D) (Ex2 λo1 o2=>σ=[!(.ref f),!(.ref ha),!(.ref p),!(.ref wa),!(.ref C),o1,o2])))) ?_ ?_ ?_
 .show #[as1,à _,ah,U,none,none,rfl]
 .rintro i σ x hi ⟨D,_,sb,R,o1,o2,rfl⟩;have S:=sb.off ac;have SH:=s1.trans S;rw[show(↑d:Int)-1-(i:Int)=((↑d-1-i:Nat):Int)by rfl'];have bd:↑d-1-i+1=↑d-i:=by show qkP hi
  have a6:=uV n d (s.map (aG n)) (di B ↑s) i;have M:=uW (ls:=n) (xs:=d) ad i;generalize hfe:fil n d (s.map (aG n)) (di B ↑s) i=fi at R a6 M;apply#[f,p,h,↑d-1-i,n,d,rfl,hF.t.same SH,wf,SH.seq hP,be,(),λga H5 s5 b1 eg=>?_];symm;have am:∀r∈rs,∀w∈r.2,InP (lq d (↑d-1-i) n) (List.replicate (↑d-i) []++fi) (↑d-1-i) w:=λr mr w mw g hg=>by
   have bv:r.2∈s.map (aG n):=by rw[<-w1];show Zl.mpr #[r,mr,rfl]
   let#[ps,bs,bl]:=Zl.mp bv;rw[<-bl]at mw;let#[q',mq,eq]:=ì.mp mw;let#[co,al,rfl]:=Ï.mp eq;have b0:=zN bq al hg;have bn:=(wf.c1 _ (Fo.bI al)).1;have hq:=(ay ps bs).2 q' mq;dsimp only at bn⊢;show#[by rw[Â,ç,a6];rfl',hq.1,?_];rw[Xs,å (by rw[ç];rfl'),ç,Qr (),Option.getD_some,M _ (Ó _),Qb];show Xn hq
  have Z:=S.trans s5;show nY (λr:ό×ϊ (ϴ)=>V.ref r.1) (zs:=rs) (SqL.of (Z.get w2)) (dG (oG ag L)) (λk l x=>(An3 (Same H5 x) (↑l=k) (∀(j:Nat) v r,l[j]?=!v->rs[j]?=!r->ThP x v (j8 (lq d (↑d-1-i) n) (List.replicate (↑d-i) []++fi) (↑d-1-i) r.2)))) #[Same.refl _,rfl,by simp] ?_ ?_ ?_ ?_
  .rintro k l x ⟨P,_⟩;show SqL.of ((Z.trans P).get w2)
  .rintro k l x ⟨_,X,_⟩;show Ě X
  .rintro k r l H6 hk ⟨P,X,hy⟩;have mr:=Yf hk;apply#[r.1,ga,C,↑d-1-i,r.2,_,_,rfl,(w3 r mr).same (Z.trans P),P.get eg,R.t.same (s5.trans P),am r mr,λv H7 s7 Y=>?_];apply#[P.trans s7,by simp[X],λj u r' z af=>?_];by_cases N:j<↑l
   .rw [ê N]at z;show(hy j u r' z af).same s7
   .rw [å (Ho N)]at z;have e0:j-↑l=0:=by
     have:=(À.mp z).1;simp at this;show this
    rw[e0]at z
    cases z;rw[show j=k by rfl',hk]at af
    cases af;show Y
  .rintro l H6 ⟨P,X,hy⟩ b W;have s6:=s5.trans P;have F:x b=none:=s6.free W;have ar:=(R.same s6).same (aq W (HO.lst l));have I:b∉D:=λm=>by
    let#[j,z,ej]:=ă.mp m;have bp:j<↑(List.replicate (↑d-i) []++fi):=by rw[<-R.len];show z
    let#[vs,e1,_]:=R.row j b _ (by rw[Qr z,ej]) (Qr bp);rw[e1]at F;cases F
   have J:b≠C:=λe=>by rw[e,R.at_]at F;cases F
   have G:RwP (upd H6 b (HO.lst l)) b ((s.map (aG n)).map λws=>j8 (lq d (↑d-1-i) n) (List.replicate (↑d-i) []++fi) (↑d-1-i) ws):=by
    show#[l,aa,by rw[X,Qb,Qb,ag],λj v t Y O=>?_];rw[Jn,<-w1,Jn]at O
    cases hrj:rs[j]?with
    |none=>rw[hrj]at O;cases O
    |some r=>
     rw[hrj]at O
     cases O;show(hy j v r Y hrj).same (aq W _)
   have av:=ar.put (k:=↑d-1-i) G (SH.free F) I J;apply uH (↑d-1-i) ar.at_ rfl (by rw[Qb,R.len,Â,ç];rfl') ?_;apply#[D.set (↑d-1-i) b,hi,(sb.same (s6.trans (aq W _))).set (by simp),?_,_,_,rfl];have bm:(List.replicate (↑d-i) ([]:Ϲ)++fi).set (↑d-1-i) ((s.map (aG n)).map λws=>j8 (lq d (↑d-1-i) n) (List.replicate (↑d-i) []++fi) (↑d-1-i) ws)=List.replicate (↑d-(i+1)) []++fil n d (s.map (aG n)) (di B ↑s) (i+1):=by
    change _=_++(_::fil n d (s.map (aG n)) (di B ↑s) i);rw[hfe,List.set_append,if_pos (by rw[ç];show Xr (bd.symm))];have e9:List.replicate (↑d-i) ([]:Ϲ)=List.replicate (↑d-1-i) []++[[]]:=by rw[<-bd,š]
    have bk:∀y:Ϲ,(List.replicate (↑d-i) ([]:Ϲ)).set (↑d-1-i) y=List.replicate (↑d-1-i) []++[y]:=λy=>by
     rw[e9,List.set_append,if_neg (by rw[ç];show Ĉ (_-1-_)),ç,Nat.sub_self];rfl
    rw[bk,ð,show↑d-(i+1)=↑d-1-i by rfl'];rfl
   rw[bm]at av;show av
 .rintro σ x ⟨D,_,sb,R,o1,o2,rfl⟩;rw[Nat.sub_self]at R;apply q C x D (s1.trans (sb.off ac)) bb R
inductive sp_f35(K:Ϗ)(vs:ϊ V)(H:Hp)(Q:VK)(E:XK):Prop
 |mk (f e g:ό) (x b:Nat) (d:ϳ) (c:ϊ (ϐ×Nat)) (a:ϊ (Ϲ)) (i:vs=[.ref f,.ref e,.ref g,.int x,.int b]) (j:LdT H f d) (k:H e=!(.dK (Km c))) (l:PpT H g a) (m:(∀w∈d,InP c a x w)) (n:(∃w,d.find? (zP c a x b)=!w)) (o:∀h w H',Same H H'->d.find? (zP c a x b)=!w->WyT H' (h,w)->Q (.ref h) H')
abbrev La K(E:XK)(Eh:XK):=(aA (cD (bY K aQ) (ak 5) (aA (aK (bN (sp_f3 K) (zc fY bc bR cC)) (ak 6))
  (bB (qU (aN (aL mO j6 (tC V.non))) (aN (aL pB (tX K j6 0) cX))) (aP fY) aV)))
  (aP (tC V.non)))
abbrev Lb:ϊ ϐ:=sN ["leads","gaps","paper","x","far","way","thing"]
theorem Wr(h:sp_f35 K vs H Q E):RG (La K E) Lb vs H Q:=by
 let#[X,I,O,x,g,s,l,a,rfl,#[F,k,G,M],T,U,A,#[Y,m],q]:=h;show#[E0,?_];have B:↑F=↑s:=by rw[<-k,Qb]
 apply fK (λz:Wz=>V.ref z.1) (zs:=F) (SqL.of G) (λi v o=>(An3 (Same H o) (∀w∈s.take i,zP l a x g w=false) (Ex2 λC D=>v=[!(.ref X),!(.ref I),!(.ref O),!(.int (x:Nat)),!(.int (g:Nat)),C,D]))) #[Same.refl _,by simp,none,none,rfl] ?_ ?_ ?_
 .rintro i v o ⟨f,_⟩;show SqL.of (f.get G)
 .rintro i ⟨P,w⟩ v o L ⟨f,c,C,D,rfl⟩;have N:=Yf L;have j:s[i]?=!w:=by rw[<-k,Jn,L];rfl
  have n:zP l a x g w=false->∀y∈s.take (i+1),zP l a x g y=false:=λW y my=>by
   rw[Í,j]at my;rcases Å.mp my with my|my
   .show c y my
   .rw [Zs.mp my];show W
  apply#[P,I,O,x,w,l,a,rfl,(M _ N).same f,f.get T,U.same f,A w (Yf j),λu R r p=>?_];symm
  cases ht:thr l a x w with
  |none=>
   rw[ht]at p
   cases p;show gC rfl ?_;apply#[f.trans r,n (by unfold zP;rw[ht];rfl),_,_,rfl]
  |some t=>
   rw[ht]at p;let#[b,rfl,S]:=p;show jW (λ_=>?_) λd=>nomatch d
   apply fH S ?_;apply dw (λd=>?_) λd=>?_
   .symm;show q P w R (f.trans r) (QH j c ?_) ((M _ N).same (f.trans r));unfold zP;rw[ht];show Ù (Ý some (by dsimp only;show Qe d))
   .symm;show#[f.trans r,n ?_,_,_,rfl];unfold zP;rw[ht];show Ü λe=>d (by have:=ß e;dsimp only at this;rfl')
 .rintro v o ⟨f,c,C,D,rfl⟩;rw[è (oG (B.symm) (Ä _))]at c;have J:=c Y (Ċ m);rw[ų m]at J
  cases J
inductive sp_f28(K:Ϗ)(vs:ϊ V)(H:Hp)(Q:VK)(E:XK):Prop
 |mk (f g p i:ό) (h:Nat) (c:ϵ) (b:L2S) (e:ϊ Int) (d:ϊ Nat) (a:ϊ (Ϲ)) (m:vs=[.ref f,.ref g,.ref p,.ref i]) (n:FnF K H f h c) (o:Fo.Wf h c) (r:HsG K H g b e) (s:(1<=↑b/\↑b<=40)) (u:(∀ps∈b,↑ps<=1000)) (v:(∀ps∈b,∀q∈ps,0<=q.2/\q.2<↑b)) (w:SqL K H p (nv d)) (x:↑d<=1000) (y:PpT H i a) (j:IsP c d b e a) (k:(∃t,(a.getD 0 []).getD 0 none=!t)) (l:∀H',Same H H'->Q (.str (Txt.join (Str.ofString "") ((nT c d (b.map (aG c)) a ↑d 0 0).map (·.1)))) H')
abbrev Ld K:=(aA (aK (bN (sp_f35 K) (dY (aL (cu K) cX j6) (zc (bN (sp_f51 K) (lg aQ bR oN)) cC oN (tX K (aL (cu K) (aL (cu K) cC oN) j6) 0)))) (ak 8))
  (aA (cG (qT K "list" cI fY (cj (tX K mD 0))))
  (aA (O3 7 (dZ K (tX K mD 1)) Al)
  (aK (tX K mD 2) (ak 6)))))
abbrev Le K(E:XK)(Eh:XK):=(aA (aK (bN (sp_f56 K) (cA aQ bc)) (ak 4))
  (aA (aK (fC f9) (ak 5))
  (aA (aK (tI 0) (ak 6))
  (aA (aK (tI 0) (ak 7))
  (aA (gQ (aN (aL rB oN (dZ K bR))) (Ld K))
  (aP (qT K "str" (rJoin K) (tC (V.str (Str.ofString ""))) (cj fY))))))))
abbrev Lf:ϊ ϐ:=sN ["font","house","strip","paper","ways","signs","room","x","way"]
theorem Ws(h:sp_f28 K vs H Q E):RG (Le K E) Lf vs H Q:=by
 let#[f,ha,p,pp,h,G,J,es,F,A,rfl,hF,wf,hH,#[Y,Z],ap,ab,hP,a1,ad,P,#[t0,ay],q]:=h;show#[E0,?_];apply#[f,ha,h,G,J,es,rfl,hF,wf,hH,dG Z,ap,λwa H1 s1 a5 hW=>?_];let#[rs,w1,w2,w3]:=id hW;have ax:↑rs=↑J:=by have:=Ý List.length w1;rw[Qb,Qb]at this;show this
 symm;intro O ae;symm;have ar:∀p'∈[O],H1 p'=none:=λp' av=>by rw[Zs.mp av];show ae
 show uG (λσ H'=>(Ex5 λ(B:ϳ) (x d n:Nat) (t:ϻ)=>(An10 (Sb [O] H1 H') (H' O=!(.lst (B.map λw=>V.str w.1))) (x<=↑F) (d<↑J) (↑F-x<=n) (B++nT G F (J.map (aG G)) A n x d=nT G F (J.map (aG G)) A ↑F 0 0) ((A.getD x []).getD d none=!t) (↑B<=x) (∀w∈B,↑w.1=1) (Ex1 λo=>σ=[!(.ref f),!(.ref ha),!(.ref p),!(.ref pp),!(.ref wa),!(.ref O),!(.int (d:Nat)),!(.int (x:Nat)),o])))) (λσ _=>match σ with|[_,_,_,_,_,_,_,!(.int x),_]=>↑F-x.toNat|_=>0) ⟨[],0,0,F.length,t0,Sb.of (aq ae _),aa,à _,Y,Ä _,rfl,ay,Ä _,by simp,none,rfl⟩ ?_ ?_
 .rintro σ H' ⟨B,x,d,n,t,sb,U,hx,m,hn,D,ht,aw,ac,o,rfl⟩;have S:=sb.off ar;have SH:=s1.trans S;apply cg (SH.seq hP) ?_;rw[Qb];apply dw (λc=>?_) λc=>?_
  .have cx:x<↑F:=by show Uv c
   let#[w,g,u,k1,k2,k3,k4,k5,k6,k7,k8,k9,a2]:=P.step wf ab cx m ht;let#[I,L]:∃I,rs[d]?=!I:=#[_,Qr (En m ax)];have ah:(J.map (aG G))[d]?=!I.2:=by rw[<-w1,Jn,L];rfl
   have W:(J.map (aG G)).getD d []=I.2:=by rw[Xs,ah];rfl
   rw[W]at k1;apply qt (S.get w2) L ?_;apply#[f,p,h,x,G,F,rfl,(hF.same SH).t,wf,SH.seq hP,a1,hx,λga H5 s5 a4 eg=>?_];have S5:=S.trans s5;have T:=s1.trans S5;let#[as,am,ep,hr]:=ad.same T;have ai:x<↑A:=by rw[P.len];show qsT (Uv c) _
   let#[a,X]:∃a,as[x]?=!a:=#[_,Qr (En ai am)];let#[R,N]:∃R,A[x]?=!R:=#[_,Qr ai];let#[vs,e1,e2,e3]:=hr x a R X N;have M:=P.row R (Yf N);let#[v,hv]:∃v,vs[d]?=!v:=#[_,Qr (En m (Eq.trans e2 M))];have af:R[d]?=!(!t):=by
    rw[show A.getD x []=R by rw[Xs,N];rfl,Xs,Qr (En m M)]at ht;rw[Qr (En m M)];show Ý some ht
   let#[b,rfl,eb]:=e3 d v _ hv af;apply dF (SqL.of ep) (aM (j:=x) (v:=.ref a) (by rw[Jn,X];rfl)) ?_;apply dF (SqL.of e1) (aM (j:=d) (v:=.ref b) hv) ?_;apply fH eb ?_;apply#[I.1,ga,pp,x,t.1,I.2,_,A,rfl,(w3 I (Yf L)).same S5,eg,ad.same T,P.inP wf ab x I.2 (Yf ah),#[w,k1],λya w' H6 s6 ag hy=>?_];rw[k1]at ag
   cases ag;let#[ca,y1,y2]:=hy;dsimp only at y1 y2;have C:=(s5.trans s6).get U;apply d9 (SqL.of C) ?_;apply fH y1 ?_;apply fL C (by rw[Qb];rfl') ?_;have al:upd H6 O (HO.lst ((B.map λw=>V.str w.1)++[V.str w.1])) ya=!(.tup [.str w.1,.ref ca,.int w.2.2]):=by rw[ao (jf y1 C)];show y1
   have a3:upd H6 O (HO.lst ((B.map λw=>V.str w.1)++[V.str w.1])) ca=!(.tup (nv w.2.1)):=by rw[ao (jf y2 C)];show y2
   apply dh al ?_;apply cN (SqT.of a3) ?_;rw[Qb];apply jD al ?_;symm;let#[n',rfl]:∃n',n=n'+1:=#[n-1,()];rw[xF cx ht (by rw[W];show k1)]at D;show#[#[B++[w],x+↑w.2.1,w.2.2.toNat,n',u,(sb.same (s5.trans s6)).set (by simp),by rw[aa,Wp];rfl,k7,qtC a2 Y,(),by rw[ð];show D,k5,by rw[Â,Ú];show Nat.add_le_add aw k8,λy my=>?_,!(.ref ya),?_],?_]
   .rcases Å.mp my with my|my
    .show ac y my
    .rw [Zs.mp my];let#[c,ec]:=wf.sg _ (Fo.bI k3);dsimp only at ec;rw[ec,bH];rfl
   .rw [show((w.2.2.toNat:Nat):Int)=w.2.2 by show DP k9,show((x+↑w.2.1:Nat):Int)=(x:Int)+(↑w.2.1:Int)from rfl];rfl
   .show ↑F-((x:Int)+(↑w.2.1:Int)).toNat<↑F-((x:Int)).toNat;rfl'
  .rw [BL (),ô]at D;rw[<-D]at q;apply HD (ys:=B.map (·.1)) (SqL.of (by rw[U,Æ];rfl)) ?_ ?_
   .have e0:↑(Str.ofString "")=0:=rfl;rw[e0,Nat.mul_zero,Nat.add_zero,Æ];have:∀l:ϳ,(∀w∈l,↑w.1=1)->(l.map ((λs:ϐ=>↑s)∘λw:ϐ×ϊ Nat×Int=>w.1)).sum=↑l:=λl=>by
     induction l with
     |nil=>intro _;rfl
     |cons y r ih=>intro hl;rw[È,ĩ,ih λz mz=>hl z (Ì _ mz)];change↑y.1+_=_;rw[hl y É,í];show ļ 1 _
    rw[this B ac];rfl'
   .show q _ SH
 .rintro σ H Q Q' hq ⟨v,hv,w,hw,x,n,e,hl,i,j,e1,e2,k,e3,z⟩;show#[v,hv,w,hw,x,n,e,hl,i,j,e1,e2,k,e3,hq _ _ z]
inductive sp_f54(K:Ϗ)(vs:ϊ V)(H:Hp)(Q:VK)(E:XK):Prop
 |mk (f e p:ό) (h:Nat) (b:ϵ) (a:L2S) (d:ϊ Int) (c:ϊ Nat) (g:vs=[.ref f,.ref e,.ref p]) (i:FnF K H f h b) (j:Fo.Wf h b) (k:HsG K H e a d) (l:(1<=↑a/\↑a<=40)) (m:(∀ps∈a,↑ps<=1000)) (n:(∀ps∈a,∀q∈ps,0<=q.2/\q.2<↑a)) (o:SqL K H p (nv c)) (r:↑c<=1000) (s:∀v H',Same H H'->NrP H' v (BP b c a d)->Q v H')
abbrev Lg K(E:XK)(Eh:XK):=(aA (aK (bN (sp_f21 K) (lg aQ bc bR)) (ak 3))
  (aA (aK (aL (cu K) (aL (cu K) cC (tI 0)) (tI 0)) (ak 4))
  (aA (bB (aN (aL lW cX (tC V.non))) (aP (tC V.non)) aV)
  (aP (cU (lg (bN (sp_f28 K) (zc aQ bc bR cC)) (tX K cX 0) (tX K cX 1)))))))
abbrev Lh:ϊ ϐ:=sN ["font","house","strip","paper","thing"]
theorem Wt(h:sp_f54 K vs H Q E):RG (Lg K E) Lh vs H Q:=by
 let#[f,R,p,h,c,e,g,d,rfl,L,G,M,#[k,i],o,r,N,u,q]:=h;show#[E0,?_];apply#[f,R,p,h,c,e,g,d,rfl,L,G,M,i,λW w=>#[o W w,r W w],N,u,λU I X x ac A=>?_];have P:IsP c d e g (Kw c d e g):=Ky G;have D:BP c d e g=(((Kw c d e g).getD 0 []).getD 0 none).map λt=>(nT c d (e.map (aG c)) (Kw c d e g) ↑d 0 0,t.1,t.2):=rfl
 change PpN H I U (Kw c d e g) X at A;generalize Kw c d e g=rows at P A D;let#[B,ab,ep,hr]:=A.t;have ad:=P.len;let#[a,n]:∃a,B[0]?=!a:=#[_,Qr ()];let#[m,l]:∃m,rows[0]?=!m:=#[_,Qr ()];let#[vs,Y,Z,e3]:=hr 0 a m n l;have s:=P.row m (Yf l);let#[v,T]:∃v,vs[0]?=!v:=#[_,Qr (En k (Eq.trans Z s))];let#[t,S]:∃t,m[0]?=!t:=#[_,Qr (En k s)];have O:=e3 0 v t T S;have C:(rows.getD 0 []).getD 0 none=t:=by
  rw[show rows.getD 0 []=m by rw[Xs,l];rfl,Xs,S];rfl
 apply dF (SqL.of ep) (aM (j:=0) (v:=.ref a) (by rw[Jn,n];rfl)) ?_;apply dF (SqL.of Y) (aM (j:=0) (v:=v) T) ?_;symm
 cases t with
 |none=>
  cases O;show jX rfl ?_;apply q .non I x ?_;rw[D,C];rfl
 |some t=>
  let#[b,rfl,J]:=O;show jB (by intro z;cases z) ?_;apply#[f,R,p,U,h,c,e,g,d,rows,rfl,L.same x,G,M.same x,#[k,i],o,r,x.seq N,u,A.t,P,#[t,C],λH2 F=>?_];apply fH (F.get J) ?_;apply dh (F.get J) ?_;symm;intro y hy;show q _ _ ((x.trans F).new hy) ?_;rw[D,C];show#[y,rfl,aa]
inductive sp_f43(K:Ϗ)(vs:ϊ V)(H:Hp)(Q:VK)(E:XK):Prop
 |mk (f:ό) (e:Nat) (b:ϵ) (a:ϊ Nat) (g:vs=[.ref f,.str (tx a)]) (h:FnT K H f e b) (i:Fo.Wf e b) (j:↑a<=1000) (k:(∀c∈a,∃d,Fo.lk b (tx [c])=!d)) (l:∀r H',H r=none->Same H H'->H' r=!(.lst (nv (Fo.m9 b a)))->Q (.ref r) H')
abbrev Li K(E:XK)(Eh:XK):=(aA (aK (fC f9) (ak 2))
  (aA (cD (CV bc) (ak 3) (cG (qT K "list" lO bR (cj (bN (sp_f14 K) (cA aQ cC))))))
  (aP bR)))
abbrev Lj:ϊ ϐ:=sN ["font","text","strip","sign"]
theorem Wu(h:sp_f43 K vs H Q E):RG (Li K E) Lj vs H Q:=by
 let#[f,C,s,a,rfl,z,t,D,m,q]:=h;show#[E0,?_];symm;intro r n;symm;have j:∀p∈[r],H p=none:=λp B=>by rw[Zs.mp B];show n
 show Hw (λi u b=>(An3 (Sb [r] H b) (b r=!(.lst (nv (Fo.m9 s (a.take i))))) (Ex1 λo=>u=[!(.ref f),!(.str (tx a)),!(.ref r),o]))) #[Sb.of (aq n _),aa,none,rfl] ?_ ?_
 .rintro i c u b A ⟨l,e,o,rfl⟩;have g:a[i]?=!c:=by simpa[tx]using A
  have y:a.take (i+1)=a.take i++[c]:=by rw[Í,g];rfl
  have F:=t.pic_le (a.take i);have I:↑(a.take i)<=1000:=by rw[Ô];rfl'
  let#[v,w]:=m c (Yf g);have d:Fo.cl s c=v:=by unfold Fo.cl;rw[w];rfl
  have x:=t.cl_le c;rw[d]at x;apply d9 (SqL.of e) ?_;apply#[f,C,s,tx [c],v,rfl,by rw[bH];simp,z.same (l.off j),t.sg,w,λG k=>?_];apply qw (az k e) aa (by simp;rfl') ?_;apply#[(l.new k).set (by simp),by rw[aa,y,Fo.qy,d,nv,nv,nv,Wp],_,rfl]
 .rintro u b ⟨l,e,o,rfl⟩;rw[show(tx a).cps.size=↑a from rfl,Ö]at e;apply q r b n (l.off j) e
inductive sp_f1(K:Ϗ)(vs:ϊ V)(H:Hp)(Q:VK)(E:XK):Prop
 |mk (f:ό) (b:Nat) (a:ϵ) (s:ϐ) (c:ϊ Nat) (d:vs=[.ref f,.str s]) (e:↑s<=100000) (g:FnT K H f b a) (h:(∀p∈a,Hs.Sg p.1)) (i:Fo.lk a s=!c) (j:∀r,H r=none->Q (.ref r) (upd H r (.lst (nv c))))
abbrev RM K(E:XK)(Eh:XK):=(aP (bN (sp_f14 K) (cA aQ bc)))
abbrev RN:ϊ ϐ:=sN ["font","filler"]
theorem Zi(h:sp_f1 K vs H Q E):RG (RM K E) RN vs H Q:=by
 let#[f,e,i,s,c,rfl,g,b,a,d,q]:=h;show#[E0,?_];apply#[f,e,i,s,c,rfl,g,b,a,d,q]
def DrF(H:Hp)(a:ό)(ps:L1S):Prop:=∃(zs:ϊ (ό×ϐ×Int))(ob:PySem.Obj),zs.map (·.2)=ps/\ob.dict=none/\H a=!(.frz ob (.tup (zs.map λz=>V.ref z.1)))/\∀z∈zs,H z.1=!(.tup [.str z.2.1,.int z.2.2])
theorem DrF.same{b:L1S}(h:DrF H a b)(s:Same H H'):DrF H' a b:=by
 let#[i,ob,e,f,c,d]:=h;show#[i,ob,e,f,s.get c,λz g=>s.get (d z g)]
theorem oV{c:L1S}(h:DrF H a c)(e:H q=!(.lst ys)):DrF (upd H q o) a c:=by
 let#[j,ob,d,g,b,f]:=h;show#[j,ob,d,g,by rw[ao λz=>by rw[z,e]at b;cases b];show b,λz i=>eV (f z i) e]
def HsF(K:Ϗ)(H:Hp)(a:ό)(ds:L2S)(es:ϊ Int):Prop:=∃(d e:ό)(rs:ϊ (ό×L1S)),H a=!(.tup [.ref d,.ref e])/\rs.map (·.2)=ds/\SqT K H d (rs.map λr=>V.ref r.1)/\(∀r∈rs,DrF H r.1 r.2)/\H e=!(.tup (es.map V.int))
theorem HsF.same{K:Ϗ}{b:ϊ Int}(h:HsF K H a ds b)(s:Same H H'):HsF K H' a ds b:=by
 let#[d,e,l,c,f,g,i,j]:=h;show#[d,e,l,s.get c,f,s.tup g,λr k=>(i r k).same s,s.get j]
theorem Lk:∀{zs:ϊ (ό×ϐ×Int)},bx (zs.map λz:ό×ϐ×Int=>((Sum.inr z.2.1:Key),V.int z.2.2)) (Sum.inr s)=(Hs.dr (zs.map (·.2)) s).map V.int
 |[]=>rfl
 |z::zs=>by
  rw[È,È,Hs.jP];by_cases e:z.2.1=s
  .rw [if_pos e,bZ (by rw[e])];rfl
  .rw [if_neg e,bL (by intro q;show e (ě q)),Lk]
theorem Wv(a:ϊ Int):inV .non (a.map V.int)=false:=by
 unfold inV;rw[List.any_map];show List.any_eq_false.mpr λx _=>by simp[Od]
theorem DrF.g{K:Ϗ}{b:L1S}(h:DrF H a b):DrG K H a b:=by
 let#[f,ob,e,g,c,d]:=h;show#[f,e,.inl (.inr #[ob,c]),d]
theorem HsF.g{K:Ϗ}{b:ϊ Int}(h:HsF K H a ds b):HsG K H a ds b:=by
 let#[d,e,m,c,f,i,j,k]:=h;show#[d,e,m,c,f,i,λr l=>(j r l).g,k]
theorem PdR.uni{c d:L2S}{i:ϊ Int}(h:PdR ds i s c)(e:PdR ds i s d):c=d:=by
 show List.ext_getElem? λj=>?_
 rcases Ġ j (↑ds+1)with w|w
 .have f:c[j]?=!(c[j]'(by rw[h.1];show w)):=Qr _;have g:d[j]?=!(d[j]'(by rw[e.1];show w)):=Qr _;let#[k,m]:=h.2 j _ f;let#[l,n]:=e.2 j _ g;rw[f,g,(k.trans l.symm).eq_of_pairwise (le:=λa b:ϐ×Int=>lC a.1 b.1) (λa b _ _ x y=>absurd (List.lt_trans x y) (Ő _)) (ŀ.mp m) (ŀ.mp n)]
 .rw [ë (by rw[h.1];show w),ë (by rw[e.1];show w)]
theorem PdR.ok{c:ϊ Int}(h:PdR ds c s ds')(e:∀ps∈ds,↑ps<=n)(f:∀ps∈ds,∀p∈ps,0<=p.2/\p.2<↑ds):∀ps∈ds',↑ps<=n+1/\∀q∈ps,0<=q.2/\q.2<↑ds':=λps a=>by
 let#[j,d,rfl]:=ă.mp a;let#[b,_]:=h.2 j _ (Qr d);have g:↑((ds++[[]]).getD j [])<=n/\∀q∈(ds++[[]]).getD j [],0<=q.2/\q.2<(↑ds:Int):=by
  rw[Xs];rcases Ġ j ↑ds with w|w
  .rw [ê w,Qr w];show#[e _ (Ó w),f _ (Ó w)]
  .rw [å w,show j-↑ds=0 by have:=h.1;rfl'];show#[Nat.zero_le _,λq m=>by cases m]
 have k:=h.1;show#[?_,?_]
 .rw [b.length_eq,Â];split
  .show ş g.1 1
  .show Š g.1
 .intro q i;rcases Å.mp (b.mem_iff.mp i)with m|m
  .have:=g.2 q m;rfl'
  .split at m
   .rw [Zs.mp m];show#[by change(0:Int)<=(↑ds:Int);rfl',by change(↑ds:Int)<_;rfl']
   .cases m
def Ww(ls:ϵ)(ds:L2S)(c c0:Nat):Prop:=Fo.lk ls (tx [c])=![c0]/\(∀ps∈ds,Hs.dr ps (tx [c])=none)/\↑ds<40
def BR(ls:ϵ)(c0 wd:Nat)(cs:ϊ Nat):ϊ Nat:=Fo.m9 ls cs++List.replicate (wd-↑(Fo.m9 ls cs)) c0
def RwO(ls:ϵ)(ds:L2S)(es:ϊ Int)(wd:Nat)(cs:ϊ Nat):Prop:=↑cs<=100/\(∀c∈cs,∃d,Fo.lk ls (tx [c])=!d)/\inV (ov (Hs.go ds cs)) (es.map V.int)=true/\↑(Fo.m9 ls cs)<=wd
inductive sp_f39(K:Ϗ)(vs:ϊ V)(H:Hp)(Q:VK)(E:XK):Prop
 |mk (f e:ό) (h:Nat) (d:ϵ) (a:L2S) (b:ϊ Int) (c g:Nat) (i:vs=[.ref f,.ref e,.str (tx [c])]) (j:FnT K H f h d) (k:(∀p∈d,Hs.Sg p.1)) (l:HsG K H e a b) (m:GoodH a b) (n:Ww d a c g) (o:∀r H' ds',Same H H'->HsG K H' r ds' (b++[(↑a:Int)])->PdR a b (tx [c]) ds'->Q (.ref r) H')
abbrev Ln K(E:XK)(Eh:XK):=(aA (bB (aN (aL xV (dZ K (bN (sp_f1 K) (cA aQ bR))) (tI 1))) cQ aV)
  (aP (bN (sp_f58 K) (cA bc bR))))
abbrev Lp:ϊ ϐ:=sN ["font","house","filler"]
theorem Wx(h:sp_f39 K vs H Q E):RG (Ln K E) Lp vs H Q:=by
 let#[f,s,x,y,k,l,c,j,rfl,n,a,p,m,e,q]:=h;show#[E0,?_];let#[g,t,u]:=e;apply#[f,x,y,_,_,rfl,by rw[bH];show Nat.le_of_ble_eq_true rfl,n,a,g,λr w=>?_];have i:=aq (o:=HO.lst (nv [j])) w;apply wV aa ?_;apply gC rfl ?_;apply#[s,_,k,l,rfl,p.same i,m,a _ (Fo.bI g),t,u,λB A b z d v=>?_];show q _ _ b (i.trans z) d.g v
inductive sp_f59(K:Ϗ)(vs:ϊ V)(H:Hp)(Q:VK)(E:XK):Prop
 |mk (f i:ό) (j:Nat) (a:ϵ) (d:L2S) (g:ϊ Int) (h:ϐ) (e:Nat) (c:ϊ Nat) (b:Nat) (k:vs=[.ref f,.ref i,.str h,.str (tx c),.int (b:Nat)]) (l:FnT K H f j a) (m:Fo.Wf j a) (n:HsG K H i d g) (o:Hs.Wf d) (p:Fo.lk a h=![e]) (q:RwO a d g b c) (s:b<=10000) (t:∀r H',H r=none->Same H H'->H' r=!(.lst (nv (BR a e b c)))->Q (.ref r) H')
abbrev Lq K(E:XK)(Eh:XK):=(aA (aK (bN (sp_f43 K) (cA aQ cC)) (ak 5))
  (aA (bB (lE (jw K (bN (sp_f64 K) (cA bc cC)))) cQ aV)
  (aA (bB (aN (aL uo (dZ K fY) cX)) cQ aV)
  (aP (aL yg fY (aL Y5 (bN (sp_f14 K) (cA aQ bR)) (aL pR cX (dZ K fY))))))))
abbrev Lr:ϊ ϐ:=sN ["font","house","filler","row","wide","picture"]
theorem Wy(h:sp_f59 K vs H Q E):RG (Lq K E) Lr vs H Q:=by
 let#[f,G,A,i,B,D,o,l,b,w,rfl,z,x,F,J,d,#[s,c,t,I],L,q]:=h;show#[E0,?_];have v:↑o<=100000:=by
  let#[k,e]:=x.sg _ (Fo.bI d);rw[show o=_ from e,bH];show Nat.le_of_ble_eq_true rfl
 apply#[f,A,i,b,rfl,z,x,dG s,c,λr O P j m=>?_];apply#[G,B,D,b,rfl,F.same j,J,?_];rw[t];apply wV m ?_;apply jB () ?_;apply#[f,A,i,o,[l],rfl,v,z.same j,x.sg,d,λN a=>?_];apply wV (az a m) ?_;symm;have y:((w:Int)-(↑(Fo.m9 i b):Int)).toNat=w-↑(Fo.m9 i b):=()
 show#[N,_,_,rfl,rfl,aa,(),(),?_,λp u=>?_]
 .rw [y];show Î (show 1*(w-↑(Fo.m9 i b))<=10000 by rfl') (by decide)
 have C:∀n:Nat,(List.replicate n (nv [l])).flatten=nv (List.replicate n l):=λn=>by
  unfold nv;rw[List.map_replicate];show List.flatten_replicate_singleton
 rw[y,C];apply wY (az u (az a m)) aa (by unfold nv;rw[Qb,Qb,ç];rfl') λM g=>?_
 show q M _ (((j.new a).new u).free g) (((j.new a).new u).new g) ?_;rw[aa];unfold nv BR;rw[Wp]
inductive sp_f70(K:Ϗ)(vs:ϊ V)(H:Hp)(Q:VK)(E:XK):Prop
 |mk (f i k:ό) (j:Nat) (d:ϵ) (b:L2S) (g:ϊ Int) (c h:Nat) (a:ϊ (ϊ Nat)) (e:Nat) (n:vs=[.ref f,.ref i,.str (tx [c]),.ref k,.int (e:Nat)]) (o:FnT K H f j d) (p:Fo.Wf j d) (q:HsG K H i b g) (s:GoodH b g) (t:Hs.Wf b) (u:Ww d b c h) (v:SqL K H k (a.map λcs=>V.str (tx cs))) (w:↑a<=100) (x:(∀cs∈a,RwO d b g e cs)) (l:e<=10000) (m:∀(zs:Ϸ) r H',H r=none->(∀z∈zs,H z.1=none)->Same H H'->LL H' r zs->zs.map (·.2)=a.map (BR d h e)->Q (.ref r) H')
abbrev Ls K(E:XK)(Eh:XK):=(aA (cG (bN (sp_f39 K) (lg aQ bc bR)))
  (aP (jr [none,!0,!1,!2,!4] (bY K cC) (ak 0) cZ (bN (sp_f59 K) (dY bc (zc bR cC aQ cX))))))
abbrev zQ:ϊ ϐ:=sN ["font","house","filler","rows","wide"]
theorem WD(h:sp_f70 K vs H Q E):RG (Ls K E) zQ vs H Q:=by
 let#[f,G,U,J,s,A,B,c,o,b,x,rfl,C,N,D,P,S,l,F,v,u,w,q]:=h;show#[E0,?_];apply#[f,G,J,s,A,B,c,o,rfl,C,N.sg,D,P,l,λr y _ i _ _=>?_];apply nY (λj:ϊ Nat=>V.str (tx j)) (zs:=b) (i.seq F) (dG v) (λk n g=>(Ex1 λ(a:Ϸ)=>(An4 (n=a.map (λz=>V.ref z.1)) (a.map (·.2)=(b.take k).map (BR s o x)) (Same y g) (∀z∈a,g z.1=!(.lst (nv z.2))/\y z.1=none)))) #[[],rfl,rfl,Same.refl _,by simp] ?_ ?_ ?_ ?_
 .rintro k n g ⟨a,_,_,d,_⟩;show d.seq (i.seq F)
 .rintro k n g ⟨a,rfl,e,_⟩;have:=Ý List.length e;rw[Qb,Qb,Ô]at this;rw[Qb];show qlM this
 .rintro k j n g I ⟨a,rfl,e,d,m⟩;have L:=i.trans d;apply#[f,G,J,s,A,B,_,o,j,x,rfl,C.same L,N,D.same L,S,l.1,u j (Yf I),w,λr T R M O=>?_];show#[a++[(r,BR s o x j)],by rw[Wp];rfl,by rw[Wp,e,Í,I,Wp];rfl,d.trans M,λz mz=>?_];rcases Å.mp mz with mz|mz
  .show #[M.get (m z mz).1,(m z mz).2]
  .rw [Zs.mp mz];show#[O,d.free R]
 rintro n g ⟨a,rfl,e,d,m⟩ p t;rw[Ö]at e;show q a p _ ((i.trans d).free t) (λz mz=>i.free (m z mz).2) ((i.trans d).new t) #[aa,λz mz=>az t (m z mz).1] e
def WF(c:Nat)(t:ϊ Nat):ϊ Nat:=(t.reverse.dropWhile λx=>decide (x=c)).reverse
theorem uZ(c:Nat)(d:ϊ Nat):∀k,WF c (d++List.replicate k c)=WF c d
 |0=>by rw[List.replicate_zero,ô]
 |k+1=>by
  have:=uZ c d k;unfold WF at this⊢;rw[List.reverse_append,List.reverse_replicate]at this⊢;rw[Ņ,ť,List.dropWhile_cons_of_pos (by simp)];show this
theorem Ly{d:ϊ Nat}(h:∀x,d.getLast?=!x->x≠c):WF c d=d:=by
 unfold WF
 cases e:d.reverse with
 |nil=>rw[List.reverse_eq_nil_iff.mp e];rfl
 |cons x l=>
  rw[List.dropWhile_cons_of_neg (by simpa using h x (by rw[List.getLast?_eq_head?_reverse,e];rfl)),<-e,List.reverse_reverse]
def WK(p:ϳ):ϊ Nat:=p.map λw=>w.1.cps.toList.headD 0
theorem LC(e:p.map (·.1)=cs.map λc=>tx [c]):WK p=cs:=by
 have:WK p=(p.map (·.1)).map λs:ϐ=>s.cps.toList.headD 0:=by rw[Æ];rfl
 rw[this,e,Æ];show List.map_id cs
theorem BV{c:ϵ}{d:ϊ Nat}{b:ϲ}:∀n x room,↑(nT c d b a n x room)<=n
 |0,_,_=>Ä _
 |n+1,x,room=>by
  unfold nT;split
  .split
   .show à _
   .split
    .show à _
    .show Ķ (BV n _ _)
  .show à _
def QpP(H:Hp)(v:V)(c:Nat):ύ (ϊ (ϴ)×Nat×Nat)->Prop
 |none=>v=.non
 |some t=>∃a,v=.ref a/\H a=!(.tup [.str (tx (WF c (WK t.1))),.int (t.2.1:Nat),.int (t.2.2:Nat)])
theorem QpP.same(h:QpP H v c o)(s:Same H H'):QpP H' v c o:=by
 cases o with
 |none=>show h
 |some t=>let#[a,e,q]:=h;show#[a,e,s.get q]
theorem Zj{h:Nat}{b:ϊ Nat}{c:ϊ Int}(j:Fo.Wf h ls)(d:NrP H v (BP ls b ds c)):(BP ls b ds c=none/\v=.non)\/∃t a,BP ls b ds c=!t/\v=.ref a/\↑(WK t.1)<=↑b/\H a=!(.tup [.str (tx (WK t.1)),.int (t.2.1:Nat),.int (t.2.2:Nat)]):=by
 have i:=Wn (xs:=b) (ds:=ds) (es:=c) j
 cases e:BP ls b ds c with
 |none=>rw[e]at d;show .inl #[rfl,d]
 |some t=>
  rw[e]at d;let#[a,rfl,g]:=d;let#[k,f,_]:=xG (i t e);show .inr #[t,a,rfl,rfl,?_,by rw[g,f,join_ones,LC f]];unfold BP at e;let#[u,_,rfl]:=Ï.mp e;rw[show WK _=List.map _ _ from rfl,Qb];show BV _ _ _
def QpL(H:Hp)(c:Nat)(F:ϊ Nat->ύ (ϊ (ϴ)×Nat×Nat))(xss:ϊ (ϊ Nat))(us:ϊ V):Prop:=↑us=↑xss/\∀(i:Nat) u xs,us[i]?=!u->xss[i]?=!xs->QpP H u c (F xs)
inductive sp_f46(K:Ϗ)(vs:ϊ V)(H:Hp)(Q:VK)(E:XK):Prop
 |mk (f g p:ό) (h:Nat) (b:ϵ) (a:L2S) (e:ϊ Int) (d:ϊ Nat) (c:Nat) (i:vs=[.ref f,.ref g,.str (tx [c]),.ref p]) (j:FnF K H f h b) (k:Fo.Wf h b) (l:HsG K H g a e) (m:(1<=↑a/\↑a<=40)) (n:(∀ps∈a,↑ps<=1000)) (o:(∀ps∈a,∀q∈ps,0<=q.2/\q.2<↑a)) (r:SqL K H p (nv d)) (s:↑d<=1000) (t:∀v H',Same H H'->QpP H' v c (BP b d a e)->Q v H')
abbrev LK K(E:XK)(Eh:XK):=(aA (aK (bN (sp_f54 K) (lg aQ bc cC)) (ak 4))
  (aA (bB (aN (aL lW cX (tC V.non))) (aP (tC V.non)) aV)
  (aP (cU (lg (qT K "str" uw (tX K cX 0) (cj bR)) (tX K cX 1) (tX K cX 2))))))
abbrev LQ:ϊ ϐ:=sN ["font","house","filler","strip","told"]
theorem WL(h:sp_f46 K vs H Q E):RG (LK K E) LQ vs H Q:=by
 let#[f,u,p,h,C,j,l,D,c,rfl,n,i,o,x,b,d,s,e,q]:=h;show#[E0,?_];apply#[f,u,p,h,C,j,l,D,rfl,n,i,o,x,b,d,s,e,λv F g r=>?_];symm;rcases Zj i r with⟨eo,rfl⟩|⟨t,a,eo,rfl,hl,ea⟩
 .show jX rfl ?_;apply q _ _ g (by rw[eo];rfl)
 .show jB (by intro z;cases z) ?_;apply a1p ea ?_;apply HJ () λw m k A=>?_
  apply dh ea ?_;apply jD ea ?_;symm;intro y B;show q _ _ (g.new B) ?_;rw[eo];show#[y,rfl,by rw[aa,k,uZ,Ly A]]
inductive sp_f37(K:Ϗ)(vs:ϊ V)(H:Hp)(Q:VK)(E:XK):Prop
 |mk (f g i:ό) (h:Nat) (d:ϵ) (a:L2S) (b:ϊ Int) (c j:Nat) (e:Ϸ) (k:vs=[.ref f,.ref g,.str (tx [c]),.ref i]) (l:FnF K H f h d) (m:Fo.Wf h d) (n:HsG K H g a b) (o:GoodH a b) (p:Ww d a c j) (q:LL H i e) (s:↑e<=1000) (t:(∀z∈e,↑z.2<=1000)) (u:∀ds',PdR a b (tx [c]) ds'->∀r H' us,Same H H'->H' r=!(.lst us)->QpL H' c (λxs=>BP d xs ds' (b++[(↑a:Int)])) (e.map (·.2)) us->Q (.ref r) H')
abbrev LR K(E:XK)(Eh:XK):=(aA (aK (bN (sp_f39 K) (lg aQ bc bR)) (ak 4))
  (aP (jr [none,!0,!4,!2] (bY K cC) (ak 0) cZ (bN (sp_f46 K) (zc bc bR cC aQ)))))
abbrev zR:ϊ ϐ:=sN ["font","house","filler","strips","house_of_rows"]
theorem WM(h:sp_f37 K vs H Q E):RG (LR K E) zR vs H Q:=by
 let#[f,ha,sa,h,L,N,O,c,c0,s,rfl,P,Y,hH,B,t,G,J,hz,q]:=h;show#[E0,?_];apply#[f,ha,h,L,N,O,c,c0,rfl,P.t,Y.sg,hH,B,t,λr Z g A C M=>?_];replace q:=q g M;have U:=M.ok B.ln λy x p m=>(B.sg y x p m).2
 have ab:=M.1;have hl:=t.2.2;apply nY (λz:ό×ϊ Nat=>V.ref z.1) (zs:=s) (SqL.of (A.get G.1)) (dG J) (λi d n=>(An3 (Same Z n) (QpL n c (λo=>BP L o g (O++[(↑N:Int)])) ((s.take i).map (·.2)) d) (↑d<=i))) #[Same.refl _,#[rfl,λi u o e=>by cases e],Ä _] ?_ ?_ ?_ ?_
 .rintro i d n ⟨l,_⟩;show SqL.of (l.get (A.get G.1))
 .rintro i d n ⟨_,_,h⟩;show h
 .rintro i z d n R ⟨l,⟨b,F⟩,I⟩;have W:=A.trans l;have T:=Yf R;apply#[f,r,z.1,h,L,g,_,z.2,c,rfl,P.same W,Y,C.same l,#[(),()],λy x=>Î (U y x).1 (by decide),λy x=>(U y x).2,SqL.of (W.get (G.2 z T)),hz z T,λv H2 X hv=>?_];have ht:(s.take (i+1)).map (·.2)=(s.take i).map (·.2)++[z.2]:=by rw[Í,R,Wp];rfl
  show#[l.trans X,?_,by rw[Â];show Ķ I];rw[ht];show#[by rw[Â,Â,b];rfl,λj u o a k=>?_];rcases Ġ j ↑d with w|w
  .rw [ê w]at a;rw[ê (b▸w)]at k;show(F j u o a k).same X
  .rw [å w]at a;rw[å (b▸w)]at k;rw[b]at a
   cases ej:j-↑((s.take i).map (·.2))with
   |zero=>rw[ej]at a k;cases a;cases k;show hv
   |succ m=>rw[ej]at a;cases a
 rintro d n ⟨l,D,_⟩ p S;rw[Ö]at D;show q p _ d ((A.trans l).new S) aa #[D.1,λi u o a k=>(D.2 i u o a k).same (aq S _)]
def MnV(ls:ϵ)(ds:L2S)(es:ϊ Int)(v:V):Prop:=∃(N:Nat)(S:ϊ Sd)(fz:ϊ Fq),↑(cF (ds.map (aG ls)) N)<=N/\(∀x,x∈S↔Mm.Rch (Je (ds.map (aG ls)) N) (NT (ds.map (aG ls))) x)/\(fz.map (·.2.1)).Nodup/\Dj (QD es S) (Jk (Rz ls (ds.map (aG ls))) S) (ji fz) (λ_ _=>False)/\((v=.non/\∀z∈nZ (ds.map (aG ls)) (cF (ds.map (aG ls)) N),∀k,¬ji fz (mC z) k)\/∃L:Nat,v=.int (((L:Int)-1)/2)/\(∃z∈nZ (ds.map (aG ls)) (cF (ds.map (aG ls)) N),∃k,ji fz (mC z) k/\L=rG z+k.1)/\∀z∈nZ (ds.map (aG ls)) (cF (ds.map (aG ls)) N),∀k,ji fz (mC z) k->L<=rG z+k.1)
inductive sp_f29(K:Ϗ)(vs:ϊ V)(H:Hp)(Q:VK)(E:XK):Prop
 |mk (f e:ό) (h:Nat) (b:ϵ) (a:L2S) (d:ϊ Int) (c g:Nat) (i:vs=[.ref f,.ref e,.str (tx [c])]) (j:FnF K H f h b) (k:Fo.Wf h b) (l:HsG K H e a d) (m:GoodH a d) (n:Ww b a c g) (o:∀ds',PdR a d (tx [c]) ds'->Za b ds'/\∀v H',Same H H'->MnV b ds' (d++[(↑a:Int)]) v->Q v H')
abbrev M3 K(E:XK)(Eh:XK):=(aP (bN (sp_f61 K) (cA aQ (bN (sp_f39 K) (lg aQ bc bR)))))
abbrev M4:ϊ ϐ:=sN ["font","house","filler"]
theorem WN(h:sp_f29 K vs H Q E):RG (M3 K E) M4 vs H Q:=by
 let#[f,z,h,o,u,v,c,t,rfl,k,p,y,x,d,q]:=h;show#[E0,?_];apply#[f,z,h,o,u,v,c,t,rfl,k.t,p.sg,y,x,d,λr F a e b C=>?_];let#[D,q]:=q a C;apply#[f,r,h,o,a,_,rfl,k.same e,p,b,D,λN S i l m n j=>#[λB s g=>q _ _ (e.trans g) #[N,S,i,l,m,n,j,.inl #[rfl,B]],λs L g w A=>q _ _ (e.trans g) #[N,S,i,l,m,n,j,.inr #[L,rfl,w,A]]]]
inductive sp_f62(K:Ϗ)(vs:ϊ V)(H:Hp)(Q:VK)(E:XK):Prop
 |mk (h:Nat) (p:ό) (a:Ϸ) (b:Nat) (c:vs=[.int h,.ref p]) (d:LL H p a) (e:h<=60) (f:↑a<=100) (g:b<=1000) (i:(∀r∈a,↑r.2=b)) (j:∀r H',Same H H'->H' r=!(.lst (((a.map (·.2)).flatMap (Mm.draw h)).map λl=>V.str (tx l)))->Q (.ref r) H')
abbrev M5 K(E:XK)(Eh:XK):=(aA (aK (fC f9) (ak 2))
  (aA (cD (bY K bc) (ak 3) (aA (cG (bN (sp_f10 K) (cA (aL (cu K) bc (tI 0)) cC)))
  (cG (qT K "list" lO bR (cj (bN (sp_f69 K) (cA aQ cC)))))))
  (aP bR)))
abbrev M6:ϊ ϐ:=sN ["height","strips","lines","strip"]
theorem WP(h:sp_f62 K vs H Q E):RG (M5 K E) M6 vs H Q:=by
 let#[h,p,a,O,rfl,f,e,M,J,c,q]:=h;show#[E0,?_];symm;intro r s;symm;have b:∀B∈[r],H B=none:=λB n=>by rw[Zs.mp n];show s
 show fK (λz:ό×ϊ Nat=>V.ref z.1) (SqL.of (az s f.1)) (λi j k=>(An3 (Sb [r] H k) (k r=!(.lst ((((a.take i).map (·.2)).flatMap (Mm.draw h)).map λl=>V.str (tx l)))) (Ex1 λo=>j=[!(.int (h:Int)),!(.ref p),!(.ref r),o]))) #[Sb.of (aq s _),aa,_,rfl] (λi j k z=>SqL.of (z.1.at b f.1)) ?_ ?_
 .rintro i z j v t ⟨g,d,o,rfl⟩;have u:=Yf t;have F:a.take (i+1)=a.take i++[z]:=by rw[Í,t];rfl
  have m:=g.off b;have w:=m.get (f.2 z u);have G:i<↑a:=(À.mp t).1;let#[y,x]:∃y,a[0]?=!y:=#[_,Qr ()];have A:=Yf x;apply qt (m.get f.1) x ?_;apply#[_,_,_,_,rfl,.inl (SqL.of (m.get (f.2 y A))),.inl (SqL.of w),by rw[Qb,Qb,c y A,c z u],?_];apply d9 (SqL.of d) ?_;apply#[h,z.1,z.2,rfl,SqL.of w,by rw[c z u];show J,e,λN L I C D=>?_];apply qw (C.get d) D ?_ ?_
  .rw [Qb,Qb,Mm.mj,Mm.jA,Qb,Ô];have:min i ↑a*h<=100*60:=Nat.mul_le_mul () e;rfl'
  apply#[(g.same C).set (by simp),by rw[aa,F];simp,_,rfl]
 .rintro j v ⟨g,d,o,rfl⟩;rw[Ö]at d;apply q r v (g.off b) d
inductive sp_f36(K:Ϗ)(vs:ϊ V)(H:Hp)(Q:VK)(E:XK):Prop
 |mk (h:Nat) (p:ό) (a:ϊ (ϊ Nat)) (W:Nat) (b:vs=[.int h,.ref p]) (c:SqL K H p ((a.flatMap (Mm.draw h)).map λl=>V.str (tx l))) (d:1<=h) (e:h<=60) (f:↑a<=100) (g:W<=1000) (i:(∀s∈a,↑s=W/\∀x∈s,x<2^h)) (j:∀r H' (rows:Ϸ),Same H H'->LL H' r rows->rows.map (·.2)=a->Q (.ref r) H')
abbrev M7 K(E:XK)(Eh:XK):=(aA (bB (aN (aL xV (aL bJ (dZ K bc) aQ) (tI 0))) cQ aV)
  (aA (cD (bY K bc) (ak 2) (cG (bN (sp_f27 K) (cA bR (dZ K (aL (cu K) bc (tI 0)))))))
  (aP (jr [none,!1,!0] (Ra (lg (tI 0) (dZ K bc) aQ)) (ak 0) cZ (bN (sp_f49 K) (cj (FJ (vH K) bc (gh aQ) (gh (aL bQ aQ bR)))))))))
abbrev zT:ϊ ϐ:=sN ["height","lines","line"]
theorem WQ(h:sp_f36 K vs H Q E):RG (M7 K E) zT vs H Q:=by
 let#[h,p,n,W,rfl,u,x,A,N,hW,P,q0]:=h;show#[E0,?_];have F:=Mm.Qu (h:=h) x λs T=>(P s T).1
 have m:↑(n.flatMap (Mm.draw h))=↑n*h:=Mm.mj _ _;have hn:↑(n.flatMap (Mm.draw h))<=10000:=by rw[m];show Î (Nat.mul_le_mul N A) (by decide)
 have R:∀l∈n.flatMap (Mm.draw h),↑l<=1000:=λl g=>by
  let#[s,T,g]:=ó.mp g;let#[y,_,rfl]:=Mm.wO g;rw[Mm.m7,(P s T).1];show hW
 have q:∀r f (d:Ϸ),Same H f->LL f r d->d.map (·.2)=(List.range (↑(n.flatMap (Mm.draw h))/h)).map (λi=>Mm.yO (Mm.chunk h (n.flatMap (Mm.draw h)) i))->Q (.ref r) f:=λr f d s l e=>q0 r f d s l (by
  rw[e,m,Nat.mul_div_cancel _ x];show List.ext_getElem (by simp) λi g1 Y=>?_
  rw[õ,List.getElem_range,Mm.qD _ i Y,Mm.DG x (P _ (Ó Y)).2])
 generalize n.flatMap (Mm.draw h)=ls at*;clear m q0;let#[hm,O]:=id F;apply cg u ?_;rw[Qb];apply gC () ?_;apply fK (λl:ϊ Nat=>V.str (tx l)) u (λi J f=>(An2 (H=f) (Ex1 λo=>J=[!(.int (h:Int)),!(.ref p),o]))) #[rfl,_,rfl] (λi J f z=>z.1▸u) ?_ ?_
 .rintro i l J _ hl ⟨rfl,o,rfl⟩;have g:=Yf hl;let#[y,X,eh]:∃y,ls[0]?=!y/\ls.headD []=y:=by
   cases ls with
   |nil=>cases g
   |cons a b=>show#[a,rfl,rfl]
  apply dF u (aM (j:=0) (v:=.str (tx y)) (by rw[Jn,X];rfl)) ?_;apply kY (by rw[bH];show dG (R y (Yf X))) ?_;rw[bH];symm;let#[o1,o2]:=O l g;show#[l,↑y,rfl,dG (R l g),by rw[o1,eh],o2,?_];apply#[rfl,_,rfl]
 rintro J _ ⟨rfl,o,rfl⟩;have B:↑ls=↑ls/h*h:=by
  have:=Nat.div_add_mod ↑ls h;rw[Nat.mul_comm]at this;rfl'
 have ab:↑ls/h<=↑ls:=Nat.div_le_self _ _;apply cg u ?_;rw[Qb];symm;let#[r1,U]:=zb (j:=(↑ls:Int)) (c:=(h:Int)) () () () ();show Z1 (↑ls/h) (Qv x B) () () r1 U (λi I f=>(Ex1 λ(d:Ϸ)=>(An5 (I=d.map (λz:ό×ϊ Nat=>V.ref z.1)) (↑d=i) (Same H f) (∀z∈d,f z.1=!(.lst (nv z.2))) (d.map (·.2)=(List.range i).map (λi=>Mm.yO (Mm.chunk h ls i)))))) #[[],rfl,rfl,Same.refl _,by simp,rfl] ?_ ?_ ?_
 .rintro i I f ⟨d,rfl,rfl,_⟩;simp
 .rintro i I f hi ⟨d,rfl,D,G,S,k⟩;have w:=Mm.z9 F x A hi;have L:(ls.take (i*h+h)).drop (i*h)=Mm.chunk h ls i:=by
   unfold Mm.chunk;rw[List.drop_take,ł]
  have M:∀l∈Mm.chunk h ls i,l∈ls:=λl g=>List.mem_of_mem_drop (Ş g)
  symm;rw[show(0:Int)+(i:Int)*(h:Int)=((i*h:Nat):Int)by simp,show((i*h:Nat):Int)+(h:Int)=((i*h+h:Nat):Int)by simp];show wZ (G.seq u) λt Z=>?_
  rw[uE () (),Ð,Ð,<-Β,<-List.map_drop,L];apply#[t,Mm.chunk h ls i,rfl,SqL.of aa,λl g=>by have:=R l (M l g);rfl',w,λU H2 ac s2 e2=>?_];have S2:=(G.new (o:=HO.lst ((Mm.chunk h ls i).map λl=>V.str (tx l))) Z).trans s2;show#[d++[(U,Mm.yO (Mm.chunk h ls i))],by simp,by simp[D],S2,λz mz=>?_,?_]
  .rcases Å.mp mz with mz|mz
   .show s2.get (az Z (S z mz))
   .rw [Zs.mp mz];show e2
  .rw [Wp,k,ŗ,Wp];rfl
 .rintro I f ⟨d,rfl,D,G,S,k⟩ p2 C;show q p2 _ d (G.new C) #[aa,λz mz=>az C (S z mz)] k
inductive sp_f9(K:Ϗ)(vs:ϊ V)(H:Hp)(Q:VK)(E:XK):Prop
 |mk (a:ό) (b:ϊ Int) (k:Nat) (c:vs=[.ref a,.int k]) (d:SqL K H a (b.map V.int)) (e:Q (.int (Mm.cellAt b k)) H)
abbrev RP K(E:XK)(Eh:XK):=(aA (bB (aN (aL rB bc (dZ K aQ))) (aP (aL (cu K) aQ bc)) aV)
  (aP (tI 0)))
abbrev RQ:ϊ ϐ:=sN ["script","k"]
theorem Zk(h:sp_f9 K vs H Q E):RG (RP K E) RQ vs H Q:=by
 let#[a,d,k,rfl,b,q]:=h;show#[E0,?_];apply cg b ?_;symm;rw[Qb];show dw (λc=>?_) λc=>?_
 .symm;show dF b (aM (v:=V.int (Mm.cellAt d k)) ?_) ?_
  .rw [Jn,Qr (Uv c),Œ,Mm.getD_some (Qr (Uv c))]
  .show q
 .symm;rw[Mm.getD_none (qnC c)]at q;show q
inductive sp_f25(K:Ϗ)(vs:ϊ V)(H:Hp)(Q:VK)(E:XK):Prop
 |mk (i:Int) (a:vs=[.int i]) (b:Q (.bl true) H)
abbrev M8 K(E:XK)(Eh:XK):=(aP (lG (gW (fU K) (cA aQ (tC (V.ty "int")))) (Et (gW (fU K) (cA aQ (tC (V.ty "bool")))))))
abbrev M9:ϊ ϐ:=sN ["found"]
theorem WR(h:sp_f25 K vs H Q E):RG (M8 K E) M9 vs H Q:=by
 let#[i,rfl,q]:=h;show#[E0,?_];apply#[_,_,_,_,rfl,.int i,rfl,?_];apply#[_,_,_,_,rfl,.int i,rfl,?_];apply q
def sgs:ϐ:=Str.ofString " !\"#$&'()*+,-./0123456789:;<=>?@ABCDEFGHIJKLMNOPQRSTUVWXYZ[\\]^_`"++Str.ofString "abcdefghijklmnopqrstuvwxyz{|}~"
def lA(K:Ϗ):Sp:=λvs H Q _=>vs=[]/\Q (.str sgs) H
abbrev Ma(K:Ϗ)(E:XK)(Eh:XK):=(aA (aK (tC (V.str (Str.ofString " !\"#$&'()*+,-./0123456789:;<=>?@ABCDEFGHIJKLMNOPQRSTUVWXYZ[\\]^_`"))) (ak 0))
  (aP (aL fW aQ (tC (V.str (Str.ofString "abcdefghijklmnopqrstuvwxyz{|}~"))))))
abbrev zU:ϊ ϐ:=sN ["some"]
theorem WT(h:lA K vs H Q E):RG (Ma K E) zU vs H Q:=by
 unfold lA at h;let#[rfl,q]:=h;show#[E0,?_];apply qp (by decide) ?_;show q
theorem WW(h:lA K vs H Q E):↑vs=0:=by
 unfold lA at h;let#[rfl,_]:=h;rfl
inductive sp_f11(K:Ϗ)(vs:ϊ V)(H:Hp)(Q:VK)(E:XK):Prop
 |mk (c:Int) (a:vs=[.int c]) (b:∀n:Nat,1<=n->n<=60->Q (.int n) H)
abbrev Mf(K:Ϗ)(E:XK)(Eh:XK):=(aA (bB (aN (aL pB (aL bJ aQ (tI 3)) (tI 0))) (aP (aL bQ (tI 1) (aL bJ (aL eN aQ (tI 3)) (tI 6)))) aV)
  (aA (bB (aN (aL pB (aL bJ aQ (tI 3)) (tI 1))) (aP (aL bQ (tI 7) (aL bJ (aL eN aQ (tI 3)) (tI 10)))) aV)
  (aP (aL bQ (tI 1) (aL bJ (aL eN aQ (tI 3)) (tI 60))))))
abbrev Mg:ϊ ϐ:=sN ["cell"]
theorem WX(h:sp_f11 K vs H Q E):RG (Mf K E) Mg vs H Q:=by
 let#[c,rfl,q]:=h;show#[E0,?_];apply dw (λ_=>?_) λ_=>?_
 .symm;rw[show(1:Int)+c/3%6=((1+c/3%6).toNat:Int)by rfl'];show q _ () ()
 apply dw (λ_=>?_) λ_=>?_
 .symm;rw[show(7:Int)+c/3%10=((7+c/3%10).toNat:Int)by rfl'];show q _ () ()
 symm;rw[show(1:Int)+c/3%60=((1+c/3%60).toNat:Int)by rfl'];show q _ () ()
inductive sp_f6(K:Ϗ)(vs:ϊ V)(H:Hp)(Q:VK)(E:XK):Prop
 |mk (c:Int) (m h:Nat) (a:vs=[.int c,.int m,.int h]) (b:m<=8) (d:h<=60) (e:∀t H' (co:ϊ Nat),Same H H'->H' t=!(.tup (nv co))->↑co=m->(∀x∈co,x<2^h)->Q (.ref t) H')
abbrev QL K:=(aA (cD (eZ (cj bc)) (ak 4) (aA (aK (aL bQ (aL gw aQ (aL bQ (aL gw (tI 2) cX) (tI 3))) (aL gw cX cX)) (ak 5))
  (cG (qT K "list" cI cC (cj (aL bJ (aL eN (aL gw fY (tI 2862933555777941757)) (tI 16)) (aL Gg (tI 1) bR)))))))
  (aP (gW (dN K) (cj cC))))
abbrev RT K(E:XK)(Eh:XK):=(aA (aK (fC f9) (ak 3))
  (QL K))
abbrev RV:ϊ ϐ:=sN ["cell","many","height","found","k","number"]
theorem Zm(h:sp_f6 K vs H Q E):RG (RT K E) RV vs H Q:=by
 let#[c,m,d,rfl,B,y,q]:=h;show#[E0,?_];symm;intro p u;symm;have g:∀v∈[p],H v=none:=λv k=>by rw[Zs.mp k];show u
 show nP m (Ð _) () () (λi s b=>(Ex1 λ(a:ϊ Nat)=>(An5 (↑a=i) (∀x∈a,x<2^d) (Sb [p] H b) (b p=!(.lst (nv a))) (Ex2 λn o=>s=[!(.int c),!(.int (m:Nat)),!(.int (d:Nat)),!(.ref p),n,o])))) #[[],rfl,by simp,Sb.of (aq u _),aa,none,none,rfl] ?_ ?_
 .rintro i s b A ⟨a,j,f,r,e,n,o,rfl⟩;symm;generalize c*(2*(i:Int)+3)+(i:Int)*(i:Int)=num;show d9 (SqL.of e) ?_;symm;rw[Int.one_mul,Ð,Mm.Ut];show fL e (by simp;rfl') ?_;apply#[a++[Mm.col d num],by simp[j],?_,r.set (by simp),by rw[aa,nv,nv,Wp];rfl,_,_,rfl];intro x z;rcases Å.mp z with w|w
  .show f x w
  .rw [Zs.mp w];show Mm.Uu d num
 .rintro s b ⟨a,j,f,r,e,n,o,rfl⟩;apply iY (SqL.of e) λt l=>?_
  show q t _ a ((r.off g).new l) aa j f
abbrev Lw:=ϐ×V×ϊ Nat
variable{kvs:ϊ Lw}
def jY(kvs:ϊ Lw):ϊ (Key×V):=kvs.map λp:Lw=>(Sum.inr p.1,p.2.1)
theorem Mh(h:s∉kvs.map (·.1)):bx (jY kvs) (Sum.inr s)=none:=fj (f:=λp:Lw=>(Sum.inr p.1:Key)) (g:=λp:Lw=>p.2.1) λm=>by
 let#[p,a,e]:=Zl.mp m;show h (Zl.mpr #[p,a,ě e])
theorem oW{p:Lw}:∀{kvs:ϊ Lw},(kvs.map (·.1)).Nodup->p∈kvs->bx (jY kvs) (Sum.inr p.1)=!p.2.1
 |[],_,m=>by cases m
 |q::r,hn,m=>by
  rw[È,é]at hn;unfold jY;rw[È];rcases Ç.mp m with rfl|m
  .show bZ rfl
  .rw [bL λe=>hn.1 (Zl.mpr #[p,m,(ě e).symm])];show oW hn.2 m
theorem BW:((jY kvs).any λb=>decide (b.1=Sum.inr s))=decide (s∈kvs.map (·.1)):=by
 rw[Ζ,List.any_eq_true,decide_eq_true_iff];constructor
 .rintro ⟨b,m,e⟩;let#[p,a,rfl]:=Zl.mp m;show Zl.mpr #[p,a,ě (æ e)]
 .intro m;let#[p,a,e]:=Zl.mp m;show#[_,Zl.mpr #[p,a,rfl],Ù (by rw[e])]
theorem BX(v:V)(c:ϊ Nat)(h:s∉kvs.map (·.1)):putK (jY kvs) (Sum.inr s) v=jY (kvs++[(s,v,c)]):=by
 unfold putK;rw[BW,if_neg (by rw[Ü h];decide)];unfold jY;rw[Wp];rfl
theorem Ei{c:ϊ Nat}(b:ϊ Nat)(h:s∉kvs.map (·.1)):putK (jY (kvs++[(s,v,c)])) (Sum.inr s) a=jY (kvs++[(s,a,b)]):=by
 unfold putK;rw[BW,if_pos (Ù (by rw[Wp];simp))];unfold jY;rw[Wp,Wp,Wp];congr 1
 .rw [Æ];show Ā ?_;intro p d;show if_neg λe=>h (Zl.mpr #[p,d,ě e])
 .show [if(Sum.inr s:Key)=Sum.inr s then _ else _]=_;rw[if_pos rfl];rfl
def GoodL(H:Hp)(ht:Nat)(p:Lw):Prop:=Hs.Sg p.1/\(1<=↑p.2.2/\↑p.2.2<=3)/\(∀x∈p.2.2,x<2^ht)/\∃t,p.2.1=.ref t/\H t=!(.tup (nv p.2.2))
theorem GoodL.same{p:Lw}(h:GoodL H ht p)(s:Same H H'):GoodL H' ht p:=by
 let#[a,b,c,t,e,d]:=h;show#[a,b,c,t,e,s.get d]
theorem GoodL.put{p:Lw}(h:GoodL H ht p)(e:H d=!(.dK a)):GoodL (upd H d o) ht p:=by
 let#[f,g,i,t,c,b]:=h;show#[f,g,i,t,c,by rw[ao (jf b e)];show b]
structure LtT(H:Hp)(d:ό)(ht:Nat)(kvs:ϊ Lw)(fs:ϐ)(c0:Nat):Prop where
 d:Rd H d (.dK (jY kvs))
 n:(kvs.map (·.1)).Nodup
 f:(tx [],V.str fs,[])∈kvs
 k:∀p∈kvs,p.1≠tx []->GoodL H ht p
 o:∃v,(fs,v,[c0])∈kvs
 e:fs≠tx []
 l:↑kvs<=5
 m:∃p∈kvs,p.1≠tx []/\p.1≠fs
theorem Mi{b:ϐ}(c:(kvs.map (·.1)).Nodup)(h:3<=↑kvs):∃p∈kvs,p.1≠a/\p.1≠b:=by
 match kvs,c,h with
 |x::y::z::r,c,_=>
  simp only[È,é,Ç,not_or]at c;let#[#[j,d,_],#[f,_],_]:=c;by_cases g:x.1≠a/\x.1≠b
  .show #[x,by simp,g]
  by_cases i:y.1≠a/\y.1≠b
  .show #[y,by simp,i]
  show#[z,by simp,λe=>?_,λe=>?_]
  .rw [e]at d f;show j ((ς.mp λq=>g #[d,q]).trans (ς.mp λq=>i #[f,q]).symm)
  .rw [e]at d f;show j ((ς.mp λq=>g #[q,d]).trans (ς.mp λq=>i #[q,f]).symm)
def Zn(kvs:ϊ Lw)(ls:ϵ):Prop:=∀s co,Fo.lk ls s=!co↔s≠tx []/\∃v,(s,v,co)∈kvs
section
variable{ht:Nat}{c0:Nat}
theorem LtT.same(h:LtT H d ht kvs fs c0)(z:Same H H'):LtT H' d ht kvs fs c0:=#[h.d.elim (λe=>.inl (z.get e)) λ⟨o,e⟩=>.inr #[o,z.get e],h.n,h.f,λp a b=>(h.k p a b).same z,h.o,h.e,h.l,h.m]
theorem LtT.get(h:LtT H d ht kvs fs c0)(k:Zn kvs ls)(e:Fo.lk ls s=!co):∃r,DGet H d (.str s) !(.ref r)/\H r=!(.tup (nv co)):=by
 let#[n,v,m]:=(k s co).mp e;let#[_,_,_,t,b,a]:=h.k _ m n;have:=DGet.r (k:=Sum.inr s) h.d;rw[show bx (jY kvs) (Sum.inr s)=!v from oW h.n m,show v=V.ref t from b]at this;show#[t,this,a]
theorem LtT.no(h:LtT H d ht kvs fs c0)(k:Zn kvs ls)(n:s≠tx [])(e:Fo.lk ls s=none):DGet H d (.str s) none:=by
 have:=DGet.r (k:=Sum.inr s) h.d;rw[Mh λm=>?_]at this
 .show this
 .obtain ⟨p,a,rfl⟩:=Zl.mp m;have:=(k p.1 p.2.2).mpr #[n,p.2.1,a];rw[e]at this;cases this
theorem LtT.fil(h:LtT H d ht kvs fs c0):DGet H d (.str (tx [])) !(.str fs):=by
 have:=DGet.r (k:=Sum.inr (tx [])) h.d;rw[show bx (jY kvs) (Sum.inr (tx []))=!(.str fs)from oW (p:=(tx [],V.str fs,[])) h.n h.f]at this;show this
end
theorem zV:∀cs:ϊ Nat,cs.filterMap (λc=>if(Fo.lk a (tx [c])).isNone=true then !(V.str (tx [c]))else none)=((cs.filter λc=>(Fo.lk a (tx [c])).isNone).map λc=>[c]).map λl=>V.str (tx l)
 |[]=>rfl
 |c::r=>by
  rw[Đ,ĸ];by_cases h:(Fo.lk a (tx [c])).isNone=true
  .rw [if_pos h,if_pos h,È,È,zV r]
  .rw [if_neg h,if_neg h];show zV r
def qQ(ls:ϵ):ϊ Nat:=Hs.yX.cps.toList.filter λc=>(Fo.lk ls (tx [c])).isNone
theorem QM(a:ϵ):↑(qQ a)<=94:=Î (ŵ _ _) (by ac_nf)
theorem Mj(h:↑ls<=40):0<↑(qQ ls):=by
 rcases Nat.eq_zero_or_pos ↑(qQ ls)with z|z
 .exfalso;have a:∀s∈Hs.yX.cps.toList.map (λc=>tx [c]),s∈ls.map (·.1):=by
   intro s m;let#[c,f,rfl]:=Zl.mp m;have:=List.filter_eq_nil_iff.mp (ħ.mp z) c f
   cases e:Fo.lk ls (tx [c])with
   |none=>rw[e]at this;show absurd rfl this
   |some co=>show Zl.mpr #[_,Fo.bI e,rfl]
  have d:(Hs.yX.cps.toList.map λc=>tx [c]).Nodup:=by ac_nf
  have:=eU d a;have b:↑Hs.yX.cps.toList=94:=by ac_nf
  rw[Qb,Qb,b]at this;rfl'
 .show z
theorem QQ(h:c∈qQ ls):Fo.lk ls (tx [c])=none/\Hs.Sg (tx [c])/\c<1114112:=by
 let#[g,a]:=ö.mp h;let#[j,i,f]:=ă.mp g;have d:↑Hs.yX.cps.toList=94:=by ac_nf
 have b:c=Hs.lD (j:Int):=by
  unfold Hs.lD;rw[show((j:Int)%94).toNat=j by rfl',Xs,Qr i,f];rfl
 show#[?_,#[j,by rw[b]],by rw[b];show Hs.qx _]
 cases e:Fo.lk ls (tx [c])with
 |none=>rfl
 |some co=>rw[e]at a;cases a
theorem QR{i:ϐ}(g:cap [none,!1] σ=[none,!(.ref d)])(b:LtT H d ht kvs i c0)(f:Zn kvs ls)(h:∀p,H p=none->Q (.ref p) (upd H p (.lst ((qQ ls).map λc=>V.str (tx [c]))))):iS (yR [none,!1] (ak 0) (tB (iM (fB 0) (fB 1))) (fB 0) σ Q) (.str Hs.yX) H:=by
 show YM (by ac_nf) (λc=>if(Fo.lk ls (tx [c])).isNone=true then !(V.str (tx [c]))else none) (λj c o A B l m=>?_) λn a=>?_
 .rw [g];symm
  cases e:Fo.lk ls (tx [c])with
  |none=>
   show#[d,none,rfl,b.no f (λz=>by cases jE.mp z) e,?_];symm;change if(not false)=true then _ else _
   apply l _ (by rw[e];rfl)
  |some co=>
   let#[r,k,_]:=b.get f e;show#[d,_,rfl,k,?_];symm;change if(not true)=true then _ else _
   apply m (by rw[e];rfl)
 .rw [zV,Æ];show h n a
theorem LtT.frz{b:ϐ}{c:PySem.Obj}(h:LtT H d ht kvs b c0)(e:H d=!(.dK (jY kvs)))(o:Sb [d] H H1)(f:H1 d=!(.frz c (.dK (jY kvs)))):LtT H1 d ht kvs b c0:=by
 show#[.inr #[c,f],h.n,h.f,λp l n=>?_,h.o,h.e,h.l,h.m];let#[i,j,k,t,g,a]:=h.k p l n;show#[i,j,k,t,g,o t _ (by intro m;rw[Zs.mp m,e]at a;cases a) a]
theorem BZ{x:Lw}(e:x.1=y.1):∀{kvs:ϊ Lw},(kvs.map (·.1)).Nodup->x∈kvs->y∈kvs->x=y
 |[],_,h,_=>by cases h
 |p::r,hn,h1,h2=>by
  rw[È,é]at hn;rcases Ç.mp h1 with r1|h1
  .rcases Ç.mp h2 with r2|h2
   .rw [r1,r2]
   .show absurd (Zl.mpr #[y,h2,by rw[<-e,r1]]) hn.1
  .rcases Ç.mp h2 with r2|h2
   .show absurd (Zl.mpr #[x,h1,by rw[e,r2]]) hn.1
   .show BZ e hn.2 h1 h2
inductive sp_f8(K:Ϗ)(vs:ϊ V)(H:Hp)(Q:VK)(E:XK):Prop
 |mk (a:ό) (c:ϊ Int) (b:Nat) (e:vs=[.ref a,.int b]) (f:SqL K H a (c.map V.int)) (g:b<=60) (h:∀d H' (kvs:ϊ Lw) fs c0,Same H H'->H' d=!(.dK (jY kvs))->LtT H' d b kvs fs c0->Q (.ref d) H')
abbrev QS K:=(aA (jb j6 (aL tY bR (aL bJ fY (tI 94))) (bN (sp_f6 K) (lg mD (aL bQ (tI 1) (aL bJ (aL eN mD (tI 2)) (tI 2))) bc)))
  (bB (aN (aL pB oN (aL bJ (aL eN cC (tI 3)) cX))) (aA (jb j6 (aL tY bR (aL bJ fY (tI 94))) (bN (sp_f6 K) (lg mD (tI 1) bc)))
  (jb j6 (tC (V.str (Str.ofString ""))) (aL tY bR (aL bJ fY (tI 94))))) aV))
abbrev QT K:=(aA (aK (aL bJ (aL gw (aL bQ (aL bQ (aL bQ (bN (sp_f9 K) (cA aQ (tI 3))) (aL gw (aL gw (tI 7919) oN) oN)) (aL gw (tI 31) oN)) (tI 5)) (tI 48271)) (tI 2147483647)) (ak 8))
  (aA (aK (aL bQ (aL bQ fY (tI 1)) (aL bJ mD (tI 2))) (ak 5))
  (QS K)))
abbrev QV K:=(aA (aK (bN (sp_f9 K) (cA aQ (tI 1))) (ak 3))
  (aA (aK (aL bQ (tI 2) (aL bJ cC (tI 3))) (ak 4))
  (aA (aK (aL bJ (bN (sp_f9 K) (cA aQ (tI 2))) (tI 94)) (ak 5))
  (aA (aK kJ (ak 6))
  (aA (cD (eZ (cj cX)) (ak 7) (QT K))
  (aP j6))))))
abbrev RW K(E:XK)(Eh:XK):=(aA (aK (bN (lA K) f9) (ak 2))
  (QV K))
abbrev RX:ϊ ϐ:=sN ["script","height","menu","cell","many","at","letters","k","number"]
theorem Zo(h:sp_f8 K vs H Q E):RG (RW K E) RX vs H Q:=by
 let#[a,T,C,rfl,hS,ad,q]:=h;show#[E0,?_];apply#[rfl,?_];apply#[a,T,1,rfl,hS,?_];let#[m,em,hm]:=Mm.eQ (Mm.cellAt T 1) 3 (by decide);generalize Mm.cellAt T 1=cl at em⊢;replace em:cl%3=(m:Int):=em;let#[X,eX,hX]:=Mm.eQ (cl/3) (m+2) ();apply#[a,T,2,rfl,hS,?_];symm;rw[em,show(2:Int)+((m:Nat):Int)=((m+2:Nat):Int)by rfl'];intro g ah;have ag:∀p'∈[g],H p'=none:=λp' ap=>by rw[Zs.mp ap];show ah
 symm;walk_at "ns";show nP (m+2) (Ð _) () () (λi σ U=>(Ex2 λ(b:ϊ Lw) (d:Int)=>(An8 (↑b=i+(if X<i then 1 else 0)) ((b.map (·.1)).Nodup) (Sb [g] H U) (U g=!(.dK (jY b))) (∀p∈b,p.1≠tx []->(∃x:Int,p.1=tx [Hs.lD x]/\d-2*(i:Int)<=x/\x<=d)/\GoodL U C p) (i<=X->tx []∉b.map (·.1)) (X<i->∃N n v,(tx [],V.str N,[])∈b/\(N,v,[n])∈b/\N≠tx []) (Ex2 λo1 o2=>σ=[!(.ref a),!(.int (C:Nat)),!(.str sgs),!(.int cl),!(.int ((m+2:Nat):Int)),!(.int d),!(.ref g),o1,o2])))) #[[],_,rfl,by simp,Sb.of (aq ah _),aa,by simp,by simp,by simp,none,none,rfl] ?_ ?_
 .rintro i σ U hi ⟨b,d,r,F,sb,e,W,P,A,o1,o2,rfl⟩;apply#[a,T,3,rfl,sb.seq ag hS,?_];symm;have n0:0<=(Mm.cellAt T 3+7919*(i:Int)*(i:Int)+31*(i:Int)+5)*48271%2147483647:=ġ _ (by decide);generalize(Mm.cellAt T 3+7919*(i:Int)*(i:Int)+31*(i:Int)+5)*48271%2147483647=num at n0;let#[w,ew,hw]:=Mm.eQ (num/2) 2 ();replace ew:num/2%2=(w:Int):=ew;rw[ew];show#[num,1+w,C,by rw[show((1+w:Nat):Int)=1+(w:Int)by rfl'],(),ad,λt H3 Z s3 e3 ar am=>?_];symm;have S:↑sgs=94:=by ac_nf
  have h0:0<=(d+1+num%2)%94:=ġ _ (by decide);have h1:(d+1+num%2)%94<94:=ĕ _ (by decide);have O:xN Hs.yX.cps.toList ((d+1+num%2)%94)=!(Hs.lD (d+1+num%2)):=by
   have hl:↑Hs.yX.cps.toList=94:=by ac_nf
   rw[uF h0 ()];unfold Hs.lD;rw[Xs,Qr ()];rfl
  show wW (c:=Hs.lD (d+1+num%2)) (by rw[S];decide) O ?_;have n2:num%2=0\/num%2=1:=()
  have j:tx [Hs.lD (d+1+num%2)]∉b.map (·.1):=λmm=>by
   let#[p,mp,ep]:=Zl.mp mm;have ab:p.1=tx [Hs.lD (d+1+num%2)]:=ep;let#[#[x,ex,x1,x2],_]:=W p mp (by rw[ab];intro z;cases jE.mp z);have:=Hs.Qs (List.cons.inj (jE.mp (ex.symm.trans ab))).1;rfl'
  have G:tx [Hs.lD (d+1+num%2)]≠tx []:=λz=>by cases jE.mp z
  have R:Hs.Sg (tx [Hs.lD (d+1+num%2)]):=#[_,rfl];let#[s,es]:∃s,s=tx [Hs.lD (d+1+num%2)]:=#[_,rfl];rw[<-es]at j G R;have D:=s3.get e;have u:↑b<=5:=by rw[r];split<;>rfl'
  show#[g,_,rfl,DPut.k (k:=Sum.inr (tx [Hs.lD (d+1+num%2)])) D (by unfold jY;rw[Qb];show Õ u (by decide)),?_];rw[<-es,BX (.ref t) Z j];have J:∀(v:V)(c:ϊ Nat),((b++[(s,v,c)]).map (·.1)).Nodup:=λv c=>by
   rw[Wp,â];show#[F,by simp,λx mx y my ee=>j (by rw[<-show y=s by simpa using my,<-ee];show mx)]
  have gn:GoodL H3 C (s,.ref t,Z):=#[R,by dsimp only;rfl',am,t,rfl,e3];have I:∀(v:V)(c:ϊ Nat)(H4:Hp),(∀p∈b,p.1≠tx []->GoodL H4 C p)->GoodL H4 C (s,v,c)->∀p∈b++[(s,v,c)],p.1≠tx []->(∃x:Int,p.1=tx [Hs.lD x]/\(d+1+num%2)-2*((i+1:Nat):Int)<=x/\x<=d+1+num%2)/\GoodL H4 C p:=λv c H4 g1 g2 p mp l=>by
   rcases Å.mp mp with mp|mp
   .obtain ⟨⟨x,ex,x1,x2⟩,_⟩:=W p mp l;show#[#[x,ex,(),()],g1 p mp l]
   .rw [Zs.mp mp];show#[#[_,es,(),Int.le_refl _],g2]
  symm;rw[show cl/3%((m+2:Nat):Int)=(X:Int)from eX];have e4:upd H3 g (HO.dK (jY (b++[(s,V.ref t,Z)]))) g=!(.dK (jY (b++[(s,V.ref t,Z)]))):=aa;show dw (λc=>?_) λc=>?_
  .replace c:i=X:=()
   subst c;apply#[num,1,C,rfl,(),ad,λB Y f s5 e5 af ae=>?_];apply wW (c:=Hs.lD (d+1+num%2)) (by rw[S];decide) O ?_;have M:=s5.get e4;show#[g,_,rfl,DPut.k (k:=Sum.inr (tx [Hs.lD (d+1+num%2)])) M (by unfold jY;rw[Qb,Â];show Õ (ş u 1) (by decide)),?_];rw[<-es,Ei f j];have al:GoodL Y C (s,.ref B,f):=#[R,by dsimp only;rfl',ae,B,rfl,e5];have e6:upd Y g (HO.dK (jY (b++[(s,V.ref B,f)]))) g=!(.dK (jY (b++[(s,V.ref B,f)]))):=aa;have gk:∀p∈b,p.1≠tx []->GoodL (upd Y g (HO.dK (jY (b++[(s,V.ref B,f)])))) C p:=λp mp l=>((((W p mp l).2.same s3).put D).same s5).put M
   have ac:=al.put (o:=HO.dK (jY (b++[(s,V.ref B,f)]))) M;have ai:Sb [g] H (upd Y g (HO.dK (jY (b++[(s,V.ref B,f)])))):=((((sb.same s3).set (by simp)).same s5).set (by simp));generalize upd Y g (HO.dK (jY (b++[(s,V.ref B,f)])))=H6 at e6 gk ac ai⊢;apply wW (c:=Hs.lD (d+1+num%2)) (by rw[S];decide) O ?_;symm;have L:tx []∉(b++[(s,V.ref B,f)]).map (·.1):=λmm=>by
    rw[Wp,Å]at mm;rcases mm with mm|mm
    .show P (Ä _) mm
    .show G (show tx []=s by simpa using mm).symm
   show#[g,_,rfl,DPut.k (k:=Sum.inr (tx [])) e6 (by unfold jY;rw[Qb,Â];show Õ (ş u 1) (by decide)),?_];rw[BX (.str #[([Hs.lD (d+1+num%2)].toArray)]) [] L];symm;let#[n,rfl]:∃n,f=[n]:=by
    match f,af with
    |[n],_=>show#[n,rfl]
   show#[_,_,?_,?_,ai.set (by simp),aa,λp mp l=>?_,λz=>absurd z (),λ_=>#[s,n,.ref B,by rw[es];show Û _ É,by simp,G],_,_,rfl]
   .rw [Â,Â,r,if_neg (),if_pos ()];rfl
   .rw [Wp,â];show#[J _ _,by simp,λx mx y my ee=>L (by rw[<-show y=tx []by simpa using my,<-ee];show mx)]
   .rcases Å.mp mp with mp|mp
    .show I (.ref B) [n] _ (λp mp l=>(gk p mp l).put e6) (ac.put e6) p mp l
    .rw [Zs.mp mp]at l;show absurd rfl l
  .replace c:¬i=X:=λz=>c ()
   apply#[b++[(s,.ref t,Z)],_,?_,J _ _,(sb.same s3).set (by simp),aa,I _ _ _ (λp mp l=>((W p mp l).2.same s3).put D) (gn.put D),λz mm=>?_,λz=>?_,_,_,rfl]
   .rw [Â,r];by_cases c2:X<i
    .rw [if_pos c2,if_pos ()];rfl
    .rw [if_neg c2,if_neg ()];rfl
   .rw [Wp,Å]at mm;rcases mm with mm|mm
    .show P () mm
    .show G (show tx []=s by simpa using mm).symm
   .obtain ⟨N,n,v,h5,h6,h7⟩:=A ();show#[N,n,v,á _ h5,á _ h6,h7]
 .rintro σ U ⟨b,d,r,F,sb,e,W,P,A,o1,o2,rfl⟩;let#[N,n,v,h5,h6,h7]:=A hX;rw[if_pos hX]at r;apply q g U b N n (sb.off ag) e #[.inl e,F,h5,λp mp l=>(W p mp l).2,#[v,h6],h7,(),Mi F ()]
inductive sp_f0(K:Ϗ)(vs:ϊ V)(H:Hp)(Q:VK)(E:XK):Prop
 |mk (cl:Int) (d f:ό) (i:Nat) (c:ϊ Lw) (h:ϐ) (g:Nat) (e:ϵ) (b:ϊ ϐ) (j:vs=[.int cl,.ref d,.ref f]) (k:LtT H d i c h g) (l:Zn c e) (m:↑e<=40) (n:H f=!(.lst (b.map V.str))) (o:b.Pairwise lC) (p:0<↑b) (q:↑b<=9) (t:(∀s∈b,Hs.Sg s/\∃co,Fo.lk e s=!co)) (u:∀r H' (a:ϊ ϐ),Same H H'->H' r=!(.lst (a.map V.str))->a.Pairwise lC->0<↑a->↑a<=10->(∀s∈a,Hs.Sg s/\(s∈b\/Fo.lk e s=none))->Q (.ref r) H')
abbrev RZ K(E:XK)(Eh:XK):=(aA (aK (jr [none,!1] (CV (bN (lA K) f9)) (ak 0) (tB (iM aQ bc)) aQ) (ak 3))
  (aA (bB (aN (aL pB (aL bJ aQ (tI 2)) (tI 0))) (aP bR) aV)
  (aP (gW (q9 K) (cj (aL yg bR (fC (cj (aL (cu K) cC (aL bJ (aL eN aQ (tI 2)) (dZ K cC)))))))))))
abbrev Ml:ϊ ϐ:=sN ["cell","letters","known","lacked"]
theorem Zq(h:sp_f0 K vs H Q E):RG (RZ K E) Ml vs H Q:=by
 let#[cl,d,U,ht,W,fs,c0,C,G,rfl,P,R,v,J,j,B,T,f,q]:=h;show#[E0,?_];apply#[rfl,?_];show QR rfl P R λF z=>?_
 have M:=Mj v;have X:=QM C;have L:=λc (h:c∈qQ C)=>QQ h
 generalize qQ C=lc at M X L⊢;have t:upd H F (HO.lst (lc.map λc=>V.str (tx [c]))) F=!(.lst (lc.map λc=>V.str (tx [c]))):=aa;have n:=aq (o:=HO.lst (lc.map λc=>V.str (tx [c]))) z;generalize upd H F (HO.lst (lc.map λc=>V.str (tx [c])))=H3 at n t⊢;apply dw (λc=>?_) λc=>?_
 .symm;show q U H3 G n (n.get J) j B () λs p=>#[(f s p).1,.inl p]
 apply wV t ?_;let#[k,O,u]:=Mm.eQ (cl/2) ↑lc M;symm;rw[O];let#[x,I]:∃x,lc[k]?=!x:=#[_,Qr u];let#[N,x2,x3]:=L x (Yf I);show qt t I ?_;symm;intro p4 i;apply wY (az i (n.get J)) aa (by rw[Qb];simp;rfl') λp5 A=>?_
 symm;have w:(G++[tx [x]]).Nodup:=by
  rw[â];show#[dW j,by simp,λa Y b Z e=>?_];let#[co,g]:=(f a Y).2;rw[e,show b=tx [x]by simpa using Z,N]at g
  cases g
 show Bl (ns:=G++[tx [x]]) (SqL.of (by rw[aa,Wp];rfl)) w (by simp;rfl') λr D y l S=>?_
 apply q r _ D (((n.new i).new A).new S) aa l (by rw[y.length_eq];simp) (by rw[y.length_eq];simp;rfl') λs p=>?_
 rcases Å.mp (y.mem_iff.mp p)with m|m
 .show #[(f s m).1,.inl m]
 .rw [Zs.mp m];show#[x2,.inr N]
theorem S7{K:Ϗ}{b:ϊ V}{i:Int}(e:SqL K H a b)(d:0<=i)(f:i<(↑b:Int))(h:∀v∈b,Q v H):cu K (.ref a) (.int i) H Q:=by
 let#[v,g,c]:=Qk d f;show dF e c (h v g)
inductive sp_f31(K:Ϗ)(vs:ϊ V)(H:Hp)(Q:VK)(E:XK):Prop
 |mk (cl:Int) (c:ό) (b:Nat) (a:ϊ ϐ) (d:vs=[.int cl,.ref c,.int b]) (e:b<=3) (f:SqL K H c (a.map V.str)) (g:a.Pairwise lC) (h:↑a<=10) (i:(∀s∈a,Hs.Sg s)) (j:∀r H' ds es,Same H H'->HsF K H' r ds es->GoodH ds es->↑ds<=9->(∀ps∈ds,∀p∈ps,p.1∈a)->Q (.ref r) H')
abbrev Mp K:=(aA (cD (eZ (cj cC)) (ak 5) (cG (qT K "list" cI cX (cj (gW (sV K) (cj (jr [none,!1,!5,!3] (eZ (cj (dZ K bc))) (ak 0) cZ (cU (cA (aL (cu K) bc aQ) (aL bJ (aL bQ (aL bQ bR aQ) (tI 1)) cC))))))))))
  (aP (cU (cA (gW (dN K) (cj cX)) (cU (cj (tI 0)))))))
abbrev Mq K(E:XK)(Eh:XK):=(aA (aK (aL bQ (tI 2) (aL bJ aQ (aL (cu K) (fC (zc (tI 2) (tI 6) (tI 4) (tI 2))) bR))) (ak 3))
  (aA (aK (fC f9) (ak 4))
  (Mp K)))
abbrev zW:ϊ ϐ:=sN ["cell","signs","few","many","doors","room"]
theorem WY(h:sp_f31 K vs H Q E):RG (Mq K E) zW vs H Q:=by
 let#[cl,sg,fw,D,rfl,ab,F,Z,ae,X,q]:=h;show#[E0,?_];symm;intro p0 W;apply S7 (SqL.of aa) () (by change(fw:Int)<4;rfl') λv mv=>?_
 let#[k,rfl,ac,ad]:∃k:Int,v=.int k/\2<=k/\k<=6:=by
  simp only[Ç,Þ,ć]at mv;rcases mv with rfl|rfl|rfl|rfl
  all_goals show#[_,rfl,(),()]
 have G:=aq W (HO.lst [V.int 2,V.int 6,V.int 4,V.int 2]);replace F:=G.seq F;replace q:=λr u ds es s=>q r u ds es (G.trans s)
 generalize upd H p0 (HO.lst [V.int 2,V.int 6,V.int 4,V.int 2])=H at F q⊢;have c0:0<=cl%k:=ġ _ ();have c1:cl%k<k:=ĕ _ ();let#[m,em,hm]:∃m:Nat,(2:Int)+cl%k=(m:Int)/\2<=m/\m<=7:=#[(2+cl%k).toNat,(),(),()];symm;rw[em];intro dr A;symm;walk_at "ns";show nP m (Ð _) () () (λi σ u=>(An2 (Sb [dr] H u) (Ex2 λ(f:ϊ (ό×L1S)) (o5:ύ V)=>(An4 (u dr=!(.lst (f.map λt=>V.ref t.1))) (↑f=i) (∀t∈f,DrF u t.1 t.2/\t.2.map (·.1)=D/\∀q∈t.2,0<=q.2/\q.2<(m:Int)) (σ=[!(.int cl),!(.ref sg),!(.int (fw:Nat)),!(.int (m:Int)),!(.ref dr),o5]))))) #[Sb.of (aq A _),[],_,aa,rfl,by simp,rfl] ?_ ?_
 .rintro i σ u hi ⟨R,f,o5,w,C,n,rfl⟩;have N:Same H u:=R.off λp M=>by rw[Zs.mp M];show A
  apply d9 (SqL.of w) ?_;apply cg (N.seq F) ?_;rw[Qb];apply yS ↑D (Ð _) () () (λk S y=>(An2 (Same u y) (Ex1 λ(b:ϊ Dz)=>(An3 (S=b.map (λz:Dz=>V.ref z.1)) (b.map (·.2.1)=D.take k) (∀z∈b,y z.1=!(.tup [.str z.2.1,.int z.2.2])/\0<=z.2.2/\z.2.2<(m:Int)))))) #[Same.refl _,[],rfl,rfl,by simp] ?_ ?_ ?_
  .rintro k S y ⟨_,b,rfl,e,_⟩;have:=Ý List.length e;rw[Qb,Ô]at this;rw[Qb];rfl'
  .rintro k S y hk ⟨O,b,rfl,e,L⟩;let#[s,hs]:∃s,D[k]?=!s:=#[_,Qr hk];apply dF ((N.trans O).seq F) (aM (j:=k) (v:=.str s) (by rw[Jn,hs];rfl)) ?_;symm;intro t ht;have x0:=ġ ((i:Int)+(k:Int)+1) (show(m:Int)≠0 by rfl');have x1:=ĕ ((i:Int)+(k:Int)+1) (show(0:Int)<(m:Int)by rfl');show#[O.new ht,b++[(t,s,((i:Int)+(k:Int)+1)%(m:Int))],by simp,by rw[Wp,e,Í,hs];rfl,λz mz=>?_];rcases Å.mp mz with mz|mz
   .show #[az ht (L z mz).1,(L z mz).2]
   .rw [Zs.mp mz];show#[aa,x0,x1]
  rintro S y ⟨O,b,rfl,e,L⟩ p hp;rw[Ö]at e;apply z7 (SqL.of aa) λl ob U hl=>?_
  have P:=(O.new hp).new (o:=HO.frz ob (.tup (b.map λz:Dz=>V.ref z.1))) hl;have hD:DrF (upd (upd y p (HO.lst (b.map λz:Dz=>V.ref z.1))) l (HO.frz ob (.tup (b.map λz:Dz=>V.ref z.1)))) l (b.map (·.2)):=#[b,ob,rfl,U,aa,λz m=>az hl (az hp (L z m).1)];generalize upd (upd y p (HO.lst (b.map λz:Dz=>V.ref z.1))) l (HO.frz ob (.tup (b.map λz:Dz=>V.ref z.1)))=H3 at P hD⊢;symm;have g:=P.get w;show fL g (by rw[Qb];rfl') ?_;apply#[(R.same P).set (by simp),f++[(l,b.map (·.2))],_,by rw[aa,Wp];rfl,by rw[Â,Ú,C],λt mt=>?_,rfl];rcases Å.mp mt with mt|mt
  .show #[oV ((n t mt).1.same P) g,(n t mt).2]
  .rw [Zs.mp mt];show#[oV hD g,by rw[Æ];show e,λq mq=>?_];let#[z,mz,rfl]:=Zl.mp mq;show(L z mz).2
 .rintro σ u ⟨R,f,o5,w,C,n,rfl⟩;have N:Same H u:=R.off λp M=>by rw[Zs.mp M];show A
  apply iY (SqL.of w) λtd Y=>?_
  symm;intro te J;symm;intro r B;have T:=((aq (o:=HO.tup (f.map λt=>V.ref t.1)) Y).new (o:=HO.tup [V.int 0]) J).new (o:=HO.tup [V.ref td,V.ref te]) B;have x:↑(f.map (·.2))=m:=by rw[Qb];show C
  have c:∀d∈f.map (·.2),d.map (·.1)=D/\∀q∈d,0<=q.2/\q.2<(m:Int):=λd a=>by
   let#[t,mt,rfl]:=Zl.mp a;show(n t mt).2
  have I:∀d∈f.map (·.2),∀z∈d,z.1∈D:=λd a z mz=>by rw[<-(c d a).1];show Zl.mpr #[z,mz,rfl]
  show q r _ (f.map (·.2)) [0] (N.trans T) #[td,te,f,aa,rfl,SqT.of (az B (az J aa)),λt mt=>(n t mt).1.same T,az B aa] #[(),(),λd a=>by rw[(c d a).1];show Z,λd a=>?_,λd a z mz=>#[X _ (I d a z mz),?_],by simp,by simp,λe me=>?_] () I
  .have:=Ý List.length (c d a).1;rw[Qb]at this;rfl'
  .rw [x];show(c d a).2 z mz
  .rw [Zs.mp me,x];rfl'
inductive sp_f20(K:Ϗ)(vs:ϊ V)(H:Hp)(Q:VK)(E:XK):Prop
 |mk (cl:Int) (c:ό) (b:Nat) (a:ϊ ϐ) (d:vs=[.int cl,.ref c,.int b]) (e:b<=3) (f:SqL K H c (a.map V.str)) (g:a.Pairwise lC) (h:↑a<=10) (i:(∀s∈a,Hs.Sg s)) (j:∀r H' ds es,Same H H'->HsF K H' r ds es->GoodH ds es->↑ds<=9->(∀ps∈ds,∀p∈ps,p.1∈a)->Q (.ref r) H')
abbrev Mr K:=(aA (aK (aL bQ (aL eN aQ (tI 3)) (aL gw (aL gw (tI 7919) (aL bQ (aL bQ (aL gw fY (tI 5)) oN) (tI 1))) (aL bQ (aL bQ fY oN) (tI 2)))) (ak 8))
  (aA (aK (aL bJ (aL gw mD (tI 69621)) (tI 2147483629)) (ak 8))
  (bB (aN (aL xV (aL bJ mD (tI 4)) (tI 1))) (cG (qT K "list" cI j6 (cj (cU (cA (aL (cu K) bc oN) (aL bJ (aL eN mD (tI 4)) cC)))))) aV)))
abbrev Ms K:=(aA (cD (eZ (cj cC)) (ak 5) (aA (aK (fC f9) (ak 6))
  (aA (cD (eZ (cj (dZ K bc))) (ak 7) (Mr K))
  (cG (qT K "list" cI cX (cj (gW (sV K) (cj j6))))))))
  (aA (aK (jr [none,!0] (eZ (cj cC)) (ak 0) (aN (aL pB (aL bJ (aL Rb (aL eN bc (tI 3)) aQ) (tI 2)) (tI 0))) aQ) (ak 9))
  (aP (cU (cA (gW (dN K) (cj cX)) (gW (dN K) (cj NQ)))))))
abbrev Mt K(E:XK)(Eh:XK):=(aA (bB (aN (aL pB (aL bJ aQ (tI 5)) (tI 3))) (aP (bN (sp_f31 K) (lg (aL eN aQ (tI 5)) bc bR))) aV)
  (aA (aK (aL bQ (tI 1) (aL bJ aQ (aL (cu K) (fC (zc (tI 3) (tI 3) (tI 3) (tI 2))) bR))) (ak 3))
  (aA (aK (fC f9) (ak 4))
  (Ms K))))
abbrev zX:ϊ ϐ:=sN ["cell","signs","few","many","doors","room","found","k","number","ends"]
theorem X3(h:sp_f20 K vs H Q E):RG (Mt K E) zX vs H Q:=by
 let#[cl,sg,fw,R,rfl,am,hG,ag,as,ad,q]:=h;show#[E0,?_];apply dw (λ_=>?_) λ_=>?_
 .symm;show#[_,sg,fw,R,rfl,am,hG,ag,as,ad,q]
 symm;intro p0 ar;apply S7 (SqL.of aa) () (by change(fw:Int)<4;rfl') λv mv=>?_
 let#[k,rfl,ax,ay]:∃k:Int,v=.int k/\1<=k/\k<=3:=by
  simp only[Ç,Þ,ć]at mv;rcases mv with rfl|rfl|rfl|rfl
  all_goals show#[_,rfl,(),()]
 have ab:=aq ar (HO.lst [V.int 3,V.int 3,V.int 3,V.int 2]);replace hG:=ab.seq hG;replace q:=λr D ds w s=>q r D ds w (ab.trans s)
 generalize upd H p0 (HO.lst [V.int 3,V.int 3,V.int 3,V.int 2])=H at hG q⊢;have c0:0<=cl%k:=ġ _ ();have c1:cl%k<k:=ĕ _ ();let#[m0,ah]:∃m0:Nat,cl%k=(m0:Int):=#[(cl%k).toNat,()];symm;rw[ah,show(1:Int)+((m0:Nat):Int)=((m0+1:Nat):Int)by rfl'];let#[m,em,hm]:∃m,m=m0/\m<3:=#[_,rfl,()];rw[<-em];intro dr L;symm;walk_at "ns";show nP (m+1) (Ð _) () () (λi Z D=>(An2 (Sb [dr] H D) (Ex5 λ(J:ϊ (ό×L1S)) (o5 o6 W X:ύ V)=>(An4 (D dr=!(.lst (J.map λt=>V.ref t.1))) (↑J=i) (∀t∈J,DrF D t.1 t.2/\(t.2.map (·.1)).Sublist R/\∀q∈t.2,0<=q.2/\q.2<((m+1:Nat):Int)) (Z=[!(.int cl),!(.ref sg),!(.int (fw:Nat)),!(.int ((m+1:Nat):Int)),!(.ref dr),o5,o6,W,X,none]))))) #[Sb.of (aq L _),[],_,_,_,_,aa,rfl,by simp,rfl] ?_ ?_
 .rintro i Z D hi ⟨sb,J,o5,o6,W,X,F,U,I,rfl⟩;symm;intro pl B;have a1:dr≠pl:=aU F B;have S0:Same H D:=sb.off λp N=>by rw[Zs.mp N];show L
  have ac:H pl=none:=S0.free B;have al:∀p∈[dr,pl],H p=none:=λp N=>by
   simp only[Ç,Þ,ć]at N;rcases N with rfl|rfl
   .show L
   .show ac
  have aw:=sb.new (o:=HO.lst []) B;apply cg ((S0.new B).seq hG) ?_;rw[Qb];symm;walk_at "ns";show nP ↑R (Ð _) () () (λk Z A=>(An3 (Sb [dr,pl] H A) (Same D A) (Ex3 λ(u:ϊ Dz) (W X:ύ V)=>(An4 (A pl=!(.lst (u.map λz:Dz=>V.ref z.1))) ((u.map (·.2.1)).Sublist (R.take k)) (∀z∈u,A z.1=!(.tup [.str z.2.1,.int z.2.2])/\0<=z.2.2/\z.2.2<((m+1:Nat):Int)) (Z=[!(.int cl),!(.ref sg),!(.int (fw:Nat)),!(.int ((m+1:Nat):Int)),!(.ref dr),!(.int (i:Nat)),!(.ref pl),W,X,none]))))) #[aw.more (by simp),aq B _,[],_,_,aa,by simp,by simp,rfl] ?_ ?_
  .rintro k Z A hk ⟨O,Y,u,W,X,g,a,hz,rfl⟩;have S2:=O.off al;let#[s,hs]:∃s,R[k]?=!s:=#[_,Qr ()];have ai:R.take (k+1)=R.take k++[s]:=by rw[Í,hs];rfl
   have av:↑u<=k:=by
    have:=a.length_le;rw[Qb,Ô]at this;rfl'
   symm;generalize(cl/3+7919*((i:Int)*5+(k:Int)+1)*((i:Int)+(k:Int)+2))*69621%2147483629=nb;show jW (λc=>?_) λc=>?_
   .symm;show d9 (SqL.of g) ?_;apply dF (S2.seq hG) (aM (j:=k) (v:=.str s) (by rw[Jn,hs];rfl)) ?_;symm;intro t ht;apply fL (az ht g) (by rw[Qb];rfl') ?_;symm;have x0:=ġ (nb/4) (show((m+1:Nat):Int)≠0 by rfl');have x1:=ĕ (nb/4) (show(0:Int)<((m+1:Nat):Int)by rfl');show#[(O.new ht).set (by simp),λb o e=>?_,u++[(t,s,nb/4%((m+1:Nat):Int))],_,_,by rw[aa,Wp];rfl,by rw[Wp,ai];show a.append (List.Sublist.refl _),λz mz=>?_,rfl]
    .rw [ao λz=>by rw[z,B]at e;cases e];show(Y.new ht) b o e
    .rcases Å.mp mz with mz|mz
     .show #[eV (az ht (hz z mz).1) (az ht g),(hz z mz).2]
     .rw [Zs.mp mz];show#[eV aa (az ht g),x0,x1]
   .symm;show#[O,Y,u,_,_,g,a.trans (List.take_sublist_take_left (Nat.le_succ k)),hz,rfl]
  .rintro Z A ⟨O,Y,u,W,X,g,a,hz,rfl⟩;rw[Ö]at a;have av:↑u<=10:=by
    have:=a.length_le;rw[Qb]at this;rfl'
   apply d9 (SqL.of (Y.get F)) ?_;apply z7 (SqL.of g) λl ob ap hl=>?_
   have s3:=aq (o:=HO.frz ob (.tup (u.map λz:Dz=>V.ref z.1))) hl;have hD:DrF (upd A l (HO.frz ob (.tup (u.map λz:Dz=>V.ref z.1)))) l (u.map (·.2)):=#[u,ob,rfl,ap,aa,λz m=>s3.get (hz z m).1];generalize upd A l (HO.frz ob (.tup (u.map λz:Dz=>V.ref z.1)))=H3 at s3 hD⊢;symm;have G:=s3.get (Y.get F);show fL G (by rw[Qb];rfl') ?_;apply#[λb o n e=>?_,J++[(l,u.map (·.2))],_,_,_,_,by rw[aa,Wp];rfl,by rw[Â,Ú,U],λt mt=>?_,rfl]
   .rw [ao λz=>n (by rw[z];simp)];show s3 b o (Y b o (S0 b o e))
   .rcases Å.mp mt with mt|mt
    .show #[oV (((I t mt).1.same Y).same s3) G,(I t mt).2]
    .rw [Zs.mp mt];show#[oV hD G,by rw[Æ];show a,λq mq=>?_];let#[z,mz,rfl]:=Zl.mp mq;show(hz z mz).2
 .rintro Z D ⟨sb,J,o5,o6,W,X,F,U,I,rfl⟩;have S0:Same H D:=sb.off λp N=>by rw[Zs.mp N];show L
  apply yS (m+1) (Ð _) () () (λi ys A=>(An2 (A=D) (Ex1 λ(w:ϊ Int)=>(An4 (ys=w.map V.int) (↑w<=i) (w.Pairwise (·<·)) (∀e∈w,0<=e/\e<(i:Int)))))) #[rfl,[],rfl,by simp,by simp,by simp] ?_ ?_ ?_
  .rintro i ys A ⟨_,w,rfl,h,_⟩;rw[Qb];show h
  .rintro i ys A hi ⟨rfl,w,rfl,hl,M,hr⟩;apply dw (λc=>?_) λc=>?_
   .symm;show#[rfl,w++[(i:Int)],by rw[Wp];rfl,by rw[Â,Ú];rfl',?_,λe me=>?_]
    .rw [List.pairwise_append];show#[M,by simp,λx mx y my=>by rw[Zs.mp my];show(hr x mx).2]
    .rcases Å.mp me with me|me
     .have:=hr e me;rfl'
     .rw [Zs.mp me];rfl'
   .show #[rfl,w,rfl,(),M,λe me=>by have:=hr e me;rfl']
  rintro ys A ⟨rfl,w,rfl,hl,M,hr⟩ p hp;apply iY (SqL.of (az hp F)) λtd ae=>?_
  apply iY (SqL.of (az ae aa)) λte af=>?_
  symm;intro r S;have T:=(((aq (o:=HO.lst (w.map V.int)) hp).new (o:=HO.tup (J.map λt=>V.ref t.1)) ae).new (o:=HO.tup (w.map V.int)) af).new (o:=HO.tup [V.ref td,V.ref te]) S;have P:↑(J.map (·.2))=m+1:=by rw[Qb];show U
  have f:∀C∈J.map (·.2),(C.map (·.1)).Sublist R/\∀q∈C,0<=q.2/\q.2<((m+1:Nat):Int):=λC d=>by
   let#[t,mt,rfl]:=Zl.mp d;show(I t mt).2
  show q r _ (J.map (·.2)) w (S0.trans T) #[td,te,J,aa,rfl,SqT.of (az S (az af aa)),λt mt=>(I t mt).1.same T,az S aa] #[(),(),λC d=>ag.sublist (f C d).1,λC d=>?_,λC d z mz=>#[ad _ ((f C d).1.subset (Zl.mpr #[z,mz,rfl])),?_],M,(),λe me=>?_] () λC d z mz=>(f C d).1.subset (Zl.mpr #[z,mz,rfl])
  .have:=(f C d).1.length_le;rw[Qb]at this;rfl'
  .rw [P];show(f C d).2 z mz
  .rw [P];show hr e me
inductive sp_f18(K:Ϗ)(vs:ϊ V)(H:Hp)(Q:VK)(E:XK):Prop
 |mk (a:ό) (c:L2S) (d:ϊ Int) (b:ϊ Nat) (e:vs=[.ref a,.str (tx b)]) (f:HsF K H a c d) (g:GoodH c d) (h:↑b<=100) (i:(∀H',Same H H'->Q .non H')) (j:∀n H',Same H H'->inV (ov (Hs.go c (b.take n))) (d.map V.int)=true->Q (.str (tx (b.take n))) H')
abbrev Mu K:=(aA (bB (aN (aL (El K false) cC (tX K aQ 1))) (aK (FJ Ue bc iI (gh cX)) (ak 2)) aV)
  (aA (aK (gW (jM K) (cj (aL (fO K) (tX K aQ 0) cC))) (ak 5))
  (aA (bB (Es (aN (aL pB cX (dZ K bc))) (tB (iM (aL tY bc cX) fY))) (aP bR) aV)
  (aK (gm fY (aL tY bc cX)) (ak 3)))))
abbrev Mv K(E:XK)(Eh:XK):=(aA (aK (tC V.non) (ak 2))
  (aA (aK (tI 0) (ak 3))
  (aA (cD (eZ (cj (aL bQ (dZ K bc) (tI 1)))) (ak 4) (Mu K))
  (aP bR))))
abbrev Mw:ϊ ϐ:=sN ["house","text","found","room","k","doors"]
theorem X4(h:sp_f18 K vs H Q E):RG (Mv K E) Mw vs H Q:=by
 let#[a,t,M,b,rfl,hH,I,u,qn,q]:=h;show#[E0,?_];let#[d,e,rs,Z,D,h3,h4,h5]:=hH;have hw:Hs.Wf t:=#[I.r1,λps mp p m=>(I.sg ps mp p m).2];have T:∀f l,(f=V.non\/∃n,f=.str (tx (b.take n))/\inV (ov (Hs.go t (b.take n))) (M.map V.int)=true)->Same H l->Q f l:=λf l h s=>by
  rcases h with rfl|⟨n,rfl,h⟩
  .show qn _ s
  .show q n _ s h
 apply kY (by rw[bH];show dG u) ?_;rw[bH];symm;rw[show(↑b:Int)+1=((↑b+1:Nat):Int)from rfl];show nP (↑b+1) (Ð _) () () (λi U l=>(An2 (Same H l) (Ex4 λr f S J=>(An3 (Hs.go t (b.take i)=!r) (f=V.non\/∃n,f=.str (tx (b.take n))/\inV (ov (Hs.go t (b.take n))) (M.map V.int)=true) (U=[!(.ref a),!(.str (tx b)),!f,!(.int r),S,J]))))) #[Same.refl _,0,.non,_,_,rfl,.inl rfl,rfl] ?_ ?_
 .rintro i U l hi ⟨s,r,f,S,J,G,g,rfl⟩;have A:i<=↑b:=()
  let#[g0,g1]:=Hs.Bj hw G;let#[j,rfl]:∃j:Nat,r=(j:Int):=#[r.toNat,()];have P:j<↑rs:=by rw[<-D,Qb]at g1;rfl'
  let#[w,B]:∃w,rs[j]?=!w:=#[_,Qr P];have x:t[j]?=!w.2:=by rw[<-D,Jn,B];rfl
  let#[C,ob,O,R,z1,z2]:=h4 w (Yf B);have hn:=uR (I.sr w.2 (Yf x));have hl:=I.ln w.2 (Yf x);rw[<-O,Æ]at hn;rw[<-O,Qb]at hl;walk_at "gj";with_reducible show qu (λW X=>(An2 (X=l) (Ex1 λf=>(An2 (f=V.non\/∃n,f=.str (tx (b.take n))/\inV (ov (Hs.go t (b.take n))) (M.map V.int)=true) (W=[!(.ref a),!(.str (tx b)),!f,!(.int j),!(.int (i:Nat)),J]))))) ?_ ?_
  rotate_left
  .intro N kN;apply dh (s.get Z) ?_;show HF (.inr (SqT.of (s.get h5))) rfl (jC _) ?_;apply Hq (λc=>?_) λc=>?_
   .symm;show YJ (by rw[bH];show dG u) ?_;rw[YH A];apply kN _ _ #[rfl,_,.inr #[i,rfl,by rw[G];show c],rfl]
   .symm;show kN _ _ #[rfl,f,g,rfl]
  rintro _ _ ⟨rfl,f,g,rfl⟩;rename_i l;apply fH (s.get Z) ?_;apply cV (s.tup h3) (aM (j:=j) (v:=.ref w.1) (by rw[Jn,B];rfl)) ?_;apply qz (zs:=C.map λz=>(z.1,z.2.1,V.int z.2.2)) R (by rw[Æ];show s.get z1) (λz m=>?_) (by rw[Æ];show hn) (by rw[Qb];rfl') λp hp=>?_
  .obtain ⟨y,my,rfl⟩:=Zl.mp m;show SqT.of (s.get (z2 y my))
  rw[Æ];have Y:upd l p (HO.dK (C.map ((λz:ό×ϐ×V=>((Sum.inr z.2.1:Key),z.2.2))∘λz:ό×ϐ×Int=>(z.1,z.2.1,V.int z.2.2)))) p=!(.dK (C.map λz:ό×ϐ×Int=>((Sum.inr z.2.1:Key),V.int z.2.2))):=aa;have L:=s.new (o:=HO.dK (C.map ((λz:ό×ϐ×V=>((Sum.inr z.2.1:Key),z.2.2))∘λz:ό×ϐ×Int=>(z.1,z.2.1,V.int z.2.2)))) hp;generalize upd l p (HO.dK (C.map ((λz:ό×ϐ×V=>((Sum.inr z.2.1:Key),z.2.2))∘λz:ό×ϐ×Int=>(z.1,z.2.1,V.int z.2.2))))=X at Y L⊢;apply kY (by rw[bH];show dG u) ?_;rw[bH];apply dw (λc=>?_) λc=>?_
  .symm;show T _ _ g L
  replace A:i<↑b:=()
  let#[c,hc]:∃c,b[i]?=!c:=#[_,Qr A];have step:Hs.go t (b.take (i+1))=Hs.dr w.2 (tx [c]):=by
   rw[show b.take (i+1)=b.take i++[c]by rw[Í,hc];rfl,Hs.uI,G];change Hs.dr (t.getD ((j:Int)).toNat []) _=_;rw[Ð,Xs,x];rfl
  have ix:∀{Q:VK}{l:Hp},Q (.str (tx [c])) l->tY (.str (tx b)) (.int (i:Nat)) l Q:=λh=>wW (c:=c) (by rw[bH];show dG u) (aM hc) h
  have F:=DGet.k (k:=Sum.inr (tx [c])) Y;rw[Lk,O,<-step]at F;apply ix ?_;apply#[p,_,rfl,F,?_]
  cases hg:Hs.go t (b.take (i+1))with
  |none=>
   symm;change if(not false)=true then _ else _
   apply T _ _ g L
  |some r2=>
   rw[hg]at F;symm;change if(not true)=true then _ else _
   apply ix ?_;apply#[p,.int r2,rfl,F,?_];apply#[L,r2,f,_,_,rfl,g,rfl]
 .rintro U l ⟨s,r,f,S,J,G,g,rfl⟩;apply T _ _ g s
inductive sp_f32(K:Ϗ)(vs:ϊ V)(H:Hp)(Q:VK)(E:XK):Prop
 |mk (f h e:ό) (b:L2S) (d:ϊ Int) (a:ϊ ϐ) (g:ϊ Int) (i:vs=[.ref f,.ref h,.ref e]) (j:HsF K H f b d) (k:GoodH b d) (l:SqL K H h (a.map V.str)) (m:0<↑a) (n:↑a<=100) (o:(∀s∈a,Hs.Sg s)) (p:SqL K H e (g.map V.int)) (q:↑g<=60) (t:∀r H' (rows:ϊ (ϊ Nat)),Same H H'->H' r=!(.lst (rows.map λcs=>V.str (tx cs)))->↑rows<=61->(∀cs∈rows,↑cs<=8/\(∀c∈cs,tx [c]∈a)/\inV (ov (Hs.go b cs)) (d.map V.int)=true)->Q (.ref r) H')
abbrev Mx K:=(aA (bB (Es (qU (aN (aL uo (dZ K (aL (cu K) cC (R4 pW (tI 1)))) (tI 2))) (aN (aL pB (aL bJ cX (tI 7)) (tI 0)))) (aN (aL pB (dZ K (aL (cu K) cC (R4 pW (tI 1)))) (tI 8)))) (cG (qT K "list" cI cC (cj (tC (V.str (Str.ofString "")))))) aV)
  (aK (aL fW (aL (cu K) cC (R4 pW (tI 1))) (aL (cu K) bc (aL bJ (aL bJ (aL gw cX (tI 69621)) (tI 2147483629)) (dZ K bc)))) (Cj cC (R4 pW (tI 1)) nH)))
abbrev My K(E:XK)(Eh:XK):=(aA (aK (fC (cj (tC (V.str (Str.ofString ""))))) (ak 3))
  (aA (cD (bY K bR) (ak 4) (Mx K))
  (aA (aK (jr [none,!0] (bY K cC) (ak 0) cZ (bN (sp_f18 K) (cA bc aQ))) (ak 5))
  (aP (jr [none] (bY K fY) (ak 0) (aN (aL mO aQ (tC V.non))) aQ)))))
abbrev vd:ϊ ϐ:=sN ["house","signs","cells","texts","cell","some"]
theorem X5(h:sp_f32 K vs H Q E):RG (My K E) vd vs H Q:=by
 let#[U,sg,ce,R,S,I,ns,rfl,hH,gd,hG,ae,al,ad,hN,ai,q]:=h;show#[E0,?_];symm;intro d w;have C:∀p'∈[d],H p'=none:=λp' ab=>by rw[Zs.mp ab];show w
 symm;walk_at "ns";show fK V.int (zs:=ns) (jO w hN) (λi σ l=>(An2 (Sb [d] H l) (Ex3 λ(b:ϊ (ϊ Nat)) (e:ϊ Nat) (o4:ύ V)=>(An4 (l d=!(.lst ((b++[e]).map λa=>V.str (tx a)))) (↑b<=i) (∀a∈b++[e],↑a<=8/\∀c∈a,tx [c]∈I) (σ=[!(.ref U),!(.ref sg),!(.ref ce),!(.ref d),o4,none]))))) #[Sb.of (aq w _),[],[],_,aa,by simp,by intro a m;rw[show a=[]by simpa using m];simp,rfl] ?_ ?_ ?_
 .rintro i σ l ⟨P,_⟩;show(P.off C).seq hN
 .rintro i n σ l hi ⟨P,b,e,o4,erw,W,t,rfl⟩;have S0:=P.off C;let#[ap,am]:=t e (by simp);walk_at "gj";with_reducible show qu (λZ u=>(An2 (Sb [d] H u) (Ex2 λ(b:ϊ (ϊ Nat)) (e:ϊ Nat)=>(An5 (u d=!(.lst ((b++[e]).map λa=>V.str (tx a)))) (↑b<=i+1) (↑e<=7) (∀a∈b++[e],↑a<=8/\∀c∈a,tx [c]∈I) (Z=[!(.ref U),!(.ref sg),!(.ref ce),!(.ref d),!(.int n),none]))))) ?_ ?_
  .rintro Z u ⟨Y,f,r,D,o,af,F,rfl⟩;have S2:=Y.off C;let#[_,X]:=F r (by simp);apply dF (SqL.of D) (v:=.str (tx r)) (by rw[Wp];show vG _ _) ?_;apply cg (S2.seq hG) ?_;rw[Qb];symm;let#[j,ej,hj]:=Mm.eQ (n*69621%2147483629) ↑I ae;rw[ej];let#[s,L]:∃s,I[j]?=!s:=#[_,Qr hj];let#[m,em]:=ad s (Yf L);show dF (S2.seq hG) (aM (j:=j) (v:=.str s) (by rw[Jn,L];rfl)) ?_;subst em;apply qp (by rw[bH,bH];simp;rfl') ?_;apply Qt D (by simp) ?_;symm;have T:(List.map (λa=>V.str (tx a)) (f++[r])).set (↑(List.map (λa=>V.str (tx a)) (f++[r]))-1) (V.str (tx r++tx [Hs.lD m]))=List.map (λa=>V.str (tx a)) (f++[r++[Hs.lD m]]):=by
    rw[Wp,Wp,Â,Qb,List.set_append_right _ _ (by rw[Qb];simp),Qb];simp[yV]
   rw[T];show#[Y.set (by simp),f,r++[Hs.lD m],_,aa,o,λa mc=>?_,rfl];rcases Å.mp mc with mc|mc
   .show F a (á _ mc)
   .rw [Zs.mp mc];show#[by rw[Â,Ú];rfl',λc mc=>?_];rcases Å.mp mc with mc|mc
    .show X c mc
    .rw [Zs.mp mc];show Yf L
  .have ah:i<↑ns:=(À.mp hi).1;intro N kN;have G:↑e<=7->N [!(.ref U),!(.ref sg),!(.ref ce),!(.ref d),!(.int n),none] l:=λh=>kN _ _ #[P,b,e,erw,Š W,h,t,rfl]
   have A:N [!(.ref U),!(.ref sg),!(.ref ce),!(.ref d),!(.int n),none] (upd l d (.lst ((b++[e]).map (λa=>V.str (tx a))++[V.str (tx [])]))):=kN _ _ ⟨P.set (by simp),b++[e],[],by rw[aa,Wp (l₁:=b++[e])];rfl,by rw[Â,Ú];rfl',by simp,λa m=>by
     rcases Å.mp m with m|m
     .show t a m
     .rw [Zs.mp m];simp,rfl⟩
   have ag:↑(List.map (λa=>V.str (tx a)) (b++[e]))<=1000:=by rw[Qb,Â,Ú];rfl'
   have ix:∀{Q:VK},Q (.str (tx e)) l->cu K (.ref d) (.int (-1)) l Q:=λh=>dF (SqL.of erw) (v:=.str (tx e)) (by rw[Wp];show vG _ _) h
   have ln:∀{Q:VK},Q (.int (↑e:Nat)) l->vU K [.str (tx e)] l Q:=λh=>kY (by rw[bH];rfl') (by rw[bH];show h)
   apply ix ?_;apply ln ?_;apply dw (λ_=>?_) λ_=>?_
   .symm;show dw (λ_=>?_) λ_=>?_
    .symm;show d9 (SqL.of erw) ?_;apply fL erw () ?_;apply A
    .symm;show ix ?_;apply ln ?_;apply dw (λc=>?_) λc=>?_
     .symm;show d9 (SqL.of erw) ?_;apply fL erw () ?_;apply A
     .symm;show G ()
   .symm;show ix ?_;apply ln ?_;apply dw (λc=>?_) λc=>?_
    .symm;show d9 (SqL.of erw) ?_;apply fL erw () ?_;apply A
    .symm;show G ()
 .rintro σ H1 ⟨P,b,e,o4,erw,W,t,rfl⟩;have S1:=P.off C;symm;have o:↑(b++[e])<=61:=by rw[Â,Ú];rfl'
  generalize b++[e]=rs at erw t o;show nY (λa:ϊ Nat=>V.str (tx a)) (zs:=rs) (SqL.of erw) (dG o) (λk B l=>(An3 (Same H1 l) (↑B=k) (∀y∈B,y=.non\/∃a,y=.str (tx a)/\↑a<=8/\(∀c∈a,tx [c]∈I)/\inV (ov (Hs.go R a)) (S.map V.int)=true))) #[Same.refl _,rfl,by simp] ?_ ?_ ?_ ?_
  .rintro k B l ⟨s',_⟩;show SqL.of (s'.get erw)
  .rintro k B l ⟨_,h,_⟩;show Ě h
  .rintro k a B l hk ⟨s',M,hy⟩;let#[c1,c2]:=t a (Yf hk);have fin:∀v u,Same l u->(v=.non\/∃a,v=V.str (tx a)/\↑a<=8/\(∀c∈a,tx [c]∈I)/\inV (ov (Hs.go R a)) (S.map V.int)=true)->(An3 (Same H1 u) (↑(B++[v])=k+1) (∀y∈B++[v],y=.non\/∃a,y=.str (tx a)/\↑a<=8/\(∀c∈a,tx [c]∈I)/\inV (ov (Hs.go R a)) (S.map V.int)=true)):=λv u O hv=>⟨s'.trans O,by rw[Â,M];rfl,λy my=>by
    rcases Å.mp my with my|my
    .show hy y my
    .rw [Zs.mp my];show hv⟩
   apply#[U,R,S,a,rfl,hH.same (S1.trans s'),gd,dG c1,λu O=>fin _ _ O (.inl rfl),λn u O h=>fin _ _ O (.inr #[_,rfl,Î (List.length_take_le' _ _) c1,λc mc=>c2 c (Ş mc),h])]
  rintro B u ⟨O,M,hy⟩ p hp;apply nY (λv:V=>v) (zs:=B) (SqL.of (by rw[List.map_id'];show aa)) (by rw[M];show dG o) (λk J l=>(An2 (l=upd u p (.lst B)) (Ex1 λ(g:ϊ (ϊ Nat))=>(An3 (J=g.map (λa=>V.str (tx a))) (↑g<=k) (∀a∈g,↑a<=8/\(∀c∈a,tx [c]∈I)/\inV (ov (Hs.go R a)) (S.map V.int)=true))))) #[rfl,[],rfl,Ä _,by simp] ?_ ?_ ?_ ?_
  .rintro k J _ ⟨rfl,_⟩;show SqL.of (by rw[List.map_id'];show aa)
  .rintro k J _ ⟨_,g,rfl,h,_⟩;rw[Qb];show h
  .rintro k y J _ hk ⟨rfl,g,rfl,hl,hr⟩;rcases hy y (Yf hk)with rfl|⟨a,rfl,hc⟩
   .symm;show#[rfl,g,rfl,Š hl,hr]
   .symm;show Hr (λz=>by cases z) ?_;apply#[rfl,g++[a],by rw[Wp];rfl,by rw[Â];show Ķ hl,λx mx=>?_];rcases Å.mp mx with mx|mx
    .show hr x mx
    .rw [Zs.mp mx];show hc
  rintro J _ ⟨rfl,g,rfl,hl,hr⟩ p2 ac;show q p2 _ g ((S1.trans (O.new hp)).new ac) aa () hr
theorem tQ:∀l:ϊ Nat,(l.map λn:Nat=>(n:Int)).sum=((l.sum:Nat):Int)
 |[]=>rfl
 |n::r=>by rw[È,ĩ,ĩ,tQ r];rfl'
def Zr{c:TT}{b:TS}{v:ϑ}(h:∀R:ϑ->Hp->Prop,R v H->c σ H R)(k:if v=true then a D σ H else b D σ H):bB c a b D σ H:=h _ k
def oI:ύ Int->V
 |none=>.non
 |some m=>.int m
structure BtG(h wd:Nat)(mo:ύ Int)(ks:ϊ (Int×Int)):Prop where
 n:ks.Nodup
 o:∀s∈ks,Mm.On h wd s
 l:↑ks<=60
 m:∀m,mo=!m->ks=[]\/(↑ks:Int)<=m
abbrev Bt:=ό×ϊ (Int×Int)×(Int×Int->Nat)
def vo(H:Hp)(b:Bt):Prop:=H b.1=!(.dT (tabS b.2.1 λs=>V.int (b.2.2 s:Nat)))
def xP(b:Bt):ϊ (Int×Int):=b.2.1.filter λs=>decide (b.2.2 s=1)
structure BtI(H:Hp)(h wd:Nat)(mo:ύ Int)(b:Bt)(u:Nat):Prop where
 d:vo H b
 n:b.2.1.Nodup
 o:∀s∈b.2.1,Mm.On h wd s
 l:↑b.2.1<=u
 z:∀s,s∉b.2.1->b.2.2 s=0
 b:∀s,b.2.2 s<=1
 m:∀m,mo=!m->u=0\/(u:Int)<=m
theorem BtI.same{h a u:Nat}{b:Bt}(g:BtI H h a mo b u)(e:H' b.1=H b.1):BtI H' h a mo b u:=#[by unfold vo;rw[e];show g.d,g.n,g.o,g.l,g.z,g.b,g.m]
inductive sp_f16(K:Ϗ)(vs:ϊ V)(H:Hp)(Q:VK)(E:XK):Prop
 |mk (e:ό) (g:ϊ Int) (n d c:Nat) (f:ύ Int) (h:vs=[.ref e,.int n,.int d,.int c,oI f]) (i:SqL K H e (g.map V.int)) (j:↑g<=60) (k:(1<=n/\n<=100)) (l:(1<=d/\d<=1000)) (m:(1<=c/\c<=60)) (o:∀r H' (a:ϊ Bt),Same H H'->H' r=!(.lst (a.map λb:Bt=>V.ref b.1))->↑a=n->(a.map (·.1)).Nodup->(∀b∈a,H b.1=none/\vo H' b/\BtG c d f b.2.1)->Q (.ref r) H')
abbrev Mz K:=(aA (aK (aL bJ (aL bJ (aL gw (aL (cu K) aQ oN) (tI 48271)) (tI 2147483647)) cC) (ak 10))
  (aA (aK (aL bQ (aL (cu K) j6 mD) (tI 1)) (Cj j6 mD nH))
  (jb (aL (cu K) fY mD) (cU (cA NQ xj)) (aL pR (tI 1) (G4 (aL (cu K) fY mD) (cU (cA NQ xj)) (tI 0))))))
abbrev MF K:=(aA (cD (eZ (cj (dZ K aQ))) (ak 7) (aA (aK (aL bJ oN bc) (ak 8))
  (bB (Es (aN (aL lW cX (tC V.non))) (aN (aL rB (aL (cu K) j6 mD) cX))) (aA (aK (aL bJ (aL bJ (aL gw (aL (cu K) aQ oN) (tI 40692)) (tI 2147483399)) bR) (ak 9))
  (Mz K)) aV)))
  (aP fY))
abbrev MJ K(E:XK)(Eh:XK):=(aA (aK (jr [none] (eZ (cj bc)) (ak 0) cZ u9) (ak 5))
  (aA (aK (jr [none] (eZ (cj bc)) (ak 0) cZ (tI 0)) (ak 6))
  (MF K)))
abbrev vf:ϊ ϐ:=sN ["cells","many","wide","height","most","blots","used","k","at","x","y"]
theorem X6(h:sp_f16 K vs H Q E):RG (MJ K E) vf vs H Q:=by
 let#[ce,ns,n,wd,ht,mo,rfl,hC,bg,#[bd,be],#[a3,bk],#[ay,a9],q]:=h;show#[E0,?_];symm;walk_at "ns";have aw:∀{l:Hp}{p:ό}{o:HO},Same H l->H p=none->Same H (upd l p o):=λs h b o e=>by
  rw[ao λz=>by rw[z,h]at e;cases e];show s b o e
 show yS n (Ð _) () () (λk ys l=>(An2 (Same H l) (Ex1 λ(r:ϊ Bt)=>(An4 (ys=r.map (λb:Bt=>V.ref b.1)) (↑r=k) ((r.map (·.1)).Nodup) (∀b∈r,H b.1=none/\b.2=([],λ_=>0)/\l b.1=!(.dT [])))))) #[Same.refl _,[],rfl,rfl,by simp,by simp] ?_ ?_ ?_
 .rintro k ys l ⟨_,r,rfl,h,_⟩;rw[Qb];show Ě h
 .rintro k ys l hk ⟨s',r,rfl,hl,a1,F⟩;symm;intro d L;show#[s'.new L,r++[(d,[],λ_=>0)],by rw[Wp];rfl,by rw[Â,hl];rfl,?_,λb mb=>?_]
  .rw [Wp,â];show#[a1,by simp,λx mx y my e=>?_];let#[b,mb,rfl]:=Zl.mp mx;have:=(F b mb).2.2;rw[e,show y=d by simpa using my,L]at this
   cases this
  .rcases Å.mp mb with mb|mb
   .show #[(F b mb).1,(F b mb).2.1,az L (F b mb).2.2]
   .rw [Zs.mp mb];show#[s'.free L,rfl,aa]
 rintro ys H1 ⟨s1,A,rfl,a7,ai,F⟩ J D;replace F:∀b∈A,H b.1=none/\b.2=([],λ_=>0)/\upd H1 J (.lst (A.map λb:Bt=>V.ref b.1)) b.1=!(.dT []):=λb mb=>#[(F b mb).1,(F b mb).2.1,az D (F b mb).2.2]
 have T:upd H1 J (.lst (A.map λb:Bt=>V.ref b.1)) J=!(.lst (A.map λb:Bt=>V.ref b.1)):=aa;have a6:=s1.free D;replace s1:=s1.new (o:=.lst (A.map λb:Bt=>V.ref b.1)) D;generalize upd H1 J (.lst (A.map λb:Bt=>V.ref b.1))=H1 at F T s1⊢;clear D;apply yS n (Ð _) () () (λk ys l=>(An2 (l=H1) (ys=nv (List.replicate k 0)))) #[rfl,rfl] ?_ ?_ ?_
 .rintro k ys l ⟨_,rfl⟩;unfold nv;rw[Qb,ç];show Ä _
 .rintro k ys _ hk ⟨rfl,rfl⟩;apply#[rfl,?_];unfold nv;rw[š,Wp];rfl
 rintro _ _ ⟨rfl,rfl⟩ I G;rename_i H1;have am:=s1.free G;have a5:J≠I:=λz=>by rw[z,G]at T;cases T
 apply cg ((s1.new G).seq hC) ?_;symm;walk_at "ns";show nP ↑ns (by rw[Qb];show Ð _) () () (λi σ l=>(An2 (Same H l) (Ex6 λ(r:ϊ Bt) (B:ϊ Nat) (o7 o8 o9 af:ύ V)=>(An7 (l J=!(.lst (r.map λb:Bt=>V.ref b.1))) (l I=!(.lst (nv B))) (r.map (·.1)=A.map (·.1)) (↑B=n) (∀u∈B,u<=i) (∀(j:Nat) b u,r[j]?=!b->B[j]?=!u->BtI l ht wd mo b u) (σ=[!(.ref ce),!(.int (n:Nat)),!(.int (wd:Nat)),!(.int (ht:Nat)),!(oI mo),!(.ref J),!(.ref I),o7,o8,o9,af]))))) #[s1.new G,A,List.replicate n 0,_,_,_,_,az G T,aa,rfl,ç,λu mu=>by rw[(List.mem_replicate.mp mu).2];show Ä _,λj b u ac hu=>?_,rfl] ?_ ?_
 .obtain ⟨_,e2,e3⟩:=F b (Yf ac);have eu:u=0:=(List.mem_replicate.mp (Yf hu)).2;let#[b1,b2]:=b
  cases e2;show#[az G e3,Ÿ,λs ms=>absurd ms Þ,à _,λ_ _=>rfl,λ_=>à _,λ_ _=>.inl eu]
 .rintro i σ l hi ⟨s',r,B,o7,o8,o9,af,e5,e6,S,ae,O,hI,rfl⟩;have Z:↑r=n:=by have:=Ý List.length S;rw[Qb,Qb]at this;rfl'
  let#[j,ej,hj]:=Mm.eQ (i:Int) n ();let#[b,M]:∃b,r[j]?=!b:=#[_,Qr ()];let#[u,ad]:∃u,B[j]?=!u:=#[_,Qr ()];have U:=hI j b u M ad;have hu:=O u (Yf ad);have as:∀{Q:VK},Q (.int (u:Nat)) l->cu K (.ref I) (.int (j:Nat)) l Q:=λh=>qt (f:=λi:Nat=>V.int (i:Int)) e6 ad h
  let#[x,hx]:∃x,ns[i]?=!x:=#[_,Qr hi];show oJ ?_;with_reducible show Ht ?_
  show Hu (by rfl) ?_;show Hu (by rfl) ?_;show V4 () ej ?_;show oJ ?_;walk_at "ns";show Zr (v:=mo.all λm=>decide ((u:Int)<m)) (λR hR=>?_) ?_
  .cases mo with
   |none=>
    apply jX rfl ?_;show hR
   |some m=>
    apply jB (λz=>by cases z) ?_;apply as ?_;symm;change rB _ (.int m) _ _;apply hR
  have a2:∀x∈B.set j (u+1),x<=i+1:=λx mx=>by
   rcases Ĳ mx with mx|rfl
   .show Š (O x mx)
   .rfl'
  cases hgo:mo.all λm=>decide ((u:Int)<m)with
  |false=>
   apply#[s',r,B,_,_,_,_,e5,e6,S,ae,λx mx=>Š (O x mx),hI,rfl]
  |true=>
   have mb:=Yf M;have ax:H b.1=none:=by
    have:b.1∈A.map (·.1):=by rw[<-S];show Zl.mpr #[b,mb,rfl]
    let#[c,mc,e]:=Zl.mp this;rw[<-e];show(F c mc).1
   let#[X,eX,hX]:=Mm.eQ (x*40692%2147483399) wd a3;let#[Y,eY,hY]:=Mm.eQ (x*48271%2147483647) ht ay;have ar:∀{Q:VK},Q (.int x) l->cu K (.ref ce) (.int (i:Nat)) l Q:=λh=>dF (s'.seq hC) (aM (j:=i) (v:=.int x) (by rw[Jn,hx];rfl)) h
   have ap:∀{Q:VK}{H2:Hp},H2 J=!(.lst (r.map λb:Bt=>V.ref b.1))->Q (.ref b.1) H2->cu K (.ref J) (.int (j:Nat)) H2 Q:=λe h=>qt (f:=λb:Bt=>V.ref b.1) e M h
   apply ar ?_;symm;rw[eX];show ar ?_;symm;rw[eY];show as ?_;symm;have L:=U.d;have av:b.1≠I:=λz=>by unfold vo at L;rw[z,e6]at L;cases L
   have a4:J≠b.1:=λz=>by unfold vo at L;rw[<-z,e5]at L;cases L
   show uH j e6 rfl (by rw[Qb];rfl') ?_;have ah:upd l I (.lst ((nv B).set j (.int ((u:Nat)+1)))) I=!(.lst (nv (B.set j (u+1)))):=by rw[aa];unfold nv;rw[List.map_set];rfl
   have P:upd l I (.lst ((nv B).set j (.int ((u:Nat)+1)))) J=!(.lst (r.map λb:Bt=>V.ref b.1)):=by rw[ao a5];show e5
   have ag:∀b',b'≠I->upd l I (.lst ((nv B).set j (.int ((u:Nat)+1)))) b'=l b':=λb' n=>ao n
   have s2:Same H (upd l I (.lst ((nv B).set j (.int ((u:Nat)+1))))):=aw s' am;generalize upd l I (.lst ((nv B).set j (.int ((u:Nat)+1))))=H2 at ah P ag s2⊢;have ed:H2 b.1=!(.dT (tabS b.2.1 λs=>V.int (b.2.2 s:Nat))):=by rw[ag _ av];show L
   apply ap P ?_;apply#[b.1,rfl,.inr #[_,.inl ed],?_];symm;intro p1 C;apply#[_,DGet.t (k:=jg ((X:Int),(Y:Int))) (az C ed) aa,?_];have ev:(bx (tabS b.2.1 λs=>V.int (b.2.2 s:Nat)) (jg ((X:Int),(Y:Int)))).getD (V.int 0)=V.int (b.2.2 ((X:Int),(Y:Int)):Nat):=by
    rw[oM];by_cases m:((X:Int),(Y:Int))∈b.2.1
    .rw [if_pos m];rfl
    .rw [if_neg m,U.z _ m];rfl
   rw[ev];apply ap (az C P) ?_;symm;intro p2 N;have bb:=U.l;show#[b.1,_,rfl,DPut.t (k:=jg ((X:Int),(Y:Int))) (az N (az C ed)) aa (Õ (show↑(tabS b.2.1 _)<=1000000 by unfold tabS;rw[Qb];rfl') (by decide)),?_];let#[s,es]:∃s:Int×Int,s=((X:Int),(Y:Int)):=#[_,rfl];rw[<-es];have a8:=U.b s;rw[show V.int (1-((b.2.2 s:Nat):Int))=V.int (((λt=>if t=s then 1-b.2.2 s else b.2.2 t) s:Nat):Int)by change _=V.int ((if s=s then _ else _:Nat):Int);rw[if_pos rfl];congr 1;rfl'];rw[Ql b.2.1 _ (λt=>V.int ((if t=s then 1-b.2.2 s else b.2.2 t:Nat):Int)) s (λt ht=>by rw[if_neg ht])];symm;have W:∀{β:Type}(f:ό->β)(w:ϊ (Int×Int)×(Int×Int->Nat)),(r.set j (b.1,w)).map (λb:Bt=>f b.1)=r.map λb:Bt=>f b.1:=λf w=>by
    rw[List.map_set];show List.ext_getElem? λk=>?_
    rw[ŝ];split
    .next h=>subst h;rw[if_pos (by rw[Qb];rfl'),Jn,M];rfl
    .rfl
   show#[aw ((s2.new C).new N) ax,r.set j (b.1,if s∈b.2.1 then b.2.1 else b.2.1++[s],λt=>if t=s then 1-b.2.2 s else b.2.2 t),B.set j (u+1),_,_,_,_,by rw[ao a4,W V.ref];show az N (az C P),by rw[ao av.symm];show az N (az C ah),(W (λa=>a) _).trans S,by rw[Η];show ae,a2,λk c v hc hv=>?_,rfl];rw[ŝ]at hc hv;by_cases ab:j=k
   .rw [if_pos ab,if_pos ()]at hc hv
    cases hc
    cases hv;show#[aa,?_,?_,?_,?_,?_,λm em=>.inr ?_]
    .dsimp only;by_cases m:s∈b.2.1
     .rw [if_pos m];show U.n
     .rw [if_neg m];show â.mpr #[U.n,by simp,λa ha b' ac e'=>?_];rw[Zs.mp ac]at e';show m (e'▸ha)
    .intro t mt;have:t∈b.2.1\/t=s:=by
      dsimp only at mt;split at mt
      .show .inl mt
      .rcases Å.mp mt with m|m
       .show .inl m
       .show .inr (Zs.mp m)
     rcases this with m|rfl
     .show U.o t m
     .rw [es];show#[by change(0:Int)<=X;rfl',by change(X:Int)<wd;rfl',by change(0:Int)<=Y;rfl',by change(Y:Int)<ht;rfl']
    .dsimp only;split
     .rfl'
     .rw [Â,Ú];rfl'
    .intro t nt;dsimp only at nt⊢;have h1:t∉b.2.1/\t≠s:=by
      by_cases m:s∈b.2.1
      .rw [if_pos m]at nt;show#[nt,λz=>nt (by rw[z];show m)]
      .rw [if_neg m]at nt;show#[λz=>nt (á _ z),λz=>nt (by rw[z];simp)]
     rw[if_neg h1.2];show U.z t h1.1
    .intro t;dsimp only;split
     .rfl'
     .show U.b t
    .rw [em]at hgo;have:=æ hgo;rfl'
   .rw [if_neg ab]at hc hv;have g:=hI k c v hc hv;have gd:=g.d;unfold vo at gd;have n1:c.1≠I:=λz=>by rw[z,e6]at gd;cases gd
    have n2:c.1≠b.1:=λz=>by
     have nd:(r.map (·.1)).Nodup:=by rw[S];show ai
     have hk:=(À.mp hc);have al:=(À.mp M);have e1:(r.map (·.1))[j]'(by rw[Qb];show al.1)=(r.map (·.1))[k]'(by rw[Qb];show hk.1):=by rw[õ,õ,al.2,hk.2];show z.symm
     rcases Nat.lt_or_gt_of_ne ab with w|w
     .show ı.mp nd j k _ _ w e1
     .show ı.mp nd k j _ _ w e1.symm
    show g.same ((?_:_=!_).trans gd.symm);rw[ao n2];show az N (az C (by rw[ag _ n1];show gd))
 .rintro σ l ⟨s',r,B,o7,o8,o9,af,e5,e6,S,ae,O,hI,rfl⟩;have Z:↑r=n:=by have:=Ý List.length S;rw[Qb,Qb]at this;rfl'
  apply q J l r s' e5 Z (by rw[S];show ai) λb mb=>?_
  let#[j,hj]:=ü.mp mb;let#[u,hu]:∃u,B[j]?=!u:=#[_,Qr (by have:=(À.mp hj).1;rfl')];have g:=hI j b u hj hu;have bi:=O u (Yf hu);show#[?_,g.d,g.n,g.o,Î g.l (),λm em=>?_]
  .have:b.1∈A.map (·.1):=by rw[<-S];show Zl.mpr #[b,mb,rfl]
   let#[c,mc,e]:=Zl.mp this;rw[<-e];show(F c mc).1
  .have:=g.l;rcases g.m m em with e|e
   .show .inl (ħ.mp ())
   .show .inr ()
inductive sp_f5(K:Ϗ)(vs:ϊ V)(H:Hp)(Q:VK)(E:XK):Prop
 |mk (p:ό) (a:ϊ Nat) (b:Bt) (c:Nat) (d:vs=[.ref p,.ref b.1]) (e:SqL K H p (nv a)) (f:vo H b) (g:(∀s∈b.2.1,Mm.On c ↑a s)) (h:↑a<=1000) (i:c<=60) (j:∀t r H',H r=none->Sb [b.1] H H'->H' t=!(.tup [.ref r,.int (↑(xP b):Nat)])->H' r=!(.lst (nv (Mm.dR a (xP b))))->Q (.ref t) H')
abbrev QW K:=(aA (aK (tI 0) (ak 3))
  (aA (cD (Rh bc) (ak 4) (bB (aN (aL pB (gm bc cX) (tI 1))) (aA (aK (aL Rf (aL (cu K) bR (tX K cX 0)) (aL Gg (tI 1) (tX K cX 1))) (Cj bR (tX K cX 0) nH))
  (aK (aL bQ cC (tI 1)) (ak 3))) aV))
  (aP (cU (cA bR cC)))))
abbrev S8 K(E:XK)(Eh:XK):=(aA (aK (gW (gK K) (cj aQ)) (ak 2))
  (QW K))
abbrev S9:ϊ ϐ:=sN ["strip","blots","found","far","spot"]
theorem Zt(h:sp_f5 K vs H Q E):RG (S8 K E) S9 vs H Q:=by
 let#[p,D,b,O,rfl,hP,I,N,g,Z,q]:=h;show#[E0,?_];unfold vo at I;apply wX hP λr A=>?_
 symm;have B:b.1≠r:=aU I A;have J:upd H r (.lst (nv D)) b.1=!(.dT (tabS b.2.1 λs=>V.int (b.2.2 s:Nat))):=az A I;show YK J (λu i F f=>(An4 (f b.1=!(.frz u (.dT (tabS b.2.1 λs=>V.int (b.2.2 s:Nat))))) (∀c o,c≠b.1->H c=!o->f c=!o) (f r=!(.lst (nv (Mm.dR D ((b.2.1.take i).filter λs=>decide (b.2.2 s=1)))))) (Ex1 λo=>F=[!(.ref p),!(.ref b.1),!(.ref r),!(.int (↑((b.2.1.take i).filter λs=>decide (b.2.2 s=1)):Nat)),o]))) ?_ ?_ ?_ ?_
 .intro u;show#[aa,λc o X Y=>by rw[ao X];show az A Y,by rw[ao B.symm];show aa,none,rfl]
 .rintro u i F f ⟨w,_⟩;show w
 .rintro u i k v a F f M S ⟨w,l,m,o,rfl⟩;unfold tabS at M;rw[Jn]at M;let#[s,P,W]:=Ï.mp M
  cases W;have y:=Yf P;let#[T,c2,c3,c4]:=N s y;have G:(b.2.1.take (i+1)).filter (λs=>decide (b.2.2 s=1))=(b.2.1.take i).filter (λs=>decide (b.2.2 s=1))++[s].filter (λs=>decide (b.2.2 s=1)):=by rw[Í,P,List.filter_append];rfl
  have x:↑(Mm.dR D ((b.2.1.take i).filter λs=>decide (b.2.2 s=1)))=↑D:=Mm.il _ _;generalize hT:Mm.dR D ((b.2.1.take i).filter λs=>decide (b.2.2 s=1))=ts at m x;have U:DGet f b.1 (.ref a) !(V.int (b.2.2 s:Nat)):=by
   have:=oM b.2.1 (λs=>V.int (b.2.2 s:Nat)) s;rw[if_pos y]at this;show .inr #[_,jg s,a,.inr #[u,w],rfl,S,this.symm]
  have C:f a=!(.tup [.int s.1,.int s.2]):=S;have R:∀{Q:VK},Q (.int s.1) f->fO K (.ref a) (.int 0) f Q:=λh=>cV (SqT.of C) (aM (j:=0) (v:=.int s.1) rfl) h
  have j1:∀{Q:VK},Q (.int s.2) f->fO K (.ref a) (.int 1) f Q:=λh=>cV (SqT.of C) (aM (j:=1) (v:=.int s.2) rfl) h
  have g:s.1.toNat<↑ts:=()
  have L:ts.getD s.1.toNat 0=ts[s.1.toNat]:=by rw[Xs,Qr g];rfl
  apply#[b.1,_,rfl,U,?_];apply dw (λc=>?_) λc=>?_
  .replace c:b.2.2 s=1:=()
   apply R ?_;apply dF (SqL.of m) (uF T (show s.1.toNat<↑(nv ts)by unfold nv;rw[Qb];show g)) ?_;rw[show(nv ts)[s.1.toNat]'(by unfold nv;rw[Qb];show g)=V.int ((ts[s.1.toNat]:Nat):Int)from õ ..];apply j1 ?_;symm;rw[Int.one_mul,<-Bx.pP,Bx.pO];show R ?_;apply uH s.1.toNat m () (by unfold nv;rw[Qb];show g) ?_;symm;rw[G,List.filter_cons_of_pos (by simpa using c),List.filter_nil];show#[by rw[ao B];show w,λd o n e=>?_,?_,!(.ref a),by rw[Â];rfl]
   .rw [ao λz=>by rw[z,A]at e;cases e];show l d o n e
   .rw [aa,Mm.yN,hT];unfold nv Mm.jc;rw[List.map_set,L]
  .symm;show#[w,l,?_,!(.ref a),?_]
   .rw [G,List.filter_cons_of_neg (by simpa usingλz=>c (by rw[z];rfl)),List.filter_nil,ô,hT];show m
   .rw [G,List.filter_cons_of_neg (by simpa usingλz=>c (by rw[z];rfl)),List.filter_nil,ô];rfl
 rintro u F f ⟨w,l,m,o,rfl⟩;unfold tabS at m;rw[Qb,Ö]at m;symm;intro t O;show q t r _ A (λc o' n e=>az O (l c o' (λz=>n (by rw[z];show É)) e)) ?_ (az O m);rw[aa];unfold tabS xP;rw[Qb,Ö]
inductive sp_f33(K:Ϗ)(vs:ϊ V)(H:Hp)(Q:VK)(E:XK):Prop
 |mk (t:ό) (e d:ϊ Nat) (g n a:Nat) (b:ύ Int) (f:vs=[.ref t,.str (tx d),.int a,oI b]) (h:H t=!(.tup [.str (tx e),.int g,.int n])) (i:(∀c∈d,c<1114112)) (j:(∀m,b=!m->m<0->g=0/\1<=n)) (k:((∀m,b=!m->0<=m)->e=d/\g=a/\n=1)) (l:∀H',Same H H'->Q (.bl true) H')
abbrev MK K:=(aA (bB (Es (lE (jw K (bN (sp_f25 K) (cj (tX K aQ 1))))) (lE (jw K (bN (sp_f25 K) (cj (tX K aQ 2)))))) (aP (tC (V.bl false))) aV)
  (aA (bB (qU (aN (aL mO cC (tC V.non))) (aN (aL rB cC (tI 0)))) (aP (lG (aL pB (tX K aQ 1) (tI 0)) (aL a0y (tX K aQ 2) (tI 1)))) aV)
  (aP (aL (rEqD K) aQ (cU (lg bc bR (tI 1)))))))
abbrev MN K(E:XK)(Eh:XK):=(aA (bB (Es (lE (jw K (gW (fU K) (cA aQ (tC (V.ty "tuple")))))) (Es (aN (aL xV (dZ K aQ) (tI 3))) (lE (jw K (gW (fU K) (cA (tX K aQ 0) (tC (V.ty "str")))))))) (aP (tC (V.bl false))) aV)
  (MK K))
abbrev MP:ϊ ϐ:=sN ["told","row","far","most"]
theorem X7(h:sp_f33 K vs H Q E):RG (MN K E) MP vs H Q:=by
 let#[t,r,v,g,n,k,p,rfl,a,l,i,j,q]:=h;show#[E0,?_];apply fG (.tup a) (b:=true) rfl ?_;apply cN (SqT.of a) ?_;apply gC rfl ?_;apply fH a ?_;apply fG (.str _) (b:=true) rfl ?_;apply dh a ?_;apply#[_,rfl,?_];apply jD a ?_;apply#[_,rfl,?_];symm;have fin:(∀m,p=!m->0<=m)->∀u,H u=none->rEqD K (.ref t) (.ref u) (upd H u (.tup [.str (tx v),.int (k:Nat),.int 1])) Q:=λs u f=>by
  let#[rfl,rfl,rfl]:=j s;show rEqD.same (d:=.tuple [.str (tx r),.int (g:Nat),.int 1]) (n:=1) (.tup (SqT.of (az f a)) (.cons (.str _) (.cons (.int _) (.cons (.int _) .nil)))) (.tup (SqT.of aa) (.cons (.str _) (.cons (.int _) (.cons (.int _) .nil)))) (gU λd o=>?_) (by decide) (q _ (aq f _));simp only[Ç,Þ,ć]at o;rcases o with rfl|rfl|rfl
  .show yW 0 l
  .show dU 0 _
  .show dU 0 _
 cases p with
 |none=>
  apply gC rfl ?_;symm;intro u f;apply fin (λm e=>by cases e) u f
 |some m=>
  apply Hr (λz=>by cases z) ?_;symm;change rB (.int m) _ _ _;apply dw (λc=>?_) λc=>?_
  .obtain ⟨rfl,w⟩:=i m rfl c;apply dh a ?_;apply jX rfl ?_;apply jD a ?_;symm;rw[Ù (show(1:Int)<=(n:Int)by rfl')];show q _ (Same.refl _)
  .symm;intro u f;apply fin (λx e=>by cases e;rfl') u f
theorem xK(a b:ϊ Nat):cst a b=cst b a:=by
 unfold cst;rw[Mm.ik,Nat.min_comm]
theorem Ca(a:ϊ Nat):cst [] a=0:=by
 unfold cst;simp[Mm.aY]
inductive Pt(wss:ϊ (ϊ gD))(rs:ϊ Int):Sd->Nat->Prop
 |fork {z:gD×gD×Int}:z∈nZ wss rs->Pt wss rs (mC z) (rG z)
 |step {x:Sd} {c:Nat} {w:gD}:Pt wss rs x c->w∈wss.getD x.1.toNat []->Pt wss rs (nQ w x.2.1 x.2.2) (c+cst x.2.2 w.2.1)
theorem Pt.rch{N:Nat}(h:Pt a (cF a N) x c):Mm.Rch (Je a N) (NT a) x:=by
 induction h with
 |fork m=>show .base (Zl.mpr #[_,m,rfl])
 |step _ mw ih=>show .step ih (Zl.mpr #[_,mw,rfl])
theorem Pt.low{N:Nat}(j:∀x,x∈S↔Mm.Rch (Je a N) (NT a) x)(i:Dj (QD g S) (Jk (Rz ls a) S) F (λ_ _=>False))(h:Pt a (cF a N) x c):∀k,F x k->∃z∈nZ a (cF a N),∃b,F (mC z) b/\rG z+b.1<=c+k.1:=by
 induction h with
 |fork m=>showλk d=>#[_,m,k,d,Ä _]
 |@step x c w hx mw ih=>
  intro k d;let#[u,n,f]:=(i.b (cst x.2.2 w.2.1) x (nQ w x.2.1 x.2.2) k #[(j x).mpr hx.rch,w.1,Zl.mpr #[w,mw,rfl]] d).resolve_right id;let#[z,o,b,e,l]:=ih u n;show#[z,o,b,e,?_];have:u.1<=k.1+cst x.2.2 w.2.1:=by unfold leP at f;dsimp only at f;rfl'
  rfl'
theorem X8{v w:gD}:nQ v w.2.2 w.2.1=nQ w v.2.2 v.2.1\/((nQ v w.2.2 w.2.1)=(v.2.2,w.2.2,[])/\nQ w v.2.2 v.2.1=(w.2.2,v.2.2,[])):=by
 unfold nQ;rcases ŷ ↑v.2.1 ↑w.2.1 with h|h|h
 .rw [if_pos (ï h),if_neg (Nat.not_le.mpr h)];show .inl rfl
 .right;rw[if_pos (Ě h),if_pos (Ě h.symm),Į (Ě h.symm),Į (Ě h)];show#[rfl,rfl]
 .rw [if_neg (Nat.not_le.mpr h),if_pos (ï h)];show .inl rfl
def MS(wss:ϊ (ϊ gD))(rs:ϊ Int)(x:Sd)(c:Nat):Prop:=Pt wss rs x c\/(x.2.2=[]/\Pt wss rs (x.2.1,x.1,[]) c)\/∃(r1:Int)(w:gD),w∈wss.getD r1.toNat []/\x.2.1=w.2.2/\x.2.2=w.2.1/\Pt wss rs (x.1,r1,[]) c
theorem MS.sw{v w:gD}(h:Pt a rs (nQ w v.2.2 v.2.1) c):MS a rs (nQ v w.2.2 w.2.1) c:=by
 rcases X8 (v:=v) (w:=w)with e|⟨e1,e2⟩
 .show .inl (e▸h)
 .rw [e2]at h;rw[e1];show .inr (.inl #[rfl,h])
theorem MS.step{a:ϊ (ϊ gD)}(m:∀k∈a,∀w∈k,1<=↑w.2.1){v:gD}(h:MS a rs x c)(g:v∈a.getD x.1.toNat []):MS a rs (nQ v x.2.1 x.2.2) (c+cst x.2.2 v.2.1):=by
 have d:∀{r:Nat}{w:gD},w∈a.getD r []->1<=↑w.2.1:=λ{r w} b=>by
  rw[Xs]at b
  cases e:a[r]?with
  |none=>rw[e]at b;cases b
  |some k=>rw[e]at b;show m k (Yf e) w b
 have f:∀{w:gD}{i:Int}{r:Nat},w∈a.getD r []->nQ w i []=(i,w.2.2,w.2.1):=λ{w i r} b=>by
  unfold nQ;rw[if_neg (by have:=d b;simp;intro e;rw[e]at this;simp at this)];rfl
 rcases h with h|⟨e,h⟩|⟨r1,w,b,e1,e2,h⟩
 .show .inl (h.step g)
 .rw [e,f g,Ca];show .inr (.inr #[x.1,v,g,rfl,rfl,h])
 .have j:=h.step (w:=v) g;dsimp only at j;rw[f g,Ca]at j;have l:=j.step (w:=w) b;dsimp only at l;rw[e1,e2,xK];show MS.sw l
theorem MS.even(j:∀d∈a,∀w∈d,1<=↑w.2.1){b:ϊ Int}(h:MS a rs x c)(f:x.2.2=[])(g:x.1∈b)(i:x.2.1∈b):∃y,Pt a rs y c/\nR b y=true:=by
 rcases h with h|⟨_,h⟩|⟨r1,w,mw,_,e,_⟩
 .show #[_,h,by unfold nR;rw[f];simp[g,i]]
 .show #[_,h,by unfold nR;simp[g,i]]
 .rw [Xs]at mw
  cases e':a[r1.toNat]?with
  |none=>rw[e']at mw;cases mw
  |some d=>
   rw[e']at mw;have:=j d (Yf e') w mw;rw[<-e,f]at this;simp at this
theorem MS.two(k:r∈rs){v w:gD}(l:v∈a.getD r.toNat [])(m:w∈a.getD r.toNat [])(n:v≠w):MS a rs (nQ v w.2.2 w.2.1) (cst w.2.1 v.2.1):=by
 let#[i,c]:=ü.mp l;let#[j,b]:=ü.mp m;have f:(a.getD r.toNat []).getD i default=v:=by rw[Xs,c];rfl
 have g:(a.getD r.toNat []).getD j default=w:=by rw[Xs,b];rfl
 have d:=(À.mp c).1;have e:=(À.mp b).1;rcases ŷ i j with h|h|h
 .show .inl (Pt.fork (z:=(v,w,r)) (ó.mpr #[r,k,ó.mpr #[j,ñ.mpr e,Zl.mpr #[i,ñ.mpr h,?_]]]));rw[f,g]
 .subst h;rw[c]at b;show absurd (ß b) n
 .rw [xK];show MS.sw (Pt.fork (z:=(w,v,r)) (ó.mpr #[r,k,ó.mpr #[i,ñ.mpr d,Zl.mpr #[j,ñ.mpr h,?_]]]));rw[f,g]
section
theorem nu{r:Nat}{w:gD}(a:r<↑ds)(b:Hs.dr (ds.getD r []) w.1=!w.2.2)(c:Fo.lk ls w.1=!w.2.1):w∈(ds.map (aG ls)).getD r []:=by
 rw[uU a];have m:=Hs.kZ b;rw[Xs,Qr a]at m;show ì.mpr #[_,m,by rw[c];rfl]
theorem MT(F:∀L∈ds.map (aG ls),∀w∈L,1<=↑w.2.1):∀(n:Nat){a b:ϊ gD}{i k l o c:Nat}{y:ϊ Nat},↑a+↑b<=n->Gw ls ds i a l->Gw ls ds k b o->MS (ds.map (aG ls)) rs ((i:Int),(k:Int),y) c->↑(bW a)=↑y+↑(bW b)->(l:Int)∈es->(o:Int)∈es->∃z,Pt (ds.map (aG ls)) rs z (c+Mm.aY (bW a) (y++bW b))/\nR es z=true:=λn=>by
 have A:∀{q:ϊ gD}{r R:Nat},Gw ls ds r q R->↑(bW q)=0->q=[]:=λ{q r R} h e=>by
  cases q with
  |nil=>rfl
  |cons w q=>
   let#[u,C,D,_]:=h;have m:=nu u C D;rw[Xs,Jn,Qr u]at m;have:=F _ (Zl.mpr #[_,Ó u,rfl]) w m;rw[show bW (w::q)=w.2.1++bW q from rfl,Â]at e;rfl'
 induction n with
 |zero=>
  intro a b i k l o c y I g j x f p s;rw[ħ.mp (show↑a=0 by rfl')]at g f⊢;rw[ħ.mp (show↑b=0 by rfl')]at j f⊢;have J:y=[]:=ħ.mp (by rw[show↑(bW ([]:ϊ gD))=0 from rfl]at f;show f.symm);rw[J]at x⊢;rw[show l=i from (show i=l from g).symm]at p;rw[show o=k from (show k=o from j).symm]at s;show x.even F rfl p s
 |succ n ih=>
  intro a b i k l o c y I g j x f p s
  cases a with
  |nil=>
   rw[show↑(bW ([]:ϊ gD))=0 from rfl]at f;have e:=A j ();subst e;show ih (by simp) g j x (by rw[show↑(bW ([]:ϊ gD))=0 from rfl]at f⊢;show f) p s
  |cons v a=>
   let#[u,C,D,K,g]:=g;have t:=x.step F (v:=v) (by rw[show((i:Int),(k:Int),y).1.toNat=i from Ð _];show nu u C D);dsimp only at t;have H:((v.2.2.toNat:Nat):Int)=v.2.2:=į K;rw[show bW (v::a)=v.2.1++bW a from rfl,Â]at f;rw[show bW (v::a)=v.2.1++bW a from rfl];rw[í]at I;unfold nQ cst at t;by_cases d:↑v.2.1<=↑y
   .rw [if_pos d,<-H,ŕ d,Ö]at t;let#[z,G,E]:=ih () g j t (by rw[î];rfl') p s;show#[z,?_,E];have B:Mm.aY (v.2.1++bW a) (y++bW b)=Mm.aY v.2.1 (y.take ↑v.2.1)+Mm.aY (bW a) (y.drop ↑v.2.1++bW b):=by
     conv=>lhs;rw[<-Ē ↑v.2.1 y,ð]
     show Mm.fc (by rw[Ô];rfl')
    rw[B,<-Ľ];show G
   .rw [if_neg d,<-H,Ŋ (ï (qnT d)),Ö]at t;let#[z,G,E]:=ih () j g t (by rw[î];rfl') s p;show#[z,?_,E];have B:Mm.aY (v.2.1++bW a) (y++bW b)=Mm.aY (v.2.1.take ↑y) y+Mm.aY (bW b) (v.2.1.drop ↑y++bW a):=by
     conv=>lhs;rw[<-Ē ↑y v.2.1,ð]
     rw[Mm.fc (by rw[Ô];rfl'),Mm.ik (v.2.1.drop ↑y++bW a)]
    rw[B,<-Ľ];show G
theorem N5(h:∀s∈ds.map (aG ls),∀w∈s,1<=↑w.2.1)(b:∀r∈rs,∀w∈(ds.map (aG ls)).getD r.toNat [],w.2.2∈rs):∀{p q:ϊ gD}{r R a:Nat},(r:Int)∈rs->Gw ls ds r p R->Gw ls ds r q a->p≠q->↑(bW p)=↑(bW q)->(R:Int)∈es->(a:Int)∈es->∃z,Pt (ds.map (aG ls)) rs z (Mm.aY (bW p) (bW q))/\nR es z=true
 |[],[],_,_,_,_,_,_,ne,_,_,_=>absurd rfl ne
 |[],w::q,r,R,a,mr,_,⟨h1,h2,h3,_⟩,_,e,_,_=>by
  have m:=nu h1 h2 h3;rw[Xs,Jn,Qr h1]at m;have:=h _ (Zl.mpr #[_,Ó h1,rfl]) w m;rw[show bW (w::q)=w.2.1++bW q from rfl,Â,show↑(bW ([]:ϊ gD))=0 from rfl]at e;rfl'
 |w::q,[],r,R,a,mr,⟨h1,h2,h3,_⟩,_,_,e,_,_=>by
  have m:=nu h1 h2 h3;rw[Xs,Jn,Qr h1]at m;have:=h _ (Zl.mpr #[_,Ó h1,rfl]) w m;rw[show bW (w::q)=w.2.1++bW q from rfl,Â,show↑(bW ([]:ϊ gD))=0 from rfl]at e;rfl'
 |v::p,w::q,r,R,a,mr, ⟨v1,v2,v3,v4,gp⟩, ⟨w1,w2,w3,w4,gq⟩,ne,e,e0,e1=>by
  have n:=nu v1 v2 v3;have o:=nu w1 w2 w3;have k:((v.2.2.toNat:Nat):Int)=v.2.2:=į v4;have l:((w.2.2.toNat:Nat):Int)=w.2.2:=į w4;rw[show bW (v::p)=v.2.1++bW p from rfl,show bW (w::q)=w.2.1++bW q from rfl]at e⊢;by_cases c:v=w
  .subst c;rw[Â,Â]at e;let#[z,i,f]:=N5 h b (by rw[k];show b _ mr v (by rw[Ð];show n)) gp gq (λz=>ne (by rw[z])) () e0 e1;show#[z,?_,f];rw[Mm.fc rfl,Mm.tD,Ū];show i
  .have g:=MS.two mr (v:=v) (w:=w) (by rw[Ð];show n) (by rw[Ð];show o) c;rw[Â,Â]at e;unfold nQ cst at g;by_cases d:↑v.2.1<=↑w.2.1
   .rw [if_pos d,<-k,<-l,ŕ d,Ö]at g;let#[z,i,f]:=MT h _ (Ä _) gp gq g (by rw[î];rfl') e0 e1;show#[z,?_,f];have j:Mm.aY (v.2.1++bW p) (w.2.1++bW q)=Mm.aY v.2.1 (w.2.1.take ↑v.2.1)+Mm.aY (bW p) (w.2.1.drop ↑v.2.1++bW q):=by
     conv=>lhs;rw[<-Ē ↑v.2.1 w.2.1,ð]
     show Mm.fc (by rw[Ô];rfl')
    rw[j];show i
   .rw [if_neg d,<-k,<-l,Ŋ (ï (qnT d)),Ö]at g;let#[z,i,f]:=MT h _ (Ä _) gq gp g (by rw[î];rfl') e1 e0;show#[z,?_,f];have j:Mm.aY (v.2.1++bW p) (w.2.1++bW q)=Mm.aY (v.2.1.take ↑w.2.1) w.2.1+Mm.aY (bW q) (v.2.1.drop ↑w.2.1++bW p):=by
     conv=>lhs;rw[<-Ē ↑w.2.1 v.2.1,ð]
     rw[Mm.fc (by rw[Ô];rfl'),Mm.ik (v.2.1.drop ↑w.2.1++bW p)]
    rw[j];show i
end
theorem vg{b:ϵ}:∀{p:ϳ}{r r':Nat}{w:ϴ},Gw b a r p r'->r'<↑a->Hs.dr (a.getD r' []) w.1=!w.2.2->Fo.lk b w.1=!w.2.1->0<=w.2.2->Gw b a r (p++[w]) w.2.2.toNat
 |[],_,_,_,h,h1,h2,h3,h4=>by cases h;show#[h1,h2,h3,h4,rfl]
 |_::_,_,_,_,⟨a1,a2,a3,a4,g⟩,h1,h2,h3,h4=>#[a1,a2,a3,a4,vg g h1 h2 h3 h4]
theorem qR:∀{xs ys:ϊ Nat},↑xs=↑ys->Mm.aY xs ys=((List.range ↑xs).map λx=>Bm.pop (xs.getD x 0^^^ys.getD x 0)).sum
 |[],[],_=>rfl
 |[],_::_,h=>by cases h
 |_::_,[],h=>by cases h
 |x::xs,y::ys,h=>by
  rw[í,ζ,È,Æ,ĩ,Mm.aY,qR (Ž h)];rfl
theorem Ej{h:Nat}{b:ϊ Nat}(c:h<=60)(e:↑a=↑b)(g:∀x∈a,x<2^h)(i:∀y∈b,y<2^h):↑(Mm.iW a b)=Mm.aY a b:=by
 have d:∀{n:Nat},n<2^h->n<2^60:=λ{n} f=>Ñ f (Nat.pow_le_pow_right (by decide) c)
 rw[Mm.DN (λx m=>d (g x m)) λy m=>d (i y m),qR e]
theorem N6{h:Nat}{b:ϊ Nat}(k:h<=60)(g:a.Nodup)(i:∀s∈a,Mm.On h ↑b s):↑(Mm.iW b (Mm.dR b a))=↑a:=by
 have c:∀x y:Nat,(b.getD x 0^^^(Mm.dR b a).getD x 0).testBit y=decide (((x:Int),(y:Int))∈a):=by
  intro x y;rw[Ų,Mm.tE x y a b i];have l:decide (a.count ((x:Int),(y:Int))%2=1)=decide (((x:Int),(y:Int))∈a):=by
   by_cases m:((x:Int),(y:Int))∈a
   .rw [g.count,if_pos m,Ù m];rfl
   .rw [List.count_eq_zero.mpr m,Ü m];rfl
  rw[l]
  cases(b.getD x 0).testBit y<;>simp
 show((List.perm_ext_iff_of_nodup (Mm.wR _ _) g).mpr λs=>?_).length_eq;rw[Mm.DK];constructor
 .rintro ⟨x,y,rfl,_,_,f⟩;rw[c]at f;show æ f
 .intro m;let#[d,j,e,n]:=i s m;show#[s.1.toNat,s.2.toNat,?_,Yj d j,(),?_]
  .rw [show((s.1.toNat:Nat):Int)=s.1 by show DP d,show((s.2.toNat:Nat):Int)=s.2 by show DP e]
  .rw [c,show((s.1.toNat:Nat):Int)=s.1 by show DP d,show((s.2.toNat:Nat):Int)=s.2 by show DP e];show Ù m
section
variable(hn:∀ps∈ds,(ps.map (·.1)).Nodup)(hds:∀ps∈ds,∀q∈ps,0<=q.2/\q.2<↑ds)(he:∀e∈es,0<=e)(hD:Dj (QD es S) (Jk (Rz ls (ds.map (aG ls))) S) F (λ_ _=>False))
include hn hds he hD
end
theorem N7(h:(a.map (·.1)).Nodup):Hs.dr a s=!r↔(s,r)∈a:=by
 show#[Hs.kZ,λm=>?_]
 cases e:Hs.dr a s with
 |none=>show absurd (Zl.mpr #[_,m,rfl]) (zK.mp e)
 |some r'=>
  have g:=Hs.kZ e;let#[i,d,c]:=ă.mp m;let#[j,f,b]:=ă.mp g;have:i=j:=(Ŧ (h₀:=by rw[Qb];show d) (h₁:=by rw[Qb];show f) h).mp (by rw[õ,õ,c,b]);subst this;rw[c]at b;injection b with _ e2
  rw[e2]
theorem QX{b c:L1S}(h:b.Perm c)(d:(b.map (·.1)).Nodup)(s:ϐ):Hs.dr b s=Hs.dr c s:=by
 have a:(c.map (·.1)).Nodup:=(h.map _).nodup_iff.mp d;show Option.ext ?_;intro r;rw[N7 d,N7 a,h.mem_iff]
theorem Ek(a b:L1S)(s:ϐ):Hs.dr (a++b) s=(Hs.dr a s).or (Hs.dr b s):=by
 unfold Hs.dr;rw[List.find?_append]
 cases a.find? λp=>decide (p.1=s)<;>rfl
theorem N8{f:Nat}(i:PdR ds a (tx [f]) ds')(g:∀ps∈ds,Hs.dr ps (tx [f])=none)(o:0<=r)(p:r<(↑ds+1:Nat))(c:Nat):
  Hs.dr (ds'.getD r.toNat []) (tx [c])=if c=f then(if r∈a++[(↑ds:Int)]then !(↑ds:Int)else none)else Hs.dr (ds.getD r.toNat []) (tx [c]):=by
 let#[j,rfl]:∃j:Nat,r=(j:Int):=#[r.toNat,()];rw[Ð];have h:j<↑ds':=by rw[i.1];rfl'
 let#[m,n]:=i.2 j ds'[j] (Qr h);have k:(ds++[[]]).getD j []=ds.getD j []:=by
  rw[Xs,Xs];rcases Ġ j ↑ds with w|w
  .rw [ê w]
  .rw [å w,ë w,show j-↑ds=0 by rfl'];rfl
 have l:Hs.dr (ds.getD j []) (tx [f])=none:=by
  rw[Xs];rcases Ġ j ↑ds with w|w
  .rw [Qr w];show g _ (Ó w)
  .rw [ë w];rfl
 rw[getD_at (Qr h),QX m (uR n),k,Ek];by_cases d:c=f
 .subst d;rw[l,if_pos rfl];by_cases b:(j:Int)∈a++[(↑ds:Int)]
  .rw [if_pos b,if_pos b];change Hs.dr [(tx [c],(↑ds:Int))] (tx [c])=_;rw[Hs.jP,if_pos rfl]
  .rw [if_neg b,if_neg b];rfl
 .rw [if_neg d];have:Hs.dr (if(j:Int)∈a++[(↑ds:Int)]then[(tx [f],(↑ds:Int))]else[]) (tx [c])=none:=by
   split
   .rw [Hs.jP,if_neg (λe=>d (by have:=jE.mp e;simpa using this.symm))];rfl
   .rfl
  rw[this,Option.or_none]
theorem Xa{h:Nat}{d:ϊ Int}(T:Fo.Wf h ls)(M:MnV ls ds d v):∃mo:ύ Int,v=oI mo/\(∀m,mo=!m-> -1<=m)/\∀p R,Gw ls ds 0 p R->(R:Int)∈d->∀a b,Gw ls ds 0 a b->(b:Int)∈d->a≠p->↑(bW a)=↑(bW p)->∃m,mo=!m/\2*m<((Mm.aY (bW p) (bW a):Nat):Int):=by
 let#[N,S,H,I,j,K,D,J]:=M;have x:∀G∈ds.map (aG ls),∀w∈G,1<=↑w.2.1:=λG B w A=>by
  let#[U,P,rfl]:=Zl.mp B;show(T.c1 _ (Fo.bI (oU A).1)).1
 have l:∀r∈cF (ds.map (aG ls)) N,∀w∈(ds.map (aG ls)).getD r.toNat [],w.2.2∈cF (ds.map (aG ls)) N:=λr Q w A=>by
  let#[k,c]:=ü.mp Q;show xm (Ñ (À.mp c).1 I) c (Zl.mpr #[w,A,rfl])
 have t:((0:Nat):Int)∈cF (ds.map (aG ls)) N:=by
  let#[E,e]:=qJ (λr:Int=>((ds.map (aG ls)).getD r.toNat []).map (·.2.2)) 0 0 N;rw[Ū]at e;change(0:Int)∈cR _ 0 N;rw[e];show á _ É
 have f:∀p R,Gw ls ds 0 p R->(R:Int)∈d->∀a b,Gw ls ds 0 a b->(b:Int)∈d->a≠p->↑(bW a)=↑(bW p)->∃z∈nZ (ds.map (aG ls)) (cF (ds.map (aG ls)) N),∃k,ji H (mC z) k/\rG z+k.1<=Mm.aY (bW p) (bW a):=λp R i q a b g o s n=>by
  let#[y,F,u]:=N5 x l t i g (λe=>s e.symm) n.symm q o;show F.low j D (0,0) ((D.e y #[(j y).mpr F.rch,u]).resolve_right id)
 rcases J with⟨rfl,hn⟩|⟨L,rfl,hex,hmin⟩
 .show #[none,rfl,(λm e=>by cases e),λp R i q a b g o s n=>?_];let#[z,C,k,c,_]:=f p R i q a b g o s n;show absurd c (hn z C k)
 .show #[!(((L:Int)-1)/2),rfl,λm e=>by cases e;rfl',λp R i q a b g o s n=>?_];let#[z,C,k,c,O]:=f p R i q a b g o s n;have:=hmin z C k c;show#[_,rfl,()]
theorem Xb{h:Nat}{k:Nat}(j:Fo.Wf h ls)(f:∀ps∈ds,∀q∈ps,0<=q.2/\q.2<↑ds)(v:∀ps∈ds,(ps.map (·.1)).Pairwise lC)(K:1<=↑ds)(T:Gw ls ds 0 p R)(Y:(R:Int)∈a)(o:∀c w,Gw ls ds 0 c w->(w:Int)∈a->c≠p->↑(bW c)=↑(bW p)->∃m,mo=!m/\2*m<((Mm.aY (bW p) (bW c):Nat):Int))(d:↑Z=↑(bW p))(g:Mm.aY (bW p) Z=k)(r:∀m,mo=!m->k=0\/(k:Int)<=m):∃t,BP ls Z ds a=!t/\(∀m,mo=!m->m<0->t.2.1=0/\1<=t.2.2)/\((∀m,mo=!m->0<=m)->t.1=p/\t.2.1=k/\t.2.2=1):=by
 have n:∀ps∈ds,(ps.map (·.1)).Nodup:=λps F=>dW (v ps F)
 have P:IsP ls Z ds a (Kw ls Z ds a):=Ky j;have D:BP ls Z ds a=(((Kw ls Z ds a).getD 0 []).getD 0 none).map λt=>(nT ls Z (ds.map (aG ls)) (Kw ls Z ds a) ↑Z 0 0,t.1,t.2):=rfl
 generalize Kw ls Z ds a=rows at P D;have A:=P.best j f ↑Z 0 0 (à _) (Ä _) K;have C:p∈PT (ds.map (aG ls)) a ↑Z ↑Z 0:=by
  have:=KN j Y p ↑Z 0 T (oG (d.symm) (Ä _));rw[<-d]at this;show this
 rw[Nat.sub_zero,ź]at A;rcases xJ ((PT (ds.map (aG ls)) a ↑Z ↑Z 0).map λp=>Mm.aY (bW p) Z)with⟨_,b⟩|⟨t,b1,b2,b3,b4⟩
 .rw [List.map_eq_nil_iff]at b;rw[b]at C
  cases C
 rw[b1]at A;have n1:t.1<=k:=by rw[<-g];show b3 _ (Zl.mpr #[p,C,rfl])
 have H:1<=t.2:=by rw[b4];show List.countP_pos_iff.mpr #[t.1,b2,by simp]
 let#[R0,I,W,E,B]:=P.path j f n ↑Z 0 0 t (à _) K (Ä _) A;have u:nT ls Z (ds.map (aG ls)) rows ↑Z 0 0∈PT (ds.map (aG ls)) a ↑Z ↑Z 0:=by
  have:=KN j W _ ↑Z 0 I (Ě E);rw[show↑(bW (nT ls Z (ds.map (aG ls)) rows ↑Z 0 0))=↑Z by show E]at this;show this
 rw[A]at D;show#[_,D,λm z hm=>#[?_,H],λO=>?_]
 .show t.1=0;rcases r m z with e|e<;>rfl'
 dsimp only;generalize nT ls Z (ds.map (aG ls)) rows ↑Z 0 0=path at I E B u;rw[ź]at B;have HQ:∀c∈PT (ds.map (aG ls)) a ↑Z ↑Z 0,Mm.aY (bW c) Z<=k->c=p:=λc i U=>by
  show Decidable.byContradiction λne=>?_
  let#[w,N,X,J]:=KQ n f _ _ _ c i;let#[m,z,h2]:=o c w N X ne (Eq.trans J d);have G:=Mm.wN (bW p) Z (bW c) d.symm J.symm;rw[g,Mm.ik Z]at G;have:=O m z;rcases r m z with e|e<;>rfl'
 have L:=HQ path u (oG B n1);subst L;have M:t.1=k:=Eq.trans (B.symm) g;show#[rfl,M,Nat.le_antisymm ?_ H];rw[b4,List.countP_map,List.countP_eq_length_filter];have s:(PT (ds.map (aG ls)) a ↑Z ↑Z 0).Nodup:=Ŝ (λ{x y} h e=>by rw[e]at h;show Ő _ h) (Eg (es:=a) (Wo j v) ↑Z ↑Z 0);show eO (l:=(PT (ds.map (aG ls)) a ↑Z ↑Z 0).filter ((λx=>decide (x=t.1))∘λp=>Mm.aY (bW p) Z)) (m:=[path]) (s.filter _) λc i=>by
  let#[Q,S]:=ö.mp i;have h5:Mm.aY (bW c) Z=t.1:=æ S;rw[HQ c Q ()];show É
theorem Cd{j:ϵ}{f b:L2S}{u:ϊ Int}{c t:Nat}(o:PdR f u (tx [c]) b)(i:Ww j f c t)(n:Hs.Wf f){a:ϊ Nat}(h:∀x∈a,x≠c/\∃d,Fo.lk j (tx [x])=!d):∀k,k<=↑a->∀r,Hs.go f (a.take k)=!r->∃p,Gw j b 0 p r.toNat/\bW p=Fo.m9 j (a.take k)/\p.map (·.1)=(a.take k).map λc=>tx [c]
 |0,_,r,e=>by
  cases e;show#[[],rfl,rfl,rfl]
 |k+1,hk,r,e=>by
  let#[x,s]:∃x,a[k]?=!x:=#[_,Qr hk];have m:a.take (k+1)=a.take k++[x]:=by rw[Í,s];rfl
  let#[y,d,q]:=h x (Yf s);rw[m,Hs.uI]at e
  cases er:Hs.go f (a.take k)with
  |none=>rw[er]at e;cases e
  |some r0=>
   rw[er]at e;replace e:Hs.dr (f.getD r0.toNat []) (tx [x])=!r:=e;let#[p,g,z,A]:=Cd o i n h k (Nat.le_of_succ_le hk) r0 er;let#[v,B]:=Hs.Bj n er;have w:0<=r:=by
    show(n.rm _ ?_ _ (Hs.kZ e)).1;rw[Xs,Qr ()];show Ó _
   have l:Hs.dr (b.getD r0.toNat []) (tx [x])=!r:=by
    rw[N8 o i.2.1 v () x,if_neg y];show e
   show#[p++[(tx [x],d,r)],vg g (by rw[o.1];rfl') l q w,?_,?_]
   .rw [m,Fo.qy,show Fo.cl j x=d by unfold Fo.cl;rw[q];rfl,<-z];unfold bW;rw[Wp,List.flatten_append];simp
   .rw [m,Wp,Wp,A];rfl
theorem xM{k:ϵ}{b:L2S}{j:ϊ Int}{c h:Nat}(o:PdR b j (tx [c]) a)(d:Ww k b c h){e:Nat}(q:Gw k a 0 f e)(t:(e:Int)∈j)(s:e<↑b):∀n,∃(p:ϳ)(R:Nat),Gw k a 0 p R/\(R:Int)∈j++[(↑b:Int)]/\R<=↑b/\bW p=bW f++List.replicate n h/\p.map (·.1)=f.map (·.1)++List.replicate n (tx [c])
 |0=>#[f,e,q,á _ t,ï s,by simp,by simp]
 |n+1=>by
  let#[p,R,g,m,l,u,v]:=xM o d q t s n;have i:Hs.dr (a.getD R []) (tx [c])=!(↑b:Int):=by
   have:=N8 o d.2.1 (r:=(R:Int)) () () c;rw[if_pos rfl,if_pos m]at this;show this
  show#[p++[(tx [c],[h],(↑b:Int))],↑b,vg g (by rw[o.1];rfl') i d.1 (Ι _),Û _ (by simp),Ä _,?_,?_]
  .rw [š,<-ð,<-u];unfold bW;rw[Wp,List.flatten_append];simp
  .rw [Wp,v,š,<-ð];rfl
theorem QZ(e:p.map (·.1)=cs.map (λc=>tx [c])++List.replicate n (tx [c]))(a:∀x∈cs,x≠c):WF c (WK p)=cs:=by
 rw[LC (cs:=cs++List.replicate n c) (by rw[e,Wp,List.map_replicate]),uZ,Ly];intro x b;show a x (List.mem_of_getLast? b)
inductive sp_f72(K:Ϗ)(vs:ϊ V)(H:Hp)(Q:VK)(E:XK):Prop
 |mk (a:ό) (b:ϊ Int) (c:vs=[.ref a]) (d:SqL K H a (b.map V.int)) (e:↑b<=63) (f:∀H',Q (.bl true) H')
abbrev Nb K:=(aA (aK (bN (sp_f37 K) (zc fY oN cC (bN (sp_f36 K) (cA bc (bN (sp_f62 K) (cA bc Ib)))))) (ak 17))
  (aA (cD (eZ (cj (dZ K mD))) (ak 18) (bB (lE (jw K (bN (sp_f33 K) (zc (aL (cu K) Z6 Vb) (aL (cu K) mD Vb) (aL (cu K) Z4 Vb) xj)))) (aP (tC (V.bl false))) aV))
  (aP (aL pB (dZ K Z6) (dZ K mD)))))
abbrev Nf K:=(aA (cD (Uc K (cA (bN (sp_f70 K) (dY fY (zc oN cC (gW (gK K) (cj mD)) NQ))) a1m)) (je K 2 (bO (ak 14) (bO (ak 15) jk))) (aA (aK (bN (sp_f5 K) (cA a1n a1o)) (ak 16))
  (aA (cG (qT K "list" cI Ib (cj (tX K Z5 0))))
  (cG (qT K "list" cI Z4 (cj (tX K Z5 1)))))))
  (aA (bB (Es (aN (aL (rNeD K) (bN (sp_f36 K) (cA bc (bN (sp_f62 K) (cA bc Ib)))) Ib)) (aN (aL xV (dZ K Ib) (dZ K mD)))) (aP (tC (V.bl false))) aV)
  (Nb K)))
abbrev Ng K:=(aA (bB (qU (aN (aL uo NQ (tI 0))) (aN (aL (rNeD K) mD (fC f9)))) (aK (bN (sp_f16 K) (dY (FJ (vH K) aQ (gh (tI 6)) (gh (tI 66))) (zc (dZ K mD) NQ bc xj))) (ak 11)) aV)
  (aA (aK (fC f9) (ak 12))
  (aA (aK (fC f9) (ak 13))
  (Nf K))))
abbrev Nh K:=(aA (aK (bN (sp_f29 K) (lg fY oN cC)) (ak 10))
  (aA (bB (qU (aN (aL mO xj (tC V.non))) (Es (lE (jw K (bN (sp_f25 K) (cj xj)))) (aN (aL rB xj (R4 pW (tI 1)))))) (aP (tC (V.bl false))) aV)
  (aA (aK (jr [none] (bY K mD) (ak 0) cZ u9) (ak 11))
  (Ng K))))
abbrev Ni K:=(aA (aK (gW (Ar K) (cj (aL yg (fC (cj (tI 0))) (jr [none,!2] (bY K mD) (ak 0) cZ (gW (Pb K) (cj (jr [none,!1] (CV aQ) (ak 0) cZ (dZ K (gm bc aQ))))))))) (ak 9))
  (aA (aK (aL bQ NQ (aL bJ (bN (sp_f9 K) (cA aQ (tI 5))) (tI 6))) (ak 9))
  (Nh K)))
abbrev Nm K:=(aA (aK (bN (sp_f0 K) (lg (aL eN (bN (sp_f9 K) (cA aQ (tI 1))) (tI 12)) bR cX)) (ak 6))
  (aA (aK (bN (sp_f20 K) (lg (bN (sp_f9 K) (cA aQ (tI 4))) j6 (dZ K cX))) (ak 7))
  (aA (aK (bN (sp_f32 K) (lg oN cX (FJ (vH K) aQ (gh (tI 6)) (gh (tI 66))))) (ak 8))
  (Ni K))))
abbrev Np K:=(aA (aK (gW (q9 K) (cj (jr [none,!3] (yz bR) (ak 0) (aN (aL (El K true) aQ (fC (cA (tC (V.str (Str.ofString ""))) bc)))) aQ))) (ak 4))
  (aA (aK (cU (cA bc (gW (sV K) (cj (jr [none,!2] (bY K (gW ur (cj bR))) (ak 0) (aN (aL xV aQ (tC (V.str (Str.ofString ""))))) (cU (cA aQ (gm bc aQ)))))))) (ak 5))
  (Nm K)))
abbrev Nq K(E:XK)(Eh:XK):=(aA (aK (bN (sp_f11 K) (cj (bN (sp_f9 K) (cA aQ (tI 0))))) (ak 1))
  (aA (aK (bN (sp_f8 K) (cA aQ bc)) (ak 2))
  (aA (aK (gm bR (tC (V.str (Str.ofString "")))) (ak 3))
  (Np K))))
abbrev lB:ϊ ϐ:=sN ["script","height","letters","filler","signs","font","known","house","rows","wide","most","blots","spoilt","far","strip","some","told","found","k"]
theorem Xc(h:sp_f72 K vs H Q E):RG (Nq K E) lB vs H Q:=by
 let#[a,Y,rfl,hS,lx,q]:=h;show#[E0,?_];apply#[a,Y,0,rfl,hS,?_];apply#[_,rfl,λO fq ai=>?_];apply#[a,Y,O,rfl,hS,ai,λd H1 F W c0 s1 hd ce=>?_];walk_at "ns";apply#[d,_,rfl,ce.fil,?_];apply YX (zs:=jY F) ce.d (by unfold jY;rw[Qb];show Î ce.l (by decide)) (λz=>match z.1 with|.inl _=>none|.inr s=>if s∈[tx [],W]then none else !(.str s)) λod H2 bi fy=>⟨λi z I hz s' A B kA kB=>?_,λp2 H3 s3 i0=>?_⟩
 .obtain ⟨p,J,rfl⟩:=Zl.mp (Yf hz);symm;intro p3 i4;show Qm (.inl (SqL.of aa)) rfl rfl ?_;change∃k,_=V.bl k/\_;rw[show inV (kV (Sum.inr p.1,p.2.1).1) [V.str (Str.ofString ""),V.str W]=decide (p.1∈[tx [],W])from Qn p.1 [tx [],W]];apply jW (λc=>?_) λc=>?_
  .symm;show kA _ _ (if_neg c) (aq i4 _)
  .show kB _ (if_pos c) (aq i4 _)
 have ad:=ce.frz hd bi fy;have ic:SqL K H2 a (Y.map V.int):=by
  rcases s1.seq hS with(h|⟨o,h⟩)|h
  .show .inl (.inl (bi _ _ (by intro m;rw[Zs.mp m,hd]at h;cases h) h))
  .show .inl (.inr #[o,bi _ _ (by intro m;rw[Zs.mp m,hd]at h;cases h) h])
  .show .inr h
 clear ce hS hd s1 bi H1;have hm:(jY F).filterMap (λz=>match z.1 with|.inl _=>none|.inr s=>if s∈[tx [],W]then none else !(V.str s))=((F.map (·.1)).filter λs=>decide (s∉[tx [],W])).map V.str:=by
  clear ad fy;unfold jY;induction F with
  |nil=>rfl
  |cons p r ih=>
   rw[È,Đ,È,ĸ];by_cases c:p.1∈[tx [],W]
   .dsimp only;rw[if_pos c,if_neg (λz=>(show p.1∉[tx [],W]from æ z) c)];show ih
   .dsimp only;rw[if_neg c,if_pos (Ù c),È,ih]
 rw[hm];clear hm;have cn:∀s,s∈(F.map (·.1)).filter (λs=>decide (s∉[tx [],W]))->s≠W/\s≠tx []/\∃p∈F,p.1=s:=λs ms=>by
  let#[m1,m2]:=ö.mp ms;have m3:s∉[tx [],W]:=æ m2;let#[p,J,e]:=Zl.mp m1;show#[λz=>m3 (by rw[z];show Ì _ É),λz=>m3 (by rw[z];show É),p,J,e]
 have f4:0<↑((F.map (·.1)).filter λs=>decide (s∉[tx [],W])):=by
  let#[p,J,n1,n2]:=ad.m;show ů (ö.mpr #[List.mem_map.mpr #[p,J,rfl],Ù (by simp[n1,n2])])
 have f2:↑((F.map (·.1)).filter λs=>decide (s∉[tx [],W]))<=3:=by
  let#[v0,m0]:=ad.o;have:=eU (xs:=tx []::W::(F.map (·.1)).filter λs=>decide (s∉[tx [],W])) (ys:=F.map (·.1)) (é.mpr #[λm=>?_,é.mpr #[λm=>?_,ad.n.sublist Ť]]) λs ms=>?_
  .have h5:=ad.l;rw[Qb]at this;simp only[í]at this;rfl'
  .rcases Ç.mp m with m|m
   .show ad.e m.symm
   .show (cn _ m).2.1 rfl
  .show (cn _ m).1 rfl
  .rcases Ç.mp ms with rfl|ms
   .show Zl.mpr #[_,ad.f,rfl]
   .rcases Ç.mp ms with rfl|ms
    .show Zl.mpr #[_,m0,rfl]
    .show (ö.mp ms).1
 have f3:((F.map (·.1)).filter λs=>decide (s∉[tx [],W])).Nodup:=ad.n.sublist Ť;generalize(F.map (·.1)).filter (λs=>decide (s∉[tx [],W]))=sk at cn f4 f2 f3⊢;have S3:=s3.new (o:=HO.lst (sk.map V.str)) i0;apply Bl (SqL.of aa) f3 () λr3 ss af i6 i7=>?_
 have S4:=S3.new (o:=HO.lst (ss.map V.str)) i7;have e4:upd (upd H3 p2 (HO.lst (sk.map V.str))) r3 (HO.lst (ss.map V.str)) r3=!(.lst (ss.map V.str)):=aa;generalize upd (upd H3 p2 (HO.lst (sk.map V.str))) r3 (HO.lst (ss.map V.str))=H4 at S4 e4⊢;clear i7 S3 i0 s3 H3;have ja:∀s∈ss,s≠W/\s≠tx []/\∃p∈F,p.1=s:=λs ms=>cn s (af.mem_iff.mp ms)
 have fa:0<↑ss:=by rw[af.length_eq];show f4
 have jp:↑ss<=3:=by rw[af.length_eq];show f2
 clear cn f4 f2 f3 af sk;have ci:=ad.same S4;have ii:=S4.seq ic;clear ad ic fy S4 H2;apply DQ (kvs:=F.map λp:Lw=>(p.1,p.2.1)) (by rw[Æ];show ci.d) (by rw[Qb];show Õ ci.l (by decide)) λr5 nms af e3 i8=>?_
 rw[Æ]at af;have dc:↑nms<=5:=by rw[af.length_eq,Qb];show ci.l
 have S5:=aq (o:=HO.lst (nms.map V.str)) i8;have er:upd H4 r5 (HO.lst (nms.map V.str)) r5=!(.lst (nms.map V.str)):=aa;generalize upd H4 r5 (HO.lst (nms.map V.str))=H5 at S5 er⊢;have S:=ci.same S5;have a9:=S5.seq ii;have e5:=S5.get e4;clear ci ii e4 S5 i8;apply nY V.str (zs:=nms) (SqL.of er) () (λk Z I=>(Ex1 λ(G:ϊ Lz)=>(An5 (Z=G.map (λz:Lz=>V.ref z.1)) (↑G<=k) (Same H5 I) (G.map (·.2.1)=(nms.take k).filter (λs=>decide (s≠tx []))) (∀z∈G,I z.1=!(.tup [.str z.2.1,.ref z.2.2.1])/\I z.2.2.1=!(.tup (nv z.2.2.2))/\z.2.1≠tx []/\(z.2.1,V.ref z.2.2.1,z.2.2.2)∈F)))) #[[],rfl,à _,Same.refl _,rfl,by simp] ?_ ?_ ?_ ?_
 .rintro k Z I ⟨G,rfl,_,s',_⟩;show SqL.of (s'.get er)
 .rintro k Z I ⟨G,rfl,h,_⟩;rw[Qb];show h
 .rintro k nm Z I iv ⟨G,rfl,a4,s',U,hz⟩;have et:nms.take (k+1)=nms.take k++[nm]:=by rw[Í,iv];rfl
  let#[p,J,e1]:=Zl.mp (af.mem_iff.mp (Yf iv));replace e1:p.1=nm:=e1;subst e1;apply jW (λc=>?_) λc=>?_
  .replace c:p.1≠tx []:=c;let#[k1,k2,k3,t,hw,k4]:=(S.same s').k p J c;symm;have hg:=DGet.r (k:=Sum.inr p.1) (S.same s').d;rw[oW S.n J,hw]at hg;show#[d,.ref t,rfl,hg,?_];symm;intro u hu;show#[G++[(u,p.1,t,p.2.2)],by simp,by rw[Â,Ú];rfl',s'.new hu,?_,λz m=>?_]
   .rw [Wp,U,et,List.filter_append,ĸ,if_pos (Ù c)];rfl
   .rcases Å.mp m with m|m
    .obtain ⟨j1,j2,j3⟩:=hz z m;show#[az hu j1,az hu j2,j3]
    .rw [Zs.mp m];show#[aa,az hu k4,c,by rw[<-hw];show J]
  .show #[G,rfl,(),s',?_,hz];rw[U,et,List.filter_append,ĸ,if_neg (λz=>(show p.1≠tx []from æ z) c)];simp
 rintro Z H6 ⟨G,rfl,a4,s6,U,hz⟩ p6 f7;rw[Ö]at U;apply z7 (SqL.of aa) λl ob f6 hl=>?_
 symm;intro f hf;have T6:=((s6.new (o:=HO.lst (G.map λz:Lz=>V.ref z.1)) f7).new (o:=HO.frz ob (.tup (G.map λz:Lz=>V.ref z.1))) hl).new (o:=HO.tup [V.int (O:Int),V.ref l]) hf;have U6:=((aq (o:=HO.lst (G.map λz:Lz=>V.ref z.1)) f7).new (o:=HO.frz ob (.tup (G.map λz:Lz=>V.ref z.1))) hl).new (o:=HO.tup [V.int (O:Int),V.ref l]) hf;have hF:FnF K (upd (upd (upd H6 p6 (HO.lst (G.map λz:Lz=>V.ref z.1))) l (HO.frz ob (.tup (G.map λz:Lz=>V.ref z.1)))) f (HO.tup [V.int (O:Int),V.ref l])) f O (G.map λz:Lz=>(z.2.1,z.2.2.2)):=#[l,ob,G,aa,rfl,f6,az hf aa,λz m=>#[U6.get (hz z m).1,U6.get (hz z m).2.1]];have be:∀z∈G,z.2.1≠tx []/\(z.2.1,V.ref z.2.2.1,z.2.2.2)∈F:=λz m=>(hz z m).2.2
 have dl:∀z∈G,GoodL H5 O (z.2.1,V.ref z.2.2.1,z.2.2.2):=λz m=>S.k _ (be z m).2 (be z m).1
 have f5:∀s,s≠tx []->(∃p∈F,p.1=s)->s∈G.map (·.2.1):=λs n ⟨p,J,e⟩=>by
  rw[U];show ö.mpr #[af.mem_iff.mpr (Zl.mpr #[p,J,e]),Ù n]
 have wf:Fo.Wf O (G.map λz:Lz=>(z.2.1,z.2.2.2)):=by
  show#[?_,by rw[Qb];rfl',?_,?_,?_,?_]
  .obtain ⟨p,J,n1,_⟩:=S.m;have:=ů (f5 p.1 n1 #[p,J,rfl]);rw[Qb]at this⊢;show this
  .rw [Æ,show((λp:ϐ×ϊ Nat=>p.1)∘λz:Lz=>(z.2.1,z.2.2.2))=λz:Lz=>z.2.1 from rfl,U];show e3.sublist Ť
  .intro p m;let#[z,M,rfl]:=Zl.mp m;show(dl z M).1
  .intro p m;let#[z,M,rfl]:=Zl.mp m;have:=(dl z M).2.1;show#[this.1,Î this.2 (by decide)]
  .intro p m;let#[z,M,rfl]:=Zl.mp m;show(dl z M).2.2.1
 have kl:∀{s:ϐ}{v v':V}{c c':ϊ Nat},(s,v,c)∈F->(s,v',c')∈F->c=c':=λ{s v v' c c'} h1 h2=>by
  have:=BZ (x:=(s,v,c)) (y:=(s,v',c')) rfl S.n h1 h2
  cases this;rfl
 have hk:Zn F (G.map λz:Lz=>(z.2.1,z.2.2.2)):=λs co=>by
  constructor
  .intro e;let#[z,M,ez]:=Zl.mp (Fo.bI e)
   cases ez;show#[(be z M).1,_,(be z M).2]
  .rintro ⟨n,v,mv⟩;let#[lv,hh]:=Fo.yZ (ls:=G.map λz:Lz=>(z.2.1,z.2.2.2)) (s:=s) (by rw[Æ];show f5 s n #[_,mv,rfl]);let#[z,M,ez]:=Zl.mp (Fo.bI hh);have h2:=(be z M).2
   cases ez;rw[hh,kl mv h2]
 have ip:↑(G.map λz:Lz=>(z.2.1,z.2.2.2))<=5:=by rw[Qb];rfl'
 generalize(G.map λz:Lz=>(z.2.1,z.2.2.2))=ls at hF wf hk ip;replace S:=S.same T6;replace a9:=T6.seq a9;replace e5:=T6.get e5;generalize upd (upd (upd H6 p6 (HO.lst (G.map λz:Lz=>V.ref z.1))) l (HO.frz ob (.tup (G.map λz:Lz=>V.ref z.1)))) f (HO.tup [V.int (O:Int),V.ref l])=H7 at hF S a9 e5⊢;clear T6 U6 hz be dl f5 kl U a4 s6 f7 hl hf er af e3 dc G nms H6 H5;have f1:Fo.lk ls W=![c0]:=by
  let#[v0,m0]:=S.o;show(hk W [c0]).mpr #[S.e,v0,m0]
 have ct:∀s∈ss,s≠W/\∃co,Fo.lk ls s=!co:=λs ms=>by
  let#[n1,n2,p,J,e]:=ja s ms;show#[n1,p.2.2,(hk _ _).mpr #[n2,p.2.1,by rw[<-e];show J]]
 walk_at "ns";apply#[a,Y,1,rfl,a9,?_];apply#[_,d,r3,O,F,W,c0,ls,ss,rfl,S,hk,wf.le,e5,i6,fa,(),λs ms=>#[wf.sg _ (Fo.bI (ct s ms).2.choose_spec),(ct s ms).2],λr8 H8 sh s8 e8 e7 i9 e9 cv=>?_];walk_at "ns";have h9:=S.same s8;have ft:=s8.seq a9;have h7:=hF.same s8;have fn:=s8.get e5;clear S a9 hF e5 s8 ja H7;apply#[a,Y,4,rfl,ft,?_];apply wV fn ?_;apply#[_,r8,↑ss,sh,rfl,jp,SqL.of e8,e7,e9,λs ms=>(cv s ms).1,λha H9 ds es s9 hH gd ly f0=>?_];have ia:=h9.same s9;have fv:=s9.seq ft;have h8:=h7.same s9;have g9:=s9.get fn;clear h9 ft h7 e8 fn s9 H8;have kw:∀ps∈ds,Hs.dr ps W=none:=λps bg=>zK.mpr λm=>by
  let#[z,M,ez]:=Zl.mp m;have h1:=f0 ps bg z M;rw[show z.1=W from ez]at h1;rcases(cv W h1).2with h2|h2
  .show (ct W h2).1 rfl
  .show Option.some_ne_none _ (f1.symm.trans h2)
 have kt:∀ps∈ds,↑ps<=10:=λps bg=>by
  have:=eU (xs:=ps.map (·.1)) (ys:=sh) (uR (gd.sr ps bg)) λs ms=>by
   let#[z,M,rfl]:=Zl.mp ms;show f0 ps bg z M
  rw[Qb]at this;rfl'
 let#[c,hc]:∃c,W=tx [c]:=by
  let#[n,en]:=wf.sg _ (Fo.bI f1);show#[_,en]
 subst hc;have bb:Ww ls ds c c0:=#[f1,kw,()];have ge:Hs.Wf ds:=#[gd.r1,λps J p m=>(gd.sg ps J p m).2];clear f0 cv e9 i9 e7 i6;walk_at "ns";symm;have c6:gR (Y.map V.int) (!6) (!66)=((Y.take 66).drop 6).map V.int:=by rw[uE (by decide) (by decide),List.map_drop,Β];rfl
 have dd:↑((Y.take 66).drop 6)<=60:=by rw[î,Ô];rfl'
 generalize(Y.take 66).drop 6=nsc at c6 dd;show wZ fv λdz eu=>?_
 rw[c6];have bk:=aq (o:=HO.lst (nsc.map V.int)) eu;have fl:upd H9 dz (HO.lst (nsc.map V.int)) dz=!(.lst (nsc.map V.int)):=aa;generalize upd H9 dz (HO.lst (nsc.map V.int))=H13 at bk fl⊢;apply#[ha,r3,dz,ds,es,ss,nsc,rfl,hH.same bk,gd,SqL.of (bk.get g9),fa,(),λs ms=>wf.sg _ (Fo.bI (ct s ms).2.choose_spec),SqL.of fl,dd,λrr fe C kb c9 dg ac=>?_];have bm:=bk.trans kb;have ee:=ia.same bm;have eh:=bm.seq fv;have d6:=h8.same bm;have eb:=hH.same bm;clear ia fv h8 hH g9 bm kb fl bk eu H13 H9;walk_at "ns";symm;intro gq ew;symm;have a7:=aq (o:=HO.lst [V.int 0]) ew;have fm:upd fe gq (HO.lst [V.int 0]) gq=!(.lst [V.int 0]):=aa;generalize upd fe gq (HO.lst [V.int 0])=H16 at a7 fm⊢;have bd:∀D∈C,∀x∈D,x≠c/\∃d,Fo.lk ls (tx [x])=!d:=λD L x mx=>by
  let#[h1,h2]:=ct _ ((ac D L).2.1 x mx);show#[λz=>h1 (by rw[z]),h2]
 show nY (λD:ϊ Nat=>V.str (tx D)) (zs:=C) (SqL.of (a7.get c9)) (dG dg) (λi Z I=>(An2 (Same H16 I) (Z=((C.take i).map λD=>↑(Fo.m9 ls D)).map λn:Nat=>V.int (n:Int)))) #[Same.refl _,rfl] ?_ ?_ ?_ ?_
 .rintro i Z I ⟨s',_⟩;show SqL.of (s'.get (a7.get c9))
 .rintro i Z I ⟨_,rfl⟩;rw[Qb,Qb];show List.length_take_le _ _
 .rintro i D Z I hi ⟨s',rfl⟩;have h2:=bd D (Yf hi);have h1:=(ac D (Yf hi)).1;apply a1l () (λi Z H2=>(An2 (Same I H2) (Ex1 λ(Y:ϊ Nat)=>(An3 (Z=Y.map (λn:Nat=>V.int (n:Int))) (↑Y=i) (Y.sum=↑(Fo.m9 ls (D.take i))))))) #[Same.refl _,[],rfl,rfl,rfl] ?_ ?_ ?_
  .rintro i Z I ⟨_,Y,rfl,h,_⟩;rw[Qb];rfl'
  .rintro i x Z H2 hi ⟨s2,Y,rfl,dc,a6⟩;have j4:D[i]?=!x:=by simpa[tx]using hi
   let#[_,co,e]:=h2 x (Yf j4);let#[r,g1,g2]:=(ee.same ((a7.trans s').trans s2)).get hk e;apply#[d,_,rfl,g1,?_];apply cN (SqT.of g2) ?_;show#[s2,Y++[↑co],by rw[Wp,Qb];rfl,by rw[Â,dc];rfl,?_];rw[Í,j4,show(!x).toList=[x]from rfl,Fo.qy,List.sum_append,a6,Â,show Fo.cl ls x=co by unfold Fo.cl;rw[e];rfl];simp
  rintro Z H2 ⟨s2,Y,rfl,dc,a6⟩ p hp;rw[Ö]at a6;apply Rr (ns:=Y.map λn:Nat=>(n:Int)) (SqL.of (by rw[Æ];show aa)) ?_;show#[(s'.trans s2).new hp,?_];rw[Í,hi,Wp,Wp,show(Y.map λn:Nat=>(n:Int)).sum=((Y.sum:Nat):Int)from tQ Y,a6];rfl
 rintro _ gx ⟨gu,rfl⟩ k8 cp;rw[Ö];have i5:∀D∈C,↑(Fo.m9 ls D)<=64:=λD L=>by
  have:=wf.pic_le D;have:=(ac D L).1;rfl'
 apply wY (az cp (gu.get fm)) aa (by rw[Qb,Qb];simp;rfl') λk9 ey=>?_
 apply V2 (ns:=((0:Int)::C.map λD=>(↑(Fo.m9 ls D):Int))) (SqL.of (by rw[aa,È,Æ,Æ];rfl)) (by simp) λmx is ek=>?_
 let#[wm,rfl,k0]:∃wm:Nat,mx=(wm:Int)/\wm<=64:=by
  rcases Ç.mp is with rfl|h
  .show #[0,rfl,by decide]
  .obtain ⟨D,L,rfl⟩:=Zl.mp h;show#[_,rfl,i5 D L]
 have a8:=((a7.trans gu).new (o:=HO.lst ((C.map λD=>↑(Fo.m9 ls D)).map λn:Nat=>V.int (n:Int))) cp).new (o:=HO.lst ([V.int 0]++(C.map λD=>↑(Fo.m9 ls D)).map λn:Nat=>V.int (n:Int))) ey;generalize upd (upd gx k8 (HO.lst ((C.map λD=>↑(Fo.m9 ls D)).map λn:Nat=>V.int (n:Int)))) k9 (HO.lst ([V.int 0]++(C.map λD=>↑(Fo.m9 ls D)).map λn:Nat=>V.int (n:Int)))=H18 at a8⊢;have cm:=a8.seq eh;have b9:=d6.same a8;have cb:=eb.same a8;have d4:=a8.get c9;clear ee eh d6 eb c9 a8 ey cp gu fm a7 ew is;clear gx H16 fe;walk_at "ns";apply#[a,Y,5,rfl,cm,?_];symm;let#[w6,e6,ky]:=Mm.eQ (Mm.cellAt Y 5) 6 (by decide);replace e6:Mm.cellAt Y 5%6=(w6:Int):=e6;rw[e6,show(wm:Int)+(w6:Int)=((wm+w6:Nat):Int)from rfl];let#[P,hy,ar]:∃P,P=wm+w6/\P<=70:=#[_,rfl,()];rw[<-hy];have ib:∀D∈C,RwO ls ds es P D:=λD L=>by
  let#[h1,_,h3]:=ac D L;show#[dG h1,λx mx=>(bd D L x mx).2,h3,?_];have:=ek _ (Ì _ (Zl.mpr #[D,L,rfl]));rfl'
 clear ek i5 hy k0 e6 ky;apply#[f,ha,O,ls,ds,es,c,c0,rfl,b9,wf,cb.g,gd,bb,λfk pd=>?_];have ok:=pd.ok kt λps J p m=>(gd.sg ps J p m).2
 have l0:=pd.1;have r1:=gd.r1;show#[#[(),(),λps J=>#[Nat.le_trans (ok ps J).1 (by decide),(ok ps J).2],Î (Nat.mul_le_mul (Nat.mul_le_mul (show↑fk<=10 by rfl') (show↑fk<=10 by rfl')) (Nat.mul_le_mul_right 9 ip)) (by decide)],λv al c1 hM=>?_];let#[mo,rfl,iq,io]:=Xa wf hM;have ei:=c1.seq cm;have d8:=b9.same c1;have ec:=cb.same c1;have ag:=c1.get d4;clear cm b9 cb d4 c1 hM H18;show oJ ?_;walk_at "gj";walk_at "ns";with_reducible show qu (λgv I=>(An2 (I=al) (gv=[!(.ref a),!(.int (O:Nat)),!(.ref d),!(.str (tx [c])),!(.ref r3),!(.ref f),!(.ref r8),!(.ref ha),!(.ref rr),!(.int (P:Nat)),!(oI mo),none,none,none,none,none,none,none,none]))) ?_ ?_
 rotate_left
 .intro N hN
  cases mo with
  |none=>
   apply gC rfl ?_;apply hN _ _ #[rfl,rfl]
  |some m=>
   have:=iq m rfl;apply jW (λ_=>?_) λz=>nomatch z
   apply#[m,rfl,?_];symm;change rB (.int m) _ _ _;apply jB () ?_;apply hN _ _ #[rfl,rfl]
 rintro _ _ ⟨rfl,rfl⟩;rename_i al;apply nY (λD:ϊ Nat=>V.str (tx D)) (zs:=C) (SqL.of ag) (dG dg) (λk Z I=>(An2 (Same al I) (Ex1 λ(T:ϊ Bt)=>(An4 (Z=T.map (λb:Bt=>V.ref b.1)) (↑T=k) ((T.map (·.1)).Nodup) (∀b∈T,al b.1=none/\b.2=([],λ_=>0)/\I b.1=!(.dT [])))))) #[Same.refl _,[],rfl,rfl,by simp,by simp] ?_ ?_ ?_ ?_
 .rintro k Z I ⟨s',_⟩;show SqL.of (s'.get ag)
 .rintro k Z I ⟨_,T,rfl,h,_⟩;rw[Qb];show Ě h
 .rintro k D Z I hk ⟨s',T,rfl,hl,ku,hb⟩;symm;intro d hd;show#[s'.new hd,T++[(d,[],λ_=>0)],by rw[Wp];rfl,by rw[Â,hl];rfl,?_,λb mb=>?_]
  .rw [Wp,â];show#[ku,by simp,λx mx y my e=>?_];let#[b,mb,rfl]:=Zl.mp mx;have:=(hb b mb).2.2;rw[e,show y=d by simpa using my,hd]at this
   cases this
  .rcases Å.mp mb with mb|mb
   .show #[(hb b mb).1,(hb b mb).2.1,az hd (hb b mb).2.2]
   .rw [Zs.mp mb];show#[s'.free hd,rfl,aa]
 rintro Z as ⟨a5,am,rfl,el,eo,ay⟩ aw a1;replace ay:∀b∈am,al b.1=none/\b.2=([],λ_=>0)/\upd as aw (.lst (am.map λb:Bt=>V.ref b.1)) b.1=!(.dT []):=λb mb=>#[(ay b mb).1,(ay b mb).2.1,az a1 (ay b mb).2.2]
 have bp:upd as aw (.lst (am.map λb:Bt=>V.ref b.1)) aw=!(.lst (am.map λb:Bt=>V.ref b.1)):=aa;replace a5:=a5.new (o:=.lst (am.map λb:Bt=>V.ref b.1)) a1;generalize upd as aw (.lst (am.map λb:Bt=>V.ref b.1))=as at ay bp a5⊢;clear a1;show oJ ?_;walk_at "gj";walk_at "ns";with_reducible show qu (λgv I=>(Ex2 λ(bl:ό) (T:ϊ Bt)=>(An6 (Same al I) (I bl=!(.lst (T.map λb:Bt=>V.ref b.1))) (↑T=↑C) ((T.map (·.1)).Nodup) (∀b∈T,al b.1=none/\vo I b/\BtG O P mo b.2.1) (gv=[!(.ref a),!(.int (O:Nat)),!(.ref d),!(.str (tx [c])),!(.ref r3),!(.ref f),!(.ref r8),!(.ref ha),!(.ref rr),!(.int (P:Nat)),!(oI mo),!(.ref bl),none,none,none,none,none,none,none])))) ?_ ?_
 rotate_left
 .intro N hN;have cz:∀{I:Hp},Same as I->N [!(.ref a),!(.int (O:Nat)),!(.ref d),!(.str (tx [c])),!(.ref r3),!(.ref f),!(.ref r8),!(.ref ha),!(.ref rr),!(.int (P:Nat)),!(oI mo),!(.ref aw),none,none,none,none,none,none,none] I:=λ{I} s=>hN _ _ ⟨aw,am,a5.trans s,s.get bp,el,eo,λb mb=>by
   let#[h1,h2,h3]:=ay b mb;let#[b1,b2]:=b
   cases h2;show⟨h1,s.get h3,Ÿ,λ_ ms=>(absurd ms Þ),à _,λ_ _=>.inl rfl⟩,rfl⟩
  apply dw (λcw=>?_) λcw=>?_
  .symm;intro la e0;have ff:=aq (o:=HO.lst []) e0;show rNeD.nil (Dp.txs (SqL.of (az e0 (a5.get ag)))) (Qj λl ml x mx=>?_) (by decide) (SqL.of aa) ?_
   .obtain ⟨_,co,e⟩:=bd l ml x mx;let#[n,en]:=wf.sg _ (Fo.bI e);rw[(List.cons.inj (jE.mp en)).1];show Hs.qx n
   generalize upd as la (HO.lst [])=ah at ff⊢;apply jW (λcr=>?_) λcr=>?_
   .have g0:=a5.trans ff;have kx:1<=↑C:=ņ.mpr λz=>cr (by rw[z];rfl)
    apply wZ (g0.seq ei) λlb i3=>?_
    rw[c6];have fi:=g0.new (o:=HO.lst (nsc.map V.int)) i3;apply cg (SqL.of (fi.get ag)) ?_;rw[Qb];apply#[lb,nsc,C.length,P,O,mo,rfl,SqL.of aa,dd,#[kx,dG dg],#[(),dG ar],#[fq,ai],λbl ll T li bo da db hb=>?_];apply hN _ _ #[bl,T,fi.trans li,bo,da,db,λb mb=>#[fi.free (hb b mb).1,(hb b mb).2],rfl]
   .symm;show cz ff
  .symm;show cz (Same.refl _)
 clear bp a5 ay eo el c6 dd;rintro _ ah ⟨bl,T,d0,bo,da,db,hb,rfl⟩;have ca:=d8.same d0;have cc:=ec.same d0;have br:=d0.get ag;replace hb:∀b∈T,vo ah b/\BtG O P mo b.2.1:=λb mb=>(hb b mb).2
 clear d0 ei d8 ec ag iq as al am aw;symm;intro sp ga;symm;intro fr a2;have bn:=(aq (o:=HO.lst []) ga).new (o:=HO.lst []) a2;have ka:sp≠fr:=λz=>by rw[<-z,aa]at a2;cases a2
 have b4:upd (upd ah sp (HO.lst [])) fr (HO.lst []) sp=!(.lst []):=az a2 aa;have bq:upd (upd ah sp (HO.lst [])) fr (HO.lst []) fr=!(.lst []):=aa;replace a2:ah fr=none:=(aq (o:=HO.lst []) ga).free a2;generalize upd (upd ah sp (HO.lst [])) fr (HO.lst [])=H22 at bn b4 bq⊢;apply wX (SqL.of (bn.get br)) λlr a3=>?_
 have fg:=bn.new (o:=HO.lst (C.map λD=>V.str (tx D))) a3;symm;walk_at "ns";show#[f,ha,lr,O,ls,ds,es,c,c0,C,P,rfl,(ca.same fg).t,wf,(cc.same fg).g,gd,ge,bb,SqL.of aa,dG dg,ib,dG ar,λG pg gy cq gi kc dn U=>?_];have c5:=(aq (o:=HO.lst (C.map λD=>V.str (tx D))) a3).trans kc;have c3:=bn.trans c5;have d5:=c5.get b4;have d2:=c5.get bq;have ax:=c3.get bo;have ap:∀b∈T,vo gy b/\BtG O P mo b.2.1:=λb mb=>#[c3.get (hb b mb).1,(hb b mb).2]
 have de:∀b o,ah b=!o->b≠sp/\b≠fr:=λb o e=>#[λz=>(by rw[z,ga]at e;cases e),λz=>(by rw[z,a2]at e;cases e)]
 have gk:=de _ _ bo;have gl:pg≠sp/\pg≠fr:=#[λz=>(by rw[z,az a3 b4]at cq;cases cq),λz=>(by rw[z,az a3 bq]at cq;cases cq)];have gn:∀z∈G,z.1≠sp/\z.1≠fr:=λz M=>#[λe=>(by have:=gi z M;rw[e,az a3 b4]at this;cases this),λe=>(by have:=gi z M;rw[e,az a3 bq]at this;cases this)]
 have a4:↑G=↑C:=by have:=Ý List.length U;rw[Qb,Qb]at this;show this
 have dp:∀z∈G,↑z.2=P/\∀x∈z.2,x<2^O:=λz M=>by
  have:z.2∈C.map (BR ls c0 P):=by rw[<-U];show Zl.mpr #[z,M,rfl]
  let#[D,L,e]:=Zl.mp this;rw[<-e];unfold BR;have:=(ib D L).2.2.2;show#[by rw[Â,ç];rfl',λx mx=>?_];rcases Å.mp mx with mx|mx
  .show wf.pic_lt D x mx
  .rw [(List.mem_replicate.mp mx).2];show wf.cb _ (Fo.bI bb.1) c0 (by simp)
 clear c5 kc fg cq gi a3 b4 bq bn bo hb;apply YW (λz:ό×ϊ Nat=>V.ref z.1) (λb:Bt=>V.ref b.1) (xs:=G) (ys:=T) (SqL.of dn.1) (SqL.of ax) (by rw[a4,da]) (λi σ I=>(An5 (∀b o,b≠sp->b≠fr->(∀kv,o≠.dT kv)->gy b=!o->I b=!o) (∀(j:Nat) b,i<=j->T[j]?=!b->vo I b) (∃ts:Ϸ,LL I sp ts/\(∀t∈ts,t.1≠sp/\t.1≠fr)/\↑ts=i/\∀(j:Nat) t z b,ts[j]?=!t->G[j]?=!z->T[j]?=!b->t.2=Mm.dR z.2 (xP b)) (I fr=!(.lst (nv ((T.take i).map λb=>↑(xP b))))) (Ex3 λdq dt dy=>σ=[!(.ref a),!(.int (O:Nat)),!(.ref d),!(.str (tx [c])),!(.ref r3),!(.ref f),!(.ref r8),!(.ref ha),!(.ref rr),!(.int (P:Nat)),!(oI mo),!(.ref bl),!(.ref sp),!(.ref fr),dq,dt,dy,none,none]))) #[λ_ _ _ _ _ e=>e,λj b _ hj=>(ap b (Yf hj)).1,#[[],#[d5,by simp],by simp,rfl,λj t z b e=>(by cases e)],d2,none,none,none,rfl] ?_ ?_ ?_
 .rintro i σ I ⟨k1,_⟩;show#[SqL.of (k1 _ _ gl.1 gl.2 (λ_ z=>by cases z) dn.1),SqL.of (k1 _ _ gk.1 gk.2 (λ_ z=>by cases z) ax)]
 .rintro i z b p σ I gj ae ⟨k1,k2,⟨ts,X,gc,cx,dk⟩,k4,dq,dt,dy,rfl⟩ hp;have lz:=(À.mp gj).1;have M:=Yf gj;have mb:=Yf ae;show dB (SqT.of aa) rfl ?_;symm;have k5:=az (o':=HO.tup [V.ref z.1,V.ref b.1]) hp (k1 _ _ (gn z M).1 (gn z M).2 (λ_ e=>by cases e) (dn.2 z M));have kr:vo (upd I p (HO.tup [V.ref z.1,V.ref b.1])) b:=az hp (k2 i b (Ä _) ae);have gB:=(ap b mb).2;show#[z.1,z.2,b,O,rfl,SqL.of k5,kr,λs ms=>by rw[(dp z M).1];show gB.o s ms,by rw[(dp z M).1];show dG ar,ai,λt r H2 df bi et er=>?_];have nb:b.1≠sp/\b.1≠fr:=#[λe=>(by have:=k2 i b (Ä _) ae;unfold vo at this;rw[e,X.1]at this;cases this),λe=>(by have:=k2 i b (Ä _) ae;unfold vo at this;rw[e,k4]at this;cases this)];have st:∀x o,x≠b.1->I x=!o->H2 x=!o:=λx o n e=>bi x o (λm=>n (Zs.mp m)) (az hp e)
  have b5:=st sp _ nb.1.symm X.1;have hr:=st fr _ nb.2.symm k4;apply d9 (SqL.of b5) ?_;apply fH et ?_;apply fL b5 (by rw[Qb];rfl') ?_;have k7:∀o,H2 t=!(HO.tup o)->t≠sp:=λo e z=>by rw[z,b5]at e;cases e
  have ko:upd H2 sp (HO.lst (ts.map (λr=>V.ref r.1)++[V.ref r])) t=!(HO.tup [V.ref r,V.int (↑(xP b):Nat)]):=by rw[ao (k7 _ et)];show et
  have d3:upd H2 sp (HO.lst (ts.map (λr=>V.ref r.1)++[V.ref r])) fr=_:=(ao ka.symm).trans hr;apply d9 (SqL.of d3) ?_;apply dh ko ?_;apply fL d3 (by unfold nv;rw[Qb,Qb,Ô];rfl') ?_;symm;have nr:r≠sp/\r≠fr:=#[λz=>(by rw[z,az hp X.1]at df;cases df),λz=>(by rw[z,az hp k4]at df;cases df)];show#[λx o n1 n2 n3 e=>?_,λj b' hj im=>?_,#[ts++[(r,Mm.dR z.2 (xP b))],#[?_,λu mu=>?_],λu mu=>?_,by rw[Â,cx];rfl,λj u z' b' hu gg fw=>?_],?_,_,_,_,rfl]
  .rw [ao n2,ao n1];have:=k1 x o n1 n2 n3 e;show st x o (λz=>by have h:=k2 i b (Ä _) ae;unfold vo at h;rw[<-z,this]at h;show n3 _ (ß h)) this
  .have h:=k2 j b' () im;unfold vo at h;have n1:b'.1≠b.1:=λz=>by
    have e1:(T.map (·.1))[i]?=(T.map (·.1))[j]?:=by rw[Jn,Jn,ae,im];show Ý some z.symm
    have:=(List.getElem?_inj (by rw[Qb];show(À.mp ae).1) db).mp e1;rfl'
   show(ao λz=>by rw[z,k4]at h;cases h).trans ((ao λz=>by rw[z,X.1]at h;cases h).trans (st _ _ n1 h))
  .rw [ao ka,aa,Wp];rfl
  .rcases Å.mp mu with mu|mu
   .rw [ao (gc u mu).2,ao (gc u mu).1];show st _ _ (λz=>?_) (X.2 u mu);have h:=k2 i b (Ä _) ae;unfold vo at h;rw[<-z,X.2 u mu]at h
    cases h
   .rw [Zs.mp mu,ao nr.2,ao nr.1];show er
  .rcases Å.mp mu with mu|mu
   .show gc u mu
   .rw [Zs.mp mu];show nr
  .rcases Ġ j ↑ts with w|w
   .rw [ê w]at hu;show dk j u z' b' hu gg fw
   .rw [å w]at hu;have ej:j=i:=by
     have:=(À.mp hu).1;rw[Ú]at this;rfl'
    subst ej;rw[cx,Nat.sub_self]at hu;rw[gj]at gg;rw[ae]at fw
    cases hu
    cases gg
    cases fw;rfl
  .rw [aa,Í,ae,Wp];unfold nv;rw[Wp];rfl
 rintro σ c2 ⟨k1,_,⟨ts,X,_,cx,dk⟩,k4,dq,dt,dy,rfl⟩;have ab:∀{b:ό}{o:HO},(∀kv,o≠.dT kv)->ah b=!o->c2 b=!o:=λ{b o} n e=>k1 b o (de b o e).1 (de b o e).2 n (c3.get e)
 have b6:∀{b:ό}{xs:ϊ V},SqT K ah b xs->SqT K c2 b xs:=λ{b xs} h=>by
  rcases h with(h|⟨o,h⟩)|h
  .show .inl (.inl (ab (λ_ z=>by cases z) h))
  .show .inl (.inr #[o,ab (λ_ z=>by cases z) h])
  .show .inr h
 have ea:FnF K c2 f O ls:=by
  let#[l,ob,fz,h1,ez,f6,h3,h4]:=ca;show#[l,ob,fz,ab (λ_ z=>by cases z) h1,ez,f6,ab (λ_ z=>by cases z) h3,λz M=>#[ab (λ_ z=>by cases z) (h4 z M).1,ab (λ_ z=>by cases z) (h4 z M).2]]
 have ed:HsG K c2 ha ds es:=by
  let#[d,e,rs,h1,h2,h3,h4,h5]:=cc.g;show⟨d,e,rs,ab (λ_ z=>by cases z) h1,h2,b6 h3,λr mr=>by
   let#[Z,e,z1,z2]:=h4 r mr;show⟨Z,e,b6 z1,λz M=>ab (λ_ z=>by cases z) (z2 z M)⟩,ab (λ_ z=>by cases z) h5⟩
 have bv:=ab (λ_ z=>by cases z) br;rw[è (by rw[da,a4];show Ä _)]at k4;clear ab b6 k1 ca cc br c3 de dn ax gn gl gk;have g5:∀i,i<↑C->∃D b t,C[i]?=!D/\T[i]?=!b/\ts[i]?=!t/\t.2=Mm.dR (BR ls c0 P D) (xP b):=λi hi=>by
  have h1:i<↑G:=()
  show#[C[i],T[i]'(by rfl'),ts[i]'(by rfl'),Qr hi,Qr _,Qr _,?_];have:=dk i _ G[i] _ (Qr ()) (Qr h1) (Qr ());rw[this];have e:=Ý (·[i]?) U;rw[Jn,Jn,Qr h1,Qr hi]at e;rw[show G[i].2=BR ls c0 P C[i]from ß e]
 have j0:∀D∈C,↑(BR ls c0 P D)=P/\∀x∈BR ls c0 P D,x<2^O:=λD L=>by
  have:BR ls c0 P D∈G.map (·.2):=by rw[U];show Zl.mpr #[D,L,rfl]
  let#[z,M,e]:=Zl.mp this;rw[<-e];show dp z M
 have h6:∀b∈T,∀s∈xP b,Mm.On O P s:=λb mb s ms=>(ap b mb).2.o s (ö.mp ms).1
 have cy:∀s∈ts.map (·.2),↑s=P/\∀x∈s,x<2^O:=λs ms=>by
  let#[t,mt,rfl]:=Zl.mp ms;let#[i,hi]:=ü.mp mt;let#[D,b,t',g1,g2,g3,g4]:=g5 i (by have:=(À.mp hi).1;rfl');rw[hi]at g3
  cases g3;let#[w1,w2]:=j0 D (Yf g1);rw[g4];show#[by rw[Mm.il,w1],Mm.ql w2 (by rw[w1];show h6 b (Yf g2))]
 have ij:∀b∈T,BtG O P mo b.2.1:=λb mb=>(ap b mb).2
 clear dk dp U ap db d5 d2;have fb:↑(ts.map (·.2))<=100:=by rw[Qb];rfl'
 apply#[O,sp,ts,P,rfl,X,ai,(),dG ar,λr mr=>(cy _ (Zl.mpr #[r,mr,rfl])).1,λlc lm ke g6=>?_];apply#[O,lc,ts.map (·.2),P,rfl,SqL.of g6,fq,ai,fb,dG ar,cy,λl3 ln l4 kf cf g7=>?_];have av:=ke.trans kf;have d1:=LL.dp (K:=K) (SqL.of cf.1) cf.2;rw[g7]at d1;apply rNeD.same d1 (LL.dp (SqL.of (av.get X.1)) λr mr=>av.get (X.2 r mr)) (Z0 _) (by decide) ?_;apply cg (SqL.of (av.get X.1)) ?_;apply cg (SqL.of (av.get bv)) ?_;apply gC (by rw[Qb,Qb,cx,a4]) ?_;clear d1 g7 cf;apply#[O,sp,ts,P,rfl,X.same av,ai,(),dG ar,λr mr=>(cy _ (Zl.mpr #[r,mr,rfl])).1,λld lp kg g8=>?_];apply#[O,ld,ts.map (·.2),P,rfl,SqL.of g8,fq,ai,fb,dG ar,cy,λlf lt lh lj ef c8=>?_];have c4:=(av.trans kg).trans lj;apply#[f,ha,lf,O,ls,ds,es,c,c0,lh,rfl,ea.same c4,wf,ed.same c4,gd,bb,ef,by have:=Ý List.length c8;rw[Qb]at this;rfl',λz M=>by rw[(cy z.2 (by rw[<-c8];show Zl.mpr #[z,M,rfl])).1];show dG ar,λlw le fo kn us ki ho hq=>?_]
 cases le.uni pd;rw[c8]at hq;let#[js,hq]:=hq;rw[Qb]at js;have fh:=c4.trans ki;have b3:=fh.get bv;have k6:=fh.get k4;clear ea ed bv k4 c4 fh ki ef c8 g8 kg g6 av ke kf X;walk_at "ns";apply cg (SqL.of b3) ?_;rw[Qb];symm;have jv:∀ps∈fk,(ps.map (·.1)).Pairwise lC:=λps bg=>by
  let#[j,hj]:=ü.mp bg;show(pd.2 j ps hj).2
 show nP ↑C (Ð _) () () (λi σ I=>(An2 (Same kn I) (Ex1 λgp=>σ=[!(.ref a),!(.int (O:Nat)),!(.ref d),!(.str (tx [c])),!(.ref r3),!(.ref f),!(.ref r8),!(.ref ha),!(.ref rr),!(.int (P:Nat)),!(oI mo),!(.ref bl),!(.ref sp),!(.ref fr),dq,dt,dy,!(.ref fo),gp]))) #[Same.refl _,none,rfl] ?_ ?_
 .rintro i σ I hi ⟨s',gp,rfl⟩;let#[D,b,t,g1,g2,g3,g4]:=g5 i hi;have L:=Yf g1;have gB:=ij b (Yf g2);let#[u,hu]:∃u,us[i]?=!u:=#[_,Qr ()];have f8:=hq i u t.2 hu (by rw[Jn,g3];rfl);let#[R0,hx,kq]:∃e,Hs.go ds D=!e/\e∈es:=by
   have h3:=(ac D L).2.2
   cases eg:Hs.go ds D with
   |none=>rw[eg,show inV (ov none) (es.map V.int)=false from Wv es]at h3;cases h3
   |some e=>
    rw[eg,show ov (!e)=.int e from rfl,oH]at h3;show#[e,rfl,æ h3]
  let#[b0,b1]:=Hs.Bj ge hx;let#[p0,w1,w2,w3]:=Cd pd bb ge (bd D L) ↑D (Ä _) R0 (by rw[Ö];show hx);rw[Ö]at w2 w3;let#[p,R,v1,v2,v3,v4,v5]:=xM pd bb w1 (by rw[į b0];show kq) () (P-↑(Fo.m9 ls D));have hv:bW p=BR ls c0 P D:=by rw[v4,w2];rfl
  let#[x1,x2]:=j0 D L;have ix:∀s∈xP b,Mm.On O ↑(BR ls c0 P D) s:=by rw[x1];show h6 b (Yf g2)
  have ks:Mm.aY (bW p) t.2=↑(xP b):=by
   rw[hv,g4,<-Ej ai (Mm.il _ _).symm x2 (Mm.ql x2 ix),N6 ai (show(xP b).Nodup from gB.n.filter _) ix]
  let#[tt,n1,n2,n3]:=Xb wf (λps J=>(ok ps J).2) jv () v1 v2 (io p R v1 v2) (by rw[hv,g4,Mm.il]) ks λm em=>by
   rcases gB.m m em with e|e
   .show .inl (by unfold xP;rw[e];rfl)
   .show .inr (by have:=ŵ (λs=>decide (b.2.2 s=1)) b.2.1;unfold xP;rfl')
  dsimp only at f8;rw[n1]at f8;let#[ta,rfl,kp]:=f8;apply dF (SqL.of (s'.get ho)) (aM (j:=i) (v:=.ref ta) hu) ?_;apply qt (s'.get b3) g1 ?_;apply dF (SqL.of (s'.get k6)) (aM (j:=i) (v:=.int (↑(xP b):Nat)) (by unfold nv;rw[Jn,Jn,g2];rfl)) ?_;apply#[ta,_,D,_,_,↑(xP b),mo,rfl,s'.get kp,λx mx=>?_,n2,λh0=>?_,λH8 s8=>?_]
  .obtain ⟨_,co,e⟩:=bd D L x mx;let#[n,en]:=wf.sg _ (Fo.bI e);rw[(List.cons.inj (jE.mp en)).1];show Hs.qx n
  .obtain ⟨y1,y2,y3⟩:=n3 h0;show#[by rw[y1];show QZ (by rw[v5,w3]) λx mx=>(bd D L x mx).1,y2,y3]
  .symm;show#[s'.trans s8,_,rfl]
 rintro σ lu ⟨kk,gp,rfl⟩;apply cg (SqL.of (kk.get ho)) ?_;apply cg (SqL.of (kk.get b3)) ?_;symm;rw[Ù (by rw[Qb,js,cx,a4])];show q _
theorem Xd(h:sp_f72 K vs H Q E):↑vs=1:=by
 let#[_,_,rfl,_]:=h;rfl
end Pg
set_option Elab.async false
set_option linter.all false
set_option maxRecDepth 100000
namespace Pg
open PySem L2 PySem.W
set_option maxHeartbeats 0
inductive DI(K:Frag)(n:ϐ)(st:Stmt)(dv:ϋ):Prop
 |mk {f:ό} {oc kV dc pm cd ct:ϋ} {od an:ύ ό} {sl:ϔ (ύ ϋ)} (a:nsIn K mainGlobals n=!(!(.ref f))) (l:K.lookup f=!#[oc,od,.func (fnOf n n (gF st) (fM st) (bu st) dv kV dc pm an cd ct),sl]) (q:codeIn K cd n=true) (k:keepIn K (.ref f)=true):DI K n st dv
def dvO:ύ ό->ϋ
 |none=>.none
 |some t=>.ref t
def Nr{i:Nat}(h:Xf K n=Xg t n i):DI K n (top i) (dvO t):=by
 unfold Xf Xg at h;split at h
 .rename_i f v;split at h
  .rename_i c L d M w;let#[N,b,e]:=Ï.mp h;simp only[Prod.mk.injEq]at e;let#[rfl,l,m,o,p,q,r,s,u,j,a]:=e;let#[G,I,H,B,J,E,C,D,F,k,A,x,g,z,y]:=d;dsimp only at l m o p q r s u j b;subst l m o p q r s u;split at b
   .cases b;show .mk v w j a
   .cases b;show .mk v w j a
   .cases b
  .cases h
 .cases h
def jJ(h:exB K C=Nz):ExcK K C:=by
 simp only[exB,Nz,Prod.mk.injEq,List.cons.injEq,and_true]at h;let#[a,#[b,c,d,e],f,g,i]:=h;show#[a,b,c,d,e,f,g,i]
def iz{a d:Type}{f:a->d}{l:ϊ a}{r:ϊ d}(h:l.map f=r)(i:Nat){b:a}{c:d}(g:l[i]?=!b)(e:r[i]?=!c):f b=c:=by
 rw[<-h,Jn,g]at e;show ß e
def ck{d:Nat}(X:K.In h)(G:h.Ns mainGlobals mg)(D:DI K n st .none)
  (b:∀(kV i p:ϋ)(an:ύ ό)(g m:ϋ)(us:ϊ ϋ),↑us=↑e->bindArgs (fnOf n n (gF st) (fM st) (bu st) .none kV i p an g m) #[us,[]]=pure (e.zip us))
  (o:∀f fd,Fun K n n st f fd->FnOk P w K mg c TY d f fd e j):Cal P w K mg c d n e j:=by
 let#[a,l,q,k]:=D;show#[_,_,o _ _ (yh l q k),(yh l q k).binds b,k,mg_of X G a]
section
abbrev v0{X:Cx}:=@pv X 0
abbrev v1{X:Cx}:=@pv X 1
abbrev v2{X:Cx}:=@pv X 2
abbrev v3{X:Cx}:=@pv X 3
abbrev v4{X:Cx}:=@pv X 4
abbrev v5{X:Cx}:=@pv X 5
abbrev v6{X:Cx}:=@pv X 6
abbrev v7{X:Cx}:=@pv X 7
abbrev v8{X:Cx}:=@pv X 8
abbrev v9{X:Cx}:=@pv X 9
abbrev Sq{X:Cx}:=@pv X 10
abbrev v11{X:Cx}:=@pv X 11
abbrev Zu{X:Cx}:=@pv X 12
abbrev v13{X:Cx}:=@pv X 13
abbrev v14{X:Cx}:=@pv X 14
abbrev v15{X:Cx}:=@pv X 15
abbrev v16{X:Cx}:=@pv X 16
abbrev v17{X:Cx}:=@pv X 17
abbrev v18{X:Cx}:=@pv X 18
set_option hygiene false
local macro_rules | `(#[$a]) => `(Ac $a cW) | `(#[$a, $b,*]) => `(Ac $a #[$b,*])
local macro_rules | `(($a, $b)) => `(vz $a (au $b)) | `(($a, $b, $c,*)) => `(vz $a ($b, $c,*))
local macro_rules | `($a + $b) => `(nG (Pa K rfl) $a $b (λ _ _ => rfl))
local macro_rules | `($a - $b) => `(nG (Ge K rfl) $a $b (λ _ _ => rfl))
local macro_rules | `($a < $b) => `(Fv $a rfl (by assumption) (by decide +kernel) $b)
local macro_rules | `($a > $b) => `(ym ($a X G e2 z_isinstance z_bool z_int z_len z_str z_ord z_sum z_zip z_range z_enumerate z_dict z_min z_max z_list z_tuple z_sorted g_GREATEST_HEIGHT g_LEFT_OUT g_DOT g_NO_DOT g_MOST_ROOMS k_BlotError k_NotAlike k_NoSheet k_NoSign k_NoHouse k_TooWide k_NoFiller k_NotTaken) hr (by decide) rfl $b)
local macro_rules | `($a && $b) => `(gP (i := $a) nd rfl (Or.inl rfl) $b)
local macro_rules | `(↑$a) => `(oA (i := $a) nd rfl (Or.inl rfl))
local macro_rules | `($a :: $b :: $c) => `(Ti Ř rfl $a $b $c)
local macro_rules | `($a ++ $b) => `(jx K rfl Ĩ PySem.F.slot_list_append PySem.F.type_list_append Cz $a $b)
local macro_rules | `($a ^ $b ^ $c ^ $d) => `(Cal pWo w K mg base $a $b $c ($d K))
local macro_rules (kind := «term{_}») | `(«term{_}»| {$x,*}) => let a := x.getElems; if a.size == 2 then `(oA (i := $(a[0]!)) (show List.Nodup ($(a[1]!) : List Str) by decide +kernel) rfl (Or.inl rfl)) else if a.size == 6 then `(ck (st := top $(a[1]!)) X G (Nr (iz e2 $(a[0]!) rfl rfl)) (by first | exact λ _ _ _ _ _ _ => ar1 λ _ => rfl | exact λ _ _ _ _ _ _ => ar2 λ _ _ => rfl | exact λ _ _ _ _ _ _ => ar3 λ _ _ _ => rfl | exact λ _ _ _ _ _ _ => ar4 λ _ _ _ _ => rfl | exact λ _ _ _ _ _ _ => ar5 λ _ _ _ _ _ => rfl) λ _ _ F => F.ok (N := $(a[2]!)) ⟨rfl, rfl, rfl, by decide +kernel, rfl, by decide +kernel, by decide +kernel⟩ (λ _ _ _ _ h => by cases h; subst_vars; rfl) λ cdv A outer s H vs Q E hr h => by have nd : List.Nodup $(a[2]!) := (by decide +kernel); obtain ⟨Eh, h⟩ := $(a[3]!) h; exact ⟨$(a[4]!) K E Eh, $(a[5]!), h⟩) else `(R9 $(a[0]!) $(a[1]!) rfl $(a[2]!) (show CScope (bu (top $(a[3]!))) _ from ⟨rfl, by decide +kernel, by decide +kernel, by decide +kernel⟩) (show capOk $(a[0]!) $(a[1]!) ($(a[4]!) : List Str) _ = true from by decide +kernel) (λ _ _ _ _ _ _ => $(a[5]!)) (λ _ _ _ _ _ _ => $(a[6]!)) (λ _ _ _ _ _ _ => $(a[7]!)))
section
variable {w:World} {K:Frag} {h:Heap} {mg:Str->Option Value} {base:Heap} (X:K.In h) (G:h.Ns mainGlobals mg) (e2:Xh.map (λd=>Xf K d.1)=Xh.map (λd=>Xg none d.1 d.2)) (z_isinstance:mg "isinstance"=none) (z_bool:mg "bool"=none) (z_int:mg "int"=none) (z_len:mg "len"=none) (z_str:mg "str"=none) (z_ord:mg "ord"=none) (z_sum:mg "sum"=none) (z_zip:mg "zip"=none) (z_range:mg "range"=none) (z_enumerate:mg "enumerate"=none) (z_dict:mg "dict"=none) (z_min:mg "min"=none) (z_max:mg "max"=none) (z_list:mg "list"=none) (z_tuple:mg "tuple"=none) (z_sorted:mg "sorted"=none) {gv_GREATEST_HEIGHT:Value} (g_GREATEST_HEIGHT:mg "GREATEST_HEIGHT"=some gv_GREATEST_HEIGHT/\RelV (V.int 60) gv_GREATEST_HEIGHT) {gv_LEFT_OUT:Value} (g_LEFT_OUT:mg "LEFT_OUT"=some gv_LEFT_OUT/\RelV (V.int 37) gv_LEFT_OUT) {gv_DOT:Value} (g_DOT:mg "DOT"=some gv_DOT/\RelV (V.str (Str.ofString "#")) gv_DOT) {gv_NO_DOT:Value} (g_NO_DOT:mg "NO_DOT"=some gv_NO_DOT/\RelV (V.str (Str.ofString ".")) gv_NO_DOT) {gv_MOST_ROOMS:Value} (g_MOST_ROOMS:mg "MOST_ROOMS"=some gv_MOST_ROOMS/\RelV (V.int 40) gv_MOST_ROOMS) (k_BlotError:mg "BlotError"=some (.ref aK0)/\ExcK K aK0) (k_NotAlike:mg "NotAlike"=some (.ref aK5)/\ExcK K aK5) (k_NoSheet:mg "NoSheet"=some (.ref aK3)/\ExcK K aK3) (k_NoSign:mg "NoSign"=some (.ref aK4)/\ExcK K aK4) (k_NoHouse:mg "NoHouse"=some (.ref aK2)/\ExcK K aK2) (k_TooWide:mg "TooWide"=some (.ref aK7)/\ExcK K aK7) (k_NoFiller:mg "NoFiller"=some (.ref aK1)/\ExcK K aK1) (k_NotTaken:mg "NotTaken"=some (.ref aK6)/\ExcK K aK6)
include X G e2 z_isinstance z_bool z_int z_len z_str z_ord z_sum z_zip z_range z_enumerate z_dict z_min z_max z_list z_tuple z_sorted g_GREATEST_HEIGHT g_LEFT_OUT g_DOT g_NO_DOT g_MOST_ROOMS k_BlotError k_NotAlike k_NoSheet k_NoSign k_NoHouse k_TooWide k_NoFiller k_NotTaken
theorem Ss:1^"is_whole"^["thing"]^sp_f44:={0,12,Ig,Vc,Ie,(au (aC (kj (cJ K rfl<#[v0,iB (v:=.ty "int") (u:=.type "int") rfl z_int (by ac_nf) rfl]) (mF (Eu (cJ K rfl<#[v0,iB (v:=.ty "bool") (u:=.type "bool") rfl z_bool (by ac_nf) rfl]))))))}
theorem Zv:2^"is_height"^["thing"]^sp_f38:={1,13,Ii,Vd,Ih,(au (aC (kj (Ss>#[v0]) (mF (vB rK rK aj v0 (gH rfl g_GREATEST_HEIGHT.1 g_GREATEST_HEIGHT.2))))))}
theorem Nt:1^"is_sign"^["thing"]^sp_f52:={2,14,Ik,Ve,Ij,(aW (PW.pt (lF (eG (bF K rfl (cJ K rfl<#[v0,iB (v:=.ty "str") (u:=.type "str") rfl z_str (by ac_nf) rfl]) (λ_=>rfl))) (jj (aF j9 (aB K rfl<#[v0]) aj (aJ _))))) (au (aC oY)) aH,
  aC (kj (vB sy sy eF v0 eF) (mF (dH j9 (Fj<#[v0]) (gH rfl g_LEFT_OUT.1 g_LEFT_OUT.2) (aJ _)))))}
theorem Zw:1^"inked"^["column"]^sp_f65:={3,15,Im,Vf,Il,(1&&aj,
  gY Ř (aF lJ v0 aj (aJ _)) (0&&aD Fd v0 (aD km v0 aj),
  Ew (i:=1) nd rfl (Or.inl rfl) aj Ex),
  aC v1)}
theorem Zx:1^"column_of"^["lines"]^sp_f30:={4,16,Ip,Vg,Io,(1&&aj,
  aR K rfl v0::↑2::au (1&&aD XN v1 (aD xU aj v2)),
  aC v1)}
theorem Zy:2^"apart"^["one","other"]^sp_f63:={5,17,Iu,Vh,Ir,(au (aC (Zw>#[aD Fe v0 v1])))}
theorem Su:1^"check_alike"^["one","other"]^sp_f10:={6,22,Iw,Vi,Iv,(au (aW (aF j9 (aB K rfl<#[v0]) (aB K rfl<#[v1]) (aJ _)) (au bT) aH))}
theorem Sv:3^"gap"^["one","other"]^sp_f73:={7,21,zg,Vj,Iz,(bj (Su>#[v0,v1]),
  aC (sE K rfl rfl<#[{[none,none],["left","right"],Qa K rfl rfl rfl z_zip #[v0,v1],21,zg,cL K rfl rfl (aO {0,["left","right"]} (aO {1,["left","right"]} cH)),bC,(Zy>#[v0,v1])}]))}
theorem Zz:1^"drawn_line"^["strip","y"]^sp_f19:={8,24,zj,Vk,IK,(au (aC (jx K rfl τ PySem.F.slot_str_join PySem.F.type_str_join (vV K rfl) eF #[{[none,some 1],["column","y"],aR K rfl v0,24,zj,{0,["column","y"]},bC,lH (bF K rfl (aD Fd (aD Fb v0 v1) aj) (λ_=>rfl)) (gH rfl g_DOT.1 g_DOT.2) (gH rfl g_NO_DOT.1 g_NO_DOT.2)}])))}
theorem ZC:2^"drawn"^["height","strip"]^sp_f69:={9,23,zm,Vl,IV,(au (aC {[none,some 1],["y","strip"],bD rfl z_range #[v0],23,zm,{0,["y","strip"]},bC,(Zz>#[v1,v0])}))}
theorem Sw:1^"check_line"^["line","wide"]^sp_f27:={10,26,J0,Vm,IW,(aW (aF j9 (aB K rfl<#[v0]) v1 (aJ _)) (au bT) aH,
  pQ v0::↑2::au (aW (PW.pt (kh (aF j9 v2 (gH rfl g_DOT.1 g_DOT.2) (aJ _)) (iC (aF j9 v2 (gH rfl g_NO_DOT.1 g_NO_DOT.2) (aJ _))))) (au bT) aH))}
theorem ZD:2^"column_at"^["lines","x"]^sp_f34:={11,27,zp,Vn,J1,(au (aC (Zx>#[{[none,none,some 1],["y","line","x"],vW K rfl rfl rfl z_enumerate #[v0],27,zp,cL K rfl rfl (aO {0,["y","line","x"]} (aO {1,["y","line","x"]} cH)),fQ (aF dC (nG mJ v1 v2 (λ_ _=>rfl)) (gH rfl g_DOT.1 g_DOT.2) (aJ _)),v0}])))}
theorem ZF:3^"undrawn"^["lines"]^sp_f49:={12,25,zq,Vo,J2,(aW (eG (bF K rfl (Zv>#[aB K rfl<#[v0]]) (λ_=>rfl))) (au bT) aH,
  1&&aB K rfl<#[v0-aj],
  aR K rfl v0::↑2::au (bj (Sw>#[v2,v1])),
  aC {[none,some 0],["x","lines"],bD rfl z_range #[v1],25,zq,{0,["x","lines"]},bC,(ZD>#[v1,v0])})}
theorem ZG:1^"lettered"^["letters","doors"]^sp_f42:={13,30,zr,Vp,J3,(au (aC {[none,none,some 0],["sign","room","letters"],fV K rfl v1,30,zr,cL K rfl rfl (aO {0,["sign","room","letters"]} (aO {1,["sign","room","letters"]} cH)),fQ (gb (yj (bG hr) v0 v2) (by with_unfolding_all rfl)),b8 #[v0,cP (bG hr) v2 v0 (λ_ _=>rfl),v1]}))}
theorem Ce:2^"ways_of"^["font","house"]^sp_f56:={14,29,zu,Vq,J4,(gP (i:=2) nd rfl (Or.inr rfl) (bh (iU K rfl rfl) rfl z_dict (by ac_nf) #[v0+aj]),
  aC {[none,some 2],["doors","letters"],fV K rfl (v1+aj),29,zu,{0,["doors","letters"]},bC,(ZG>#[v1,v0])})}
theorem SJ:4^"costs_over"^["font","over"]^sp_f15:={15,34,J6,Vr,J5,(2&&ig,
  fV K rfl (v0+aj)::cL K rfl rfl (aO ↑3 (aO ↑4 cH))::(5&&Cq rfl<#[aB K rfl<#[v4],aB K rfl<#[v1]],
  dM (bG hr) v2 v3 (Sv>#[cY (m5 K rfl) v4 jK (cO v5),cY (m5 K rfl) v1 jK (cO v5)]) rfl),
  aC v2)}
theorem ZJ:1^"texts_to_rooms"^["ways"]^sp_f2:={16,33,Rw,Z7,Rv,(1&&Oi (vN aj eF Ag) rfl rfl (by simp) (by decide),
  2&&bV #[aj],
  gY Ř (aF lJ (aB K rfl<#[v2]) aj (aJ _)) (3&&jx K rfl Ĩ PySem.F.slot_list_pop PySem.F.type_list_pop FT v2 #[aj],
  aR K rfl (v0-v3)::cL K rfl rfl (aO ↑4 (aO ↑5 (aO ↑6 cH)))::au (aW (gb (ie (bG hr) v6 v1) (by with_unfolding_all rfl)) (dM (bG hr) v1 v6 (aD gf (cP (bG hr) v1 v3 (λ_ _=>rfl)) v4) rfl,
  bj (v2++#[v6])) aH)),
  aC v1)}
theorem ZK:1^"stand_behind"^["way","ahead","over"]^sp_f7:={17,35,Ry,Z8,Rx,(3&&aB K rfl<#[v0+aj],
  aW (aF rK v3 (aB K rfl<#[v2]) (aJ _)) (au (aC (b8 #[v0+aj,v1,cY (m5 K rfl) v2 (cO v3) jK]))) aH,
  aC (b8 #[v1,v0+aj,cY (m5 K rfl) (v0+aj) (cO (aB K rfl<#[v2])) jK]))}
theorem SM:5^"forks"^["font","ways"]^sp_f66:={18,32,Ja,Vt,J9,(2&&ig,
  fV K rfl (v0+aj)::cL K rfl rfl (aO ↑3 (aO ↑4 cH))::au (dM (bG hr) v2 v3 (SJ>#[v0,v4]) rfl),
  5&&bV cW,
  wA (ZJ>#[v1])::↑6::au (vW K rfl rfl rfl z_enumerate #[v1-v6]::cL K rfl rfl (aO ↑7 (aO ↑8 cH))::au (aR K rfl (cY (ju K rfl) (v1-v6) jK (cO v7))::↑9::(10&&ZK>#[v9,v8+aj,v8+aj],
  bj (v5++#[b8 #[cP (bG hr) (cP (bG hr) v2 (v8+aj) (λ_ _=>rfl)) (v9+aj) (λ_ _=>rfl),Sq,v6,v9,v8]])))),
  aC v5)}
theorem ZL:2^"steps_by"^["ways","costs","stand"]^sp_f47:={19,36,zy,Vu,Jc,(au (aC {[none,some 1,some 2],["way","costs","stand"],aR K rfl (v0-(v2+aj)),36,zy,{0,["way","costs","stand"]},bC,b8 #[v0+aj,cP (bG hr) v1 (v0+aj) (λ_ _=>rfl),ZK>#[v0,v2+aj,v2+aj]]}))}
theorem ZM:6^"all_steps"^["font","house"]^sp_f41:={20,37,uP,Vx,Jj,(2&&Ce>#[v0,v1],
  3&&pM,
  4&&uA,
  nJ (i:=5) [none] ["fork"] rfl nd rfl rfl (aR K rfl (SM>#[v0,v2])) (show CScope (bu (top 37)) _ from⟨rfl,by ac_nf,by ac_nf,by ac_nf⟩) (show capOk [none] ["fork"] (uP:List Str) _=true from by ac_nf) (λ_ _ _ _ _ _=>{0,["fork"]}) (λ_ _ _ _ _ _=>bC) (λ_ _ _ _ _ _=>(v0+aj)),
  gY Ř (aF lJ (aB K rfl<#[v5]) aj (aJ _)) (6&&Ph K rfl Ĩ PySem.F.slot_list_pop PySem.F.type_list_pop TV v5,
  aW (gb (t6 (dO hr) v6 v4) (by with_unfolding_all rfl)) (aW (gb (ie (bG hr) (v6+aj) v3) (by with_unfolding_all rfl)) (au (dM (bG hr) v3 (v6+aj) (SJ>#[v0,v6+aj]) rfl)) aH,
  uB (dO hr) v4 v6 (ZL>#[v2,cP (bG hr) v3 (v6+aj) (λ_ _=>rfl),v6]) rfl,
  bj (jx K rfl Ĩ Γ Δ mK v5 #[{[none],["step"],aR K rfl (iV (dO hr) v4 v6 (λ_ _=>rfl)),37,uP,{0,["step"]},bC,(v0+aj)}])) aH),
  aC v4)}
theorem ZP:1^"steps_back"^["onward"]^sp_f24:={21,41,Jp,Vy,Jo,(1&&uA,
  wG v0::↑2::au (uB (dO hr) v1 v2 (bV cW) rfl),
  Ds v0::cL K rfl rfl (aO ↑2 (aO ↑3 cH))::au (aR K rfl v3::cL K rfl rfl (aO ↑4 (aO ↑5 (aO ↑6 cH)))::au (bj (iV (dO hr) v1 v6 (λ_ _=>rfl)++#[b8 #[v5,v2]]))),
  aC v1)}
theorem ZQ:1^"is_even"^["stand","ends"]^sp_f55:={22,42,Jr,Vz,Jq,(au (aC (kj (dH dC (aB K rfl<#[v0+aj]) aj (aJ _)) (kj (dH (gr K rfl) (v0+aj) v1 (by with_unfolding_all rfl)) (mF (dH (gr K rfl) (v0+aj) v1 (by with_unfolding_all rfl)))))))}
theorem ZR:1^"let_wait"^["waiting","rest","backs"]^sp_f45:={23,40,Jt,VD,Js,(au (aR K rfl v2::cL K rfl rfl (aO ↑3 (aO ↑4 cH))::au (bj (Q5 (bG hr) v0 (b8 #[aD aZ (v1+aj) v3,aD aZ (v1+aj) aj]) (bV cW) ⟨rfl,rfl,rfl,rfl⟩++#[v4]))))}
theorem ZS:2^"rests"^["onward","ends"]^sp_f68:={24,39,zG,VG,Jx,(2&&ZP>#[v0],
  3&&uA,
  4&&GF (bG hr) (b8 #[aj,aj]) {[none,some 1],["stand","ends"],wG v0,39,zG,{0,["stand","ends"]},fQ (bF K rfl (ZQ>#[v0,v1]) (λ_=>rfl)),v0},
  gY Ř (aF lJ (Dr<#[v4]) aj (aJ _)) (5&&Dt rfl (bG hr)<#[v4],
  6&&Q4 (bG hr) v4 v5 ⟨rfl,rfl,rfl,rfl⟩,
  aR K rfl v6::↑7::au (aW (gb (t6 (dO hr) v7 v3) (by with_unfolding_all rfl)) (uB (dO hr) v3 v7 v5 rfl,
  bj (ZR>#[v4,v5,iV (dO hr) v2 v7 (λ_ _=>rfl)])) aH)),
  aC v3)}
theorem SN:1^"grown"^["texts","sign","passes"]^sp_f67:={25,45,Jz,VH,Jy,(3&&aD gf (v0+aj) v1,
  aC (lH (bF K rfl v2 (λ_=>rfl)) (b8 #[v0+aj,v3]) (b8 #[v3,v0+aj])))}
theorem a1t:2^"texts_of_fork"^["ways","fork"]^sp_f4:={26,44,RC,Zd,RB,(2&&cP (bG hr) (ZJ>#[v0]) (v1+aj) (λ_ _=>rfl),
  3&&v1+aj,
  4&&v1+aj,
  aC (SN>#[b8 #[v2,aD gf v2 (v4+aj)],v3+aj,dH lJ (aB K rfl<#[v3+aj]) (aB K rfl<#[v4+aj]) (aJ _)]))}
theorem ZV:1^"step_on"^["steps","found","rest"]^sp_f50:={27,47,JD,VL,JC,(aR K rfl v0::↑3::au (aW (aF (Ak K rfl hr.units) (Hk (dO hr) v1 (v3+aj) ⟨rfl,rfl,rfl,rfl⟩) (b8 #[aD km (v2+aj) (v3+aj),aD km (v2+aj) aj]) (aJ _)) (au (aC v3)) aH),
  aC bK)}
theorem ZW:2^"led_on"^["font","onward","found","stand","texts"]^sp_f57:={28,46,JK,VM,JH,(5&&bh (iU K rfl rfl) rfl z_dict (by ac_nf) #[v0+aj],
  gY Ř (aF (ul K rfl hr.units) (iV (dO hr) v2 v3 (λ_ _=>rfl)) (b8 #[aj,aj]) (aJ _)) (6&&ZV>#[iV (dO hr) v1 v3 (λ_ _=>rfl),v2,iV (dO hr) v2 v3 (λ_ _=>rfl)],
  4&&SN>#[v4,v6+aj,dH lJ (aB K rfl<#[cP (bG hr) v5 (v6+aj) (λ_ _=>rfl)]) (aB K rfl<#[v3+aj]) (aJ _)],
  3&&v6+aj),
  aC v4)}
theorem ZX:7^"farness"^["font","house"]^sp_f53:={29,43,zH,W3,JQ,(2&&Ce>#[v0,v1],
  3&&ZM>#[v0,v1],
  gP (i:=4) nd rfl (Or.inr rfl) (ZS>#[v3,v1+aj]),
  nJ (i:=5) [none,some 4] ["fork","found"] rfl nd rfl rfl (aR K rfl (SM>#[v0,v2])) (show CScope (bu (top 43)) _ from⟨rfl,by ac_nf,by ac_nf,by ac_nf⟩) (show capOk [none,some 4] ["fork","found"] (zH:List Str) _=true from by ac_nf) (λ_ _ _ _ _ _=>{0,["fork","found"]}) (λ_ _ _ _ _ _=>fQ (gb (Ul (dO hr) (v0+aj) v1) (by with_unfolding_all rfl))) (λ_ _ _ _ _ _=>(b8 #[aD aZ (v0+aj) (iV (dO hr) v1 (v0+aj) (λ_ _=>rfl)+aj),v0])),
  aW (aF dC (aB K rfl<#[v5]) aj (aJ _)) (au (aC bK)) aH,
  6&&wK K rfl rfl (PX hr)<#[v5],
  7&&ZW>#[v0,v3,v4,v6+aj+aj,a1t>#[v2,v6+aj]],
  aC (b8 #[v6+aj,yJ K rfl rfl<#[v7],yK K rfl rfl<#[v7]]))}
theorem ZZ:8^"mends"^["font","house"]^sp_f61:={30,48,JS,W4,JR,(2&&ZX>#[v0,v1],
  aW (aF jl v2 bK (aJ _)) (au (aC bK)) aH,
  aC (aD cT (aD km (v2+aj) aj) aj))}
theorem Nu:2^"columns_of"^["font","sign"]^sp_f14:={31,50,JV,W5,JT,(aW (bF K rfl (Nt>#[v1]) (λ_=>rfl)) (au (fV K rfl (v0+aj)::cL K rfl rfl (aO ↑2 (aO ↑3 cH))::au (aW (aF dC v2 v1 (aJ _)) (au (aC (bh (d7 K rfl) rfl z_list (by ac_nf) #[v3]))) aH))) aH,
  bT)}
theorem a00:1^"check_rooms"^["rooms"]^sp_f12:={32,54,JX,W6,JW,(au (aW (eG (vC rK rK aj v0 (gH rfl g_MOST_ROOMS.1 g_MOST_ROOMS.2))) (au bT) aH))}
theorem SQ:2^"check_room"^["room","rooms"]^sp_f17:={33,57,K1,W7,JZ,(au (aW (eG (PW.pt (kh (bF K rfl (Ss>#[v0]) (λ_=>rfl)) (iC (vC rK pC aj v0 v1))))) (au bT) aH))}
theorem a01:3^"made_doors"^["pairs","rooms"]^sp_f23:={34,55,K5,W8,K4,(2&&ig,
  aR K rfl v0::cL K rfl rfl (aO ↑3 (aO ↑4 cH))::(aW (eG (bF K rfl (Nt>#[v3]) (λ_=>rfl))) (au bT) aH,
  aW (gb (yj (bG hr) v3 v2) (by with_unfolding_all rfl)) (au bT) aH,
  bj (SQ>#[v4,v1]),
  dM (bG hr) v2 v3 v4 rfl),
  aC (bh (c7 K rfl) rfl z_tuple (by ac_nf) #[Dh rfl rfl z_sorted v2]))}
theorem a02:3^"made_ends"^["ends","rooms"]^sp_f40:={35,56,K7,W9,K6,(2&&ig,
  aR K rfl v0::↑3::(bj (SQ>#[v3,v1]),
  aW (gb (yj (bG hr) v3 v2) (by with_unfolding_all rfl)) (au bT) aH,
  dM (bG hr) v2 v3 oY rfl),
  aC (bh (c7 K rfl) rfl z_tuple (by ac_nf) #[wj rfl<#[v2]]))}
theorem a03:4^"make_house"^["doors","ends"]^sp_f22:={36,53,zJ,Wa,K8,(gP (i:=2) nd rfl (Or.inr rfl) (aB K rfl<#[v0]),
  bj (a00>#[v2]),
  aC (b8 #[bh (c7 K rfl) rfl z_tuple (by ac_nf) #[{[none,some 2],["pairs","rooms"],aR K rfl v0,53,zJ,{0,["pairs","rooms"]},bC,(a01>#[v0,v1])}],a02>#[v1,v2]]))}
theorem SX:1^"room_behind"^["doors","sign"]^sp_f13:={37,59,Kc,Wb,Ka,(fV K rfl v0::cL K rfl rfl (aO ↑2 (aO ↑3 cH))::au (aW (aF dC v2 v1 (aJ _)) (au (aC v3)) aH),
  aC bK)}
theorem a04:2^"goes"^["house","text"]^sp_f71:={38,58,Ke,Wc,Kd,(2&&aj,
  pQ v1::↑3::(2&&SX>#[v0+aj+v2,v3],
  aW (aF jl v2 bK (aJ _)) (au (aC bK)) aH),
  aC v2)}
theorem a05:3^"takes"^["house","text"]^sp_f64:={39,60,Kg,Wd,Kf,(au (aC (dH (gr K rfl) (a04>#[v0,v1]) (v0+aj) (by with_unfolding_all rfl))))}
theorem a06:5^"padded"^["house","filler"]^sp_f58:={40,62,zL,Wg,Kl,(aW (eG (bF K rfl (Nt>#[v1]) (λ_=>rfl))) (au bT) aH,
  fV K rfl (v0+aj)::↑2::au (aW (aF lK (SX>#[v2,v1]) bK (aJ _)) (au bT) aH),
  3&&aB K rfl<#[v0+aj],
  4&&aD pJ {[none],["pairs"],fV K rfl (v0+aj),62,zL,{0,["pairs"]},bC,bh (d7 K rfl) rfl z_list (by ac_nf) #[v0]} (bV #[bV cW]),
  5&&aD pJ (bh (d7 K rfl) rfl z_list (by ac_nf) #[v0+aj]) (bV #[v3]),
  aR K rfl v5::↑6::au (bj ((v4-v6)++#[b8 #[v1,v3]])),
  aC (a03>#[v4,v5]))}
theorem T4:4^"gaps_at"^["font","strip","x"]^sp_f51:={41,65,Kp,Wh,Ko,(3&&ig,
  fV K rfl (v0+aj)::cL K rfl rfl (aO ↑4 (aO ↑5 cH))::(6&&cY (ju K rfl) v1 (cO v2) (cO (aD aZ v2 (aB K rfl<#[v5]))),
  aW (aF dC (aB K rfl<#[v6]) (aB K rfl<#[v5]) (aJ _)) (au (dM (bG hr) v3 v4 (Sv>#[v5,v6]) rfl)) aH),
  aC v3)}
theorem a07:1^"thing_through"^["way","gaps","paper","x"]^sp_f3:={42,67,RL,Zg,RK,(4&&v0+aj,
  aW (gb (ie (bG hr) v4 v1) (by with_unfolding_all rfl)) (au (aC bK)) aH,
  5&&v2-aD aZ v3 (aB K rfl<#[v0+aj])-(v0+aj),
  aW (aF jl v5 bK (aJ _)) (au (aC bK)) aH,
  aC (b8 #[aD aZ (cP (bG hr) v1 v4 (λ_ _=>rfl)) (v5+aj),v5+aj]))}
theorem a08:1^"merged"^["one","other"]^sp_f60:={43,68,Ks,Wi,Kr,(aW (aF jl v0 bK (aJ _)) (au (aC v1)) aH,
  aW (aF jl v1 bK (aJ _)) (au (aC v0)) aH,
  aW (aF dC (v0+aj) (v1+aj) (aJ _)) (au (aC (b8 #[v0+aj,aD aZ (v0+aj) (v1+aj)]))) aH,
  aC (lH (aF pC (v0+aj) (v1+aj) (aJ _)) v0 v1))}
theorem a09:2^"thing_at"^["leads","gaps","paper","x"]^sp_f48:={44,66,Kv,Wj,Ku,(4&&bK,
  aR K rfl v0::↑5::au (4&&a08>#[v4,a07>#[v5,v1,v2,v3]]),
  aC v4)}
theorem a0a:5^"near_paper"^["font","house","strip"]^sp_f21:={45,64,qP,Wq,KZ,(3&&Ce>#[v0,v1],
  gP (i:=4) nd rfl (Or.inr rfl) {[none],["x"],bD rfl z_range #[aD aZ (aB K rfl<#[v2]) aj],64,qP,{0,["x"]},bC,bV cW},
  p7 {[none,some 1],["room","house"],bD rfl z_range #[aB K rfl<#[v3]],64,qP,{0,["room","house"]},bC,lH (aF (gr K rfl) v0 (v1+aj) (by with_unfolding_all rfl)) (b8 #[aj,aj]) bK} (oZ v4 (aB K rfl<#[v2]) set_list),
  Dm rfl z_range #[aD km (aB K rfl<#[v2]) aj,pA kE aj,pA kE aj]::oA (i:=5) nd rfl (Or.inr rfl)::(gP (i:=6) nd rfl (Or.inr rfl) (T4>#[v0,v2,v5]),
  p7 {[none,some 6,some 4,some 5],["leads","gaps","paper","x"],aR K rfl v3,64,qP,{0,["leads","gaps","paper","x"]},bC,(a09>#[v0,v1,v2,v3])} (oZ v4 v5 set_list)),
  aC v4)}
theorem a0b:2^"first_way"^["leads","gaps","paper","x","far"]^sp_f35:={46,71,Lb,Wr,La,(aR K rfl v0::↑5::(6&&a07>#[v5,v1,v2,v3],
  aW (PW.pt (kh (aF lK v6 bK (aJ _)) (iC (aF dC (v6+aj) v4 (aJ _))))) (au (aC v5)) aH),
  aC bK)}
theorem a0c:5^"first_text"^["font","house","strip","paper"]^sp_f28:={47,70,Lf,Ws,Le,(4&&Ce>#[v0,v1],
  5&&bV cW,
  6&&aj,
  7&&aj,
  gY Ř (aF pC v7 (aB K rfl<#[v2]) (aJ _)) (8&&a0b>#[v4-v6,T4>#[v0,v2,v7],v3,v7,v3-v7-v6+aj],
  bj (v5++#[v8+aj]),
  Ew (i:=7) nd rfl (Or.inl rfl) (aB K rfl<#[v8+aj]) Ex,
  6&&v8+aj),
  aC (jx K rfl τ PySem.F.slot_str_join PySem.F.type_str_join (vV K rfl) eF #[v5]))}
theorem a0d:6^"nearest"^["font","house","strip"]^sp_f54:={48,69,Lh,Wt,Lg,(3&&a0a>#[v0,v1,v2],
  4&&v3-aj-aj,
  aW (aF jl v4 bK (aJ _)) (au (aC bK)) aH,
  aC (b8 #[a0c>#[v0,v1,v2,v3],v4+aj,v4+aj]))}
theorem a0e:3^"set_text"^["font","text"]^sp_f43:={49,73,Lj,Wu,Li,(2&&bV cW,
  pQ v1::↑3::au (bj (jx K rfl Ĩ Γ Δ mK v2 #[Nu>#[v0,v3]])),
  aC v2)}
theorem a1u:3^"filler_columns"^["font","filler"]^sp_f1:={50,77,RN,Zi,RM,(au (Bd λ_ _=>(au (aC (Nu>#[v0,v1])))))}
theorem Nv:6^"padded_by"^["font","house","filler"]^sp_f39:={51,76,Lp,Wx,Ln,(aW (aF j9 (aB K rfl<#[a1u>#[v0,v2]]) aj (aJ _)) (au bT) aH,
  Bd λ_ _=>(au (aC (a06>#[v1,v2]))))}
theorem a0f:4^"filled"^["font","house","filler","row","wide"]^sp_f59:={52,78,Lr,Wy,Lq,(5&&a0e>#[v0,v3],
  aW (eG (bF K rfl (a05>#[v1,v3]) (λ_=>rfl))) (au bT) aH,
  aW (aF lJ (aB K rfl<#[v5]) v4 (aJ _)) (au bT) aH,
  aC (aD pJ v5 (aD TX (Nu>#[v0,v2]) (aD km v4 (aB K rfl<#[v5])))))}
theorem a0g:7^"page"^["font","house","filler","rows","wide"]^sp_f70:={53,75,zQ,WD,Ls,(bj (Nv>#[v0,v1,v2]),
  aC {[none,some 0,some 1,some 2,some 4],["row","font","house","filler","wide"],aR K rfl v3,75,zQ,{0,["row","font","house","filler","wide"]},bC,(a0f>#[v1,v2,v3,v0,v4])})}
theorem a0h:7^"read_row"^["font","house","filler","strip"]^sp_f46:={54,80,LQ,WL,LK,(4&&a0d>#[v0,v1,v3],
  aW (aF jl v4 bK (aJ _)) (au (aC bK)) aH,
  aC (b8 #[jx K rfl τ PySem.F.slot_str_rstrip PySem.F.type_str_rstrip Do (v4+aj) #[v2],v4+aj,v4+aj]))}
theorem a0i:8^"read_page"^["font","house","filler","strips"]^sp_f37:={55,79,zR,WM,LR,(gP (i:=4) nd rfl (Or.inr rfl) (Nv>#[v0,v1,v2]),
  aC {[none,some 0,some 4,some 2],["strip","font","house_of_rows","filler"],aR K rfl v3,79,zR,{0,["strip","font","house_of_rows","filler"]},bC,(a0h>#[v1,v2,v3,v0])})}
theorem a0j:9^"page_mends"^["font","house","filler"]^sp_f29:={56,81,M4,WN,M3,(au (aC (ZZ>#[v0,Nv>#[v0,v1,v2]])))}
theorem T5:3^"sheet"^["height","strips"]^sp_f62:={57,83,M6,WP,M5,(2&&bV cW,
  aR K rfl v1::↑3::(bj (Su>#[v1-aj,v3]),
  bj (jx K rfl Ĩ Γ Δ mK v2 #[ZC>#[v0,v3]])),
  aC v2)}
theorem T7:4^"strips_of"^["height","lines"]^sp_f36:={58,84,zT,WQ,M7,(aW (aF j9 (aD aX (aB K rfl<#[v1]) v0) aj (aJ _)) (au bT) aH,
  aR K rfl v1::↑2::au (bj (Sw>#[v2,aB K rfl<#[v1-aj]])),
  aC {[none,some 1,some 0],["first","lines","height"],CW rfl z_range #[aj,aB K rfl<#[v1],v0],84,zT,{0,["first","lines","height"]},bC,(ZF>#[cY (ju K rfl) v1 (cO v0) (cO (aD aZ v0 v2))])})}
theorem zY:1^"_law_cell_at"^["script","k"]^sp_f9:={59,86,RQ,Zk,RP,(aW (aF pC v1 (aB K rfl<#[v0]) (aJ _)) (au (aC (v0-v1))) aH,
  aC aj)}
theorem Ny:1^"_law_whole"^["found"]^sp_f25:={60,87,M9,WR,M8,(au (aC (kj (cJ K rfl<#[v0,iB (v:=.ty "int") (u:=.type "int") rfl z_int (by ac_nf) rfl]) (mF (Eu (cJ K rfl<#[v0,iB (v:=.ty "bool") (u:=.type "bool") rfl z_bool (by ac_nf) rfl]))))))}
theorem a0k:1^"_law_height"^["cell"]^sp_f11:={62,89,Mg,WX,Mf,(aW (aF dC (aD aX v0 aj) aj (aJ _)) (au (aC (aD aZ aj (aD aX (aD cT v0 aj) aj)))) aH,
  aW (aF dC (aD aX v0 aj) aj (aJ _)) (au (aC (aD aZ aj (aD aX (aD cT v0 aj) aj)))) aH,
  aC (aD aZ aj (aD aX (aD cT v0 aj) aj)))}
theorem a0l:1^"_law_columns"^["cell","many","height"]^sp_f6:={63,90,RV,Zm,RT,(3&&bV cW,
  bD rfl z_range #[v1]::↑4::(5&&aD aZ (aD dm v0 (aD aZ (aD dm aj v4) aj)) (aD dm v4 v4),
  bj (v3++#[aD aX (aD cT (aD dm v5 aj) aj) (aD xU aj v2)])),
  aC (bh (c7 K rfl) rfl z_tuple (by ac_nf) #[v3]))}
theorem a0m:1^"_law_sums"^["cell","signs","few"]^sp_f31:={66,93,zW,WY,Mq,(gP (i:=3) nd rfl (Or.inr rfl) (aD aZ aj (aD aX v0 (bV #[aj,aj,aj,aj]-v2))),
  4&&bV cW,
  bD rfl z_range #[v3]::oA (i:=5) nd rfl (Or.inr rfl)::au (bj (v4++#[bh (kW K rfl) rfl z_tuple (by ac_nf) #[{[none,some 1,some 5,some 3],["k","signs","room","many"],bD rfl z_range #[aB K rfl<#[v1]],93,zW,{0,["k","signs","room","many"]},bC,b8 #[v1-v0,aD aX (aD aZ (aD aZ v2 v0) aj) v3]}]])),
  aC (b8 #[bh (c7 K rfl) rfl z_tuple (by ac_nf) #[v4],b8 #[aj]]))}
theorem a0n:2^"_law_house"^["cell","signs","few"]^sp_f20:={67,94,zX,X3,Mt,(aW (aF dC (aD aX v0 aj) aj (aJ _)) (au (aC (a0m>#[aD cT v0 aj,v1,v2]))) aH,
  3&&aD aZ aj (aD aX v0 (bV #[aj,aj,aj,aj]-v2)),
  4&&bV cW,
  bD rfl z_range #[v3]::↑5::(6&&bV cW,
  bD rfl z_range #[aB K rfl<#[v1]]::↑7::(8&&aD aZ (aD cT v0 aj) (aD dm (aD dm aj (aD aZ (aD aZ (aD dm v5 aj) v7) aj)) (aD aZ (aD aZ v5 v7) aj)),
  8&&aD aX (aD dm v8 aj) aj,
  aW (aF j9 (aD aX v8 aj) aj (aJ _)) (au (bj (v6++#[b8 #[v1-v7,aD aX (aD cT v8 aj) v3]]))) aH),
  bj (v4++#[bh (kW K rfl) rfl z_tuple (by ac_nf) #[v6]])),
  nJ (i:=9) [none,some 0] ["room","cell"] rfl nd rfl rfl (bD rfl z_range #[v3]) (show CScope (bu (top 94)) _ from⟨rfl,by ac_nf,by ac_nf,by ac_nf⟩) (show capOk [none,some 0] ["room","cell"] (zX:List Str) _=true from by ac_nf) (λ_ _ _ _ _ _=>{0,["room","cell"]}) (λ_ _ _ _ _ _=>fQ (aF dC (aD aX (aD Fb (aD cT v1 aj) v0) aj) aj (aJ _))) (λ_ _ _ _ _ _=>v0),
  aC (b8 #[bh (c7 K rfl) rfl z_tuple (by ac_nf) #[v4],bh (c7 K rfl) rfl z_tuple (by ac_nf) #[v9]]))}
theorem a0o:1^"_law_taken"^["house","text"]^sp_f18:={68,95,Mw,X4,Mv,(2&&bK,
  3&&aj,
  bD rfl z_range #[aD aZ (aB K rfl<#[v1]) aj]::↑4::(aW (aF (gr K rfl) v3 (v0+aj) (by with_unfolding_all rfl)) (au (2&&cY Ug v1 jK (cO v4))) aH,
  5&&bh (iU K rfl rfl) rfl z_dict (by ac_nf) #[v0+aj+v3],
  aW (PW.pt (lF (aF dC v4 (aB K rfl<#[v1]) (aJ _)) (jj (gb (ie (bG hr) (nG mJ v1 v4 (λ_ _=>rfl)) v5) (by with_unfolding_all rfl))))) (au (aC v2)) aH,
  3&&cP (bG hr) v5 (nG mJ v1 v4 (λ_ _=>rfl)) (λ_ _=>rfl)),
  aC v2)}
theorem a0p:2^"_law_rows"^["house","signs","cells"]^sp_f32:={69,96,vd,X5,My,(3&&bV #[eF],
  aR K rfl v2::↑4::(aW (PW.pt (lF (PW.pt (kh (aF lJ (aB K rfl<#[v3-pA kE aj]) aj (aJ _)) (iC (aF dC (aD aX v4 aj) aj (aJ _))))) (jj (aF dC (aB K rfl<#[v3-pA kE aj]) aj (aJ _))))) (au (bj (v3++#[eF]))) aH,
  p7 (aD gf (v3-pA kE aj) (v1-aD aX (aD aX (aD dm v4 aj) aj) (aB K rfl<#[v1]))) (oZ v3 (pA kE aj) set_list)),
  nJ (i:=5) [none,some 0] ["text","house"] rfl nd rfl rfl (aR K rfl v3) (show CScope (bu (top 96)) _ from⟨rfl,by ac_nf,by ac_nf,by ac_nf⟩) (show capOk [none,some 0] ["text","house"] (vd:List Str) _=true from by ac_nf) (λ_ _ _ _ _ _=>{0,["text","house"]}) (λ_ _ _ _ _ _=>bC) (λ_ _ _ _ _ _=>(a0o>#[v1,v0])),
  aC {[none],["row"],aR K rfl v5,96,vd,{0,["row"]},fQ (aF lK v0 bK (aJ _)),v0})}
theorem a0q:1^"_law_blots"^["cells","many","wide","height","most"]^sp_f16:={70,97,vf,X6,MJ,(nJ (i:=5) [none] ["k"] rfl nd rfl rfl (bD rfl z_range #[v1]) (show CScope (bu (top 97)) _ from⟨rfl,by ac_nf,by ac_nf,by ac_nf⟩) (show capOk [none] ["k"] (vf:List Str) _=true from by ac_nf) (λ_ _ _ _ _ _=>{0,["k"]}) (λ_ _ _ _ _ _=>bC) (λ_ _ _ _ _ _=>pM),
  nJ (i:=6) [none] ["k"] rfl nd rfl rfl (bD rfl z_range #[v1]) (show CScope (bu (top 97)) _ from⟨rfl,by ac_nf,by ac_nf,by ac_nf⟩) (show capOk [none] ["k"] (vf:List Str) _=true from by ac_nf) (λ_ _ _ _ _ _=>{0,["k"]}) (λ_ _ _ _ _ _=>bC) (λ_ _ _ _ _ _=>aj),
  bD rfl z_range #[aB K rfl<#[v0]]::↑7::(8&&aD aX v7 v1,
  aW (PW.pt (lF (aF jl v4 bK (aJ _)) (jj (aF pC (v6-v8) v4 (aJ _))))) (9&&aD aX (aD aX (aD dm (v0-v7) aj) aj) v2,
  10&&aD aX (aD aX (aD dm (v0-v7) aj) aj) v3,
  p7 (aD aZ (v6-v8) aj) (oZ v6 v8 set_list),
  dM (bG hr) (v5-v8) (b8 #[v9,Sq]) (aD km aj (G5 (bG hr) (v5-v8) (b8 #[v9,Sq]) aj ⟨rfl,rfl,rfl,rfl⟩)) rfl) aH),
  aC v5)}
theorem a1v:1^"_law_blotted"^["strip","blots"]^sp_f5:={71,98,S9,Zt,S8,(2&&bh (d7 K rfl) rfl z_list (by ac_nf) #[v0],
  3&&aj,
  Pn v1::↑4::au (aW (aF dC (cP (bG hr) v1 v4 (λ_ _=>rfl)) aj (aJ _)) (p7 (aD Fe (v2-(v4+aj)) (aD xU aj (v4+aj))) (oZ v2 (v4+aj) set_list),
  3&&aD aZ v3 aj) aH),
  aC (b8 #[v2,v3]))}
theorem a0r:2^"_law_read"^["told","row","far","most"]^sp_f33:={72,99,MP,X7,MN,(aW (PW.pt (lF (eG (bF K rfl (cJ K rfl<#[v0,iB (v:=.ty "tuple") (u:=.type "tuple") rfl z_tuple (by ac_nf) rfl]) (λ_=>rfl))) (lF (aF j9 (aB K rfl<#[v0]) aj (aJ _)) (jj (eG (bF K rfl (cJ K rfl<#[v0+aj,iB (v:=.ty "str") (u:=.type "str") rfl z_str (by ac_nf) rfl]) (λ_=>rfl))))))) (au (aC oY)) aH,
  aW (PW.pt (lF (eG (bF K rfl (Ny>#[v0+aj]) (λ_=>rfl))) (jj (eG (bF K rfl (Ny>#[v0+aj]) (λ_=>rfl)))))) (au (aC oY)) aH,
  aW (PW.pt (kh (aF lK v3 bK (aJ _)) (iC (aF pC v3 aj (aJ _))))) (au (aC (kj (dH dC (v0+aj) aj (aJ _)) (mF (dH XR (v0+aj) aj (aJ _)))))) aH,
  aC (dH (Ak K rfl hr.units) v0 (b8 #[v1,v2,aj]) (aJ _)))}
end
theorem Xe (X:K.In h) (G:h.Ns mainGlobals mg) (hfa:mg "law"=some (.ref fa)) (e:obs K=ans)
  :∃fd:FuncData,(∀ (s:Shared) (v:Value),BindsTo s fd ⟨[v],[]⟩ [Prod.mk "script" v])/\∀base:Heap,K.In base->base.Ns mainGlobals mg->FnOk pWo w K mg base TY 10 fa fd ["script"] (sp_f72 K):=by
 have e1:nms.map (nsIn K mainGlobals)=vls:=Ý (·.1) e;have e2:Xh.map (λd=>Xf K d.1)=Xh.map (λd=>Xg none d.1 d.2):=Ý (·.2.1) e;have e3:=Ý (·.2.2) e;obtain @⟨_,_,kV,dc,pm,cd,ct,_,an,_,a,lL,qL,kL⟩:=Nr (iz e2 73 rfl rfl:Xf K "law"=Xg none "law" 100)
 cases hfa.symm.trans (mg_of X G a);refine ⟨fnOf "law" "law" (gF (top 100)) (fM (top 100)) (bu (top 100)) .none kV dc pm an cd ct,λs v=>.of_eq rfl,λbase _ _=>?_⟩;have z_isinstance:mg "isinstance"=none:=mg_none_of X G (iz e1 0 rfl rfl);have z_bool:mg "bool"=none:=mg_none_of X G (iz e1 1 rfl rfl);have z_int:mg "int"=none:=mg_none_of X G (iz e1 2 rfl rfl);have z_len:mg "len"=none:=mg_none_of X G (iz e1 3 rfl rfl);have z_str:mg "str"=none:=mg_none_of X G (iz e1 4 rfl rfl);have z_ord:mg "ord"=none:=mg_none_of X G (iz e1 5 rfl rfl);have z_sum:mg "sum"=none:=mg_none_of X G (iz e1 6 rfl rfl);have z_zip:mg "zip"=none:=mg_none_of X G (iz e1 7 rfl rfl);have z_range:mg "range"=none:=mg_none_of X G (iz e1 8 rfl rfl);have z_enumerate:mg "enumerate"=none:=mg_none_of X G (iz e1 9 rfl rfl);have z_dict:mg "dict"=none:=mg_none_of X G (iz e1 10 rfl rfl);have z_min:mg "min"=none:=mg_none_of X G (iz e1 11 rfl rfl);have z_max:mg "max"=none:=mg_none_of X G (iz e1 12 rfl rfl);have z_list:mg "list"=none:=mg_none_of X G (iz e1 13 rfl rfl);have z_tuple:mg "tuple"=none:=mg_none_of X G (iz e1 14 rfl rfl);have z_sorted:mg "sorted"=none:=mg_none_of X G (iz e1 15 rfl rfl);have g_GREATEST_HEIGHT:mg "GREATEST_HEIGHT"=some (.int 60 321)/\RelV (V.int 60) (.int 60 321):=⟨mg_of X G (iz e1 16 rfl rfl),_,rfl⟩;have g_LEFT_OUT:mg "LEFT_OUT"=some (.int 37 323)/\RelV (V.int 37) (.int 37 323):=⟨mg_of X G (iz e1 17 rfl rfl),_,rfl⟩;have g_DOT:mg "DOT"=some (.str (Str.ofString "#") 373)/\RelV (V.str (Str.ofString "#")) (.str (Str.ofString "#") 373):=⟨mg_of X G (iz e1 18 rfl rfl),_,rfl⟩;have g_NO_DOT:mg "NO_DOT"=some (.str (Str.ofString ".") 375)/\RelV (V.str (Str.ofString ".")) (.str (Str.ofString ".") 375):=⟨mg_of X G (iz e1 19 rfl rfl),_,rfl⟩;have g_MOST_ROOMS:mg "MOST_ROOMS"=some (.int 40 617)/\RelV (V.int 40) (.int 40 617):=⟨mg_of X G (iz e1 20 rfl rfl),_,rfl⟩;have k_BlotError:mg "BlotError"=some (.ref aK0)/\ExcK K aK0:=⟨mg_of X G (iz e1 21 rfl rfl),jJ (iz e3 0 rfl rfl)⟩;have k_NotAlike:mg "NotAlike"=some (.ref aK5)/\ExcK K aK5:=⟨mg_of X G (iz e1 22 rfl rfl),jJ (iz e3 1 rfl rfl)⟩;have k_NoSheet:mg "NoSheet"=some (.ref aK3)/\ExcK K aK3:=⟨mg_of X G (iz e1 23 rfl rfl),jJ (iz e3 2 rfl rfl)⟩;have k_NoSign:mg "NoSign"=some (.ref aK4)/\ExcK K aK4:=⟨mg_of X G (iz e1 24 rfl rfl),jJ (iz e3 3 rfl rfl)⟩;have k_NoHouse:mg "NoHouse"=some (.ref aK2)/\ExcK K aK2:=⟨mg_of X G (iz e1 25 rfl rfl),jJ (iz e3 4 rfl rfl)⟩;have k_TooWide:mg "TooWide"=some (.ref aK7)/\ExcK K aK7:=⟨mg_of X G (iz e1 26 rfl rfl),jJ (iz e3 5 rfl rfl)⟩;have k_NoFiller:mg "NoFiller"=some (.ref aK1)/\ExcK K aK1:=⟨mg_of X G (iz e1 27 rfl rfl),jJ (iz e3 6 rfl rfl)⟩;have k_NotTaken:mg "NotTaken"=some (.ref aK6)/\ExcK K aK6:=⟨mg_of X G (iz e1 28 rfl rfl),jJ (iz e3 7 rfl rfl)⟩;have c_f26:Cal pWo w K mg base 1 "_law_signs" [] (lA K):=ck (st:=top 88) X G (Nr (iz e2 61 rfl rfl)) (λ_ _ _ _ _ _=>ar0 rfl) λ_ _ F=>F.ok (N:=zU) ⟨rfl,rfl,rfl,by ac_nf,rfl,by ac_nf,by ac_nf⟩ (λ_ _ _ _ h=>WW h) λcdv A outer s H vs Q E hr h=>by
  have nd:List.Nodup zU:=by ac_nf
  obtain⟨Eh,h⟩:=WT h;exact ⟨Ma K E Eh,(0&&eF,
   aC (aD gf v0 eF)),h⟩
 have c_f8:2^"_law_letters"^["script","height"]^sp_f8:={64,91,RX,Zo,RW,(2&&Aj c_f26 hr (by decide) rfl,
   3&&zY>#[v0,aj],
   4&&aD aZ aj (aD aX v3 aj),
   5&&aD aX (zY>#[v0,aj]) aj,
   6&&ig,
   bD rfl z_range #[v4]::↑7::(8&&aD aX (aD dm (aD aZ (aD aZ (aD aZ (zY>#[v0,aj]) (aD dm (aD dm aj v7) v7)) (aD dm aj v7)) aj) aj) aj,
   5&&aD aZ (aD aZ v5 aj) (aD aX v8 aj),
   dM (bG hr) v6 (nG mJ v2 (aD aX v5 aj) (λ_ _=>rfl)) (a0l>#[v8,aD aZ aj (aD aX (aD cT v8 aj) aj),v1]) rfl,
   aW (aF dC v7 (aD aX (aD cT v3 aj) v4) (aJ _)) (dM (bG hr) v6 (nG mJ v2 (aD aX v5 aj) (λ_ _=>rfl)) (a0l>#[v8,aj,v1]) rfl,
   dM (bG hr) v6 eF (nG mJ v2 (aD aX v5 aj) (λ_ _=>rfl)) rfl) aH),
   aC v6)}
 have c_f0:2^"_law_house_signs"^["cell","letters","known"]^sp_f0:={65,92,Ml,Zq,RZ,(nJ (i:=3) [none,some 1] ["sign","letters"] rfl nd rfl rfl (pQ (Aj c_f26 hr (by decide) rfl)) (show CScope (bu (top 92)) _ from⟨rfl,by ac_nf,by ac_nf,by ac_nf⟩) (show capOk [none,some 1] ["sign","letters"] (Ml:List Str) _=true from by ac_nf) (λ_ _ _ _ _ _=>{0,["sign","letters"]}) (λ_ _ _ _ _ _=>fQ (gb (ie (bG hr) v0 v1) (by with_unfolding_all rfl))) (λ_ _ _ _ _ _=>v0),
   aW (aF dC (aD aX v0 aj) aj (aJ _)) (au (aC v2)) aH,
   aC (nM K rfl<#[aD pJ v2 (bV #[v3-aD aX (aD cT v0 aj) (aB K rfl<#[v3])])]))}
 have F:=yh (st:=top 100) lL qL kL;exact F.ok (N:=lB) ⟨rfl,rfl,rfl,by ac_nf,rfl,by ac_nf,by ac_nf⟩ (λ_ _ _ _ h=>Xd h) λcdv A outer s H vs Q E hr h=>by
  have nd:List.Nodup lB:=by ac_nf
  obtain⟨Eh,h⟩:=Xc h;exact ⟨Nq K E Eh,(1&&a0k>#[zY>#[v0,aj]],
   gP (i:=2) nd rfl (Or.inr rfl) (ym c_f8 hr (by decide) rfl #[v0,v1]),
   gP (i:=3) nd rfl (Or.inr rfl) (cP (bG hr) v2 eF (λ_ _=>rfl)),
   4&&nM K rfl<#[{[none,some 3],["sign","filler"],wA v2,100,lB,{0,["sign","filler"]},fQ (aF (rA K rfl) v0 (bV #[eF,v1]) (by with_unfolding_all rfl)),v0}],
   5&&b8 #[v1,bh (kW K rfl) rfl z_tuple (by ac_nf) #[{[none,some 2],["sign","letters"],aR K rfl (wg rfl<#[v2]),100,lB,{0,["sign","letters"]},fQ (aF j9 v0 eF (aJ _)),b8 #[v0,cP (bG hr) v1 v0 (λ_ _=>rfl)]}]],
   6&&ym c_f0 hr (by decide) rfl #[aD cT (zY>#[v0,aj]) aj,v2,v4],
   7&&a0n>#[zY>#[v0,aj],v6,aB K rfl<#[v4]],
   8&&a0p>#[v7,v4,cY (ju K rfl) v0 (cO aj) (cO aj)],
   9&&yt K rfl rfl<#[aD pJ (bV #[aj]) {[none,some 2],["row","letters"],aR K rfl v8,100,lB,{0,["row","letters"]},bC,(sE K rfl rfl<#[R9 [none,some 1] ["sign","letters"] rfl (pQ v0) (CScope.nest rfl (by ac_nf) (by ac_nf) (by ac_nf)) (show capOk [none,some 1] ["sign","letters"] (["row","letters"]:List Str) _=true from by ac_nf) (λ_ _ _ _ _ _=>{0,["sign","letters"]}) (λ_ _ _ _ _ _=>bC) (λ_ _ _ _ _ _=>(aB K rfl<#[cP (bG hr) v1 v0 (λ_ _=>rfl)]))])}],
   9&&aD aZ v9 (aD aX (zY>#[v0,aj]) aj),
   10&&a0j>#[v5,v7,v3],
   aW (PW.pt (kh (aF lK Sq bK (aJ _)) (iC (PW.pt (lF (eG (bF K rfl (Ny>#[Sq]) (λ_=>rfl))) (jj (aF pC Sq (pA kE aj) (aJ _)))))))) (au (aC oY)) aH,
   nJ (i:=11) [none] ["row"] rfl nd rfl rfl (aR K rfl v8) (show CScope (bu (top 100)) _ from⟨rfl,by ac_nf,by ac_nf,by ac_nf⟩) (show capOk [none] ["row"] (lB:List Str) _=true from by ac_nf) (λ_ _ _ _ _ _=>{0,["row"]}) (λ_ _ _ _ _ _=>bC) (λ_ _ _ _ _ _=>pM),
   aW (PW.pt (kh (aF lJ v9 aj (aJ _)) (iC (aF (ul K rfl hr.units) v8 (bV cW) (aJ _))))) (au (11&&a0q>#[cY (ju K rfl) v0 (cO aj) (cO aj),aB K rfl<#[v8],v9,v1,Sq])) aH,
   12&&bV cW,
   13&&bV cW,
   Gf K rfl rfl rfl z_zip #[a0g>#[v5,v7,v3,bh (d7 K rfl) rfl z_list (by ac_nf) #[v8],v9],v11]::cL K rfl rfl (aO ↑14 (aO ↑15 cH))::(16&&a1v>#[v14,v15],
   bj (Zu++#[v16+aj]),
   bj (v13++#[v16+aj])),
   aW (PW.pt (lF (aF (ul K rfl hr.units) (T7>#[v1,T5>#[v1,Zu]]) Zu (aJ _)) (jj (aF j9 (aB K rfl<#[Zu]) (aB K rfl<#[v8]) (aJ _))))) (au (aC oY)) aH,
   17&&a0i>#[v5,v7,v3,T7>#[v1,T5>#[v1,Zu]]],
   bD rfl z_range #[aB K rfl<#[v8]]::↑18::au (aW (eG (bF K rfl (a0r>#[v17-v18,v8-v18,v13-v18,Sq]) (λ_=>rfl))) (au (aC oY)) aH),
   aC (dH dC (aB K rfl<#[v17]) (aB K rfl<#[v8]) (aJ _))),h⟩
end
theorem fin:PySem.Challenge.rw_blotsure_k67_whole_page_read_again.Holds:=by
 refine holds_law said λsaid=>holds_open (q:=vw) (loose:=lo) (Xt:=λs=>xlAt vw [] s&&recOk [] s) (XP:=XL vw []) (Ya:=λ_=>ans) (YP:=λ_ h=>∃K:Frag,K.In h/\obs K=ans) left (λw s e=>⟨_,NZ,e⟩) (λw h h' ⟨K,X,e⟩ k=>⟨K,Frag.In.keeps X k,e⟩) (λs e=>xl_of s (Bool.and_eq_true_iff.mp e).1) XL.keeps (by rfl) (by rfl) (by rfl) (λs e=>recFacts_of (Bool.and_eq_true_iff.mp e).2) (by rfl) said (by ac_nf) ⟨rfl,rfl,rfl,rfl,rfl,by ac_nf⟩ ?hw ?hc
 case hw=>w_witness2
 rintro w s s' mg mb G ⟨K,X,e⟩;exact L2.Oe (n:=63) (k:=10) (x:="script") (CX:=λ_=>L2.TY) (K:=λ_=>K) (YP:=λ_ h=>K.In h) (sp:=λ_=>sp_f72 K) rfl (by decide) rfl ⟨rfl,by decide,by decide⟩ (λ_ _ Y=>Y) (λ_ _ _ _ KX G hmg=>Xe KX G hmg e) (λ_ _ a ns hl _ hS=>⟨a,ns,rfl,hS,hl,λ_=>rfl⟩) (λ_ _ _ _ _ z=>z) w s s' mg mb G X
end Pg
open PySem PySem.W PyProof.Rows
theorem PySem.Challenge.cw_blotsure_k67_whole_page_read_again_holds : PySem.Challenge.rw_blotsure_k67_whole_page_read_again.Holds :=
 Pg.fin
